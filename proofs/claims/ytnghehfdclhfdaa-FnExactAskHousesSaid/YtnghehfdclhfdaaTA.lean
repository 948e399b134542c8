/- What is known of the types of this program: their sizes, zero values and parts. -/
import Derived.Test.YtnghehfdclhfdaaProg
import Derived.Test.YtnghehfdclhfdaaTY
import Derived.KernelRfl
namespace Go.Proofs.Ytnghehfdclhfdaa
open Go Go.Eng
set_option linter.unusedSimpArgs false
set_option linter.unusedVariables false
set_option maxRecDepth 20000
/-- int64 -/
def t2 : TI := ⟨1, 8, .int .i64 0, .lit (.int .i64 0), .lit (.int .i64 0), .int .i64, false⟩
@[simp] theorem t2_size : t2.size = 1 := rfl
@[simp] theorem t2_bytes : t2.bytes = 8 := rfl
@[simp] theorem t2_z : t2.z = .lit (.int .i64 0) := rfl
@[simp] theorem t2_y : t2.y = .lit (.int .i64 0) := rfl
@[simp] theorem t2_kind : t2.kind = .int .i64 := rfl
@[simp] theorem t2_cmp : t2.cmp = false := rfl
/-- int -/
def t3 : TI := ⟨1, 8, .int .i64 0, .lit (.int .i64 0), .lit (.int .i64 0), .int .i64, false⟩
@[simp] theorem t3_size : t3.size = 1 := rfl
@[simp] theorem t3_bytes : t3.bytes = 8 := rfl
@[simp] theorem t3_z : t3.z = .lit (.int .i64 0) := rfl
@[simp] theorem t3_y : t3.y = .lit (.int .i64 0) := rfl
@[simp] theorem t3_kind : t3.kind = .int .i64 := rfl
@[simp] theorem t3_cmp : t3.cmp = false := rfl
/-- bool -/
def t4 : TI := ⟨1, 1, .bool false, .lit (.bool false), .lit (.bool false), .bool, false⟩
@[simp] theorem t4_size : t4.size = 1 := rfl
@[simp] theorem t4_bytes : t4.bytes = 1 := rfl
@[simp] theorem t4_z : t4.z = .lit (.bool false) := rfl
@[simp] theorem t4_y : t4.y = .lit (.bool false) := rfl
@[simp] theorem t4_kind : t4.kind = .bool := rfl
@[simp] theorem t4_cmp : t4.cmp = false := rfl
/-- uint8 -/
def t5 : TI := ⟨1, 1, .int .u8 0, .lit (.int .u8 0), .lit (.int .u8 0), .int .u8, false⟩
@[simp] theorem t5_size : t5.size = 1 := rfl
@[simp] theorem t5_bytes : t5.bytes = 1 := rfl
@[simp] theorem t5_z : t5.z = .lit (.int .u8 0) := rfl
@[simp] theorem t5_y : t5.y = .lit (.int .u8 0) := rfl
@[simp] theorem t5_kind : t5.kind = .int .u8 := rfl
@[simp] theorem t5_cmp : t5.cmp = false := rfl
/-- string -/
def t9 : TI := ⟨1, 16, .string ⟨#[]⟩, .lit (.string ⟨#[]⟩), .lit (.string ⟨#[]⟩), .str, false⟩
@[simp] theorem t9_size : t9.size = 1 := rfl
@[simp] theorem t9_bytes : t9.bytes = 16 := rfl
@[simp] theorem t9_z : t9.z = .lit (.string ⟨#[]⟩) := rfl
@[simp] theorem t9_y : t9.y = .lit (.string ⟨#[]⟩) := rfl
@[simp] theorem t9_kind : t9.kind = .str := rfl
@[simp] theorem t9_cmp : t9.cmp = false := rfl
/-- uintptr -/
def t12 : TI := ⟨1, 8, .int .u64 0, .lit (.int .u64 0), .lit (.int .u64 0), .int .u64, false⟩
@[simp] theorem t12_size : t12.size = 1 := rfl
@[simp] theorem t12_bytes : t12.bytes = 8 := rfl
@[simp] theorem t12_z : t12.z = .lit (.int .u64 0) := rfl
@[simp] theorem t12_y : t12.y = .lit (.int .u64 0) := rfl
@[simp] theorem t12_kind : t12.kind = .int .u64 := rfl
@[simp] theorem t12_cmp : t12.cmp = false := rfl
/-- interface {} -/
def t20 : TI := ⟨1, 16, .nilIface, .lit .nilIface, .lit .nilIface, .iface, false⟩
@[simp] theorem t20_size : t20.size = 1 := rfl
@[simp] theorem t20_bytes : t20.bytes = 16 := rfl
@[simp] theorem t20_z : t20.z = .lit .nilIface := rfl
@[simp] theorem t20_y : t20.y = .lit .nilIface := rfl
@[simp] theorem t20_kind : t20.kind = .iface := rfl
@[simp] theorem t20_cmp : t20.cmp = false := rfl
/-- int32 -/
def t21 : TI := ⟨1, 4, .int .i32 0, .lit (.int .i32 0), .lit (.int .i32 0), .int .i32, false⟩
@[simp] theorem t21_size : t21.size = 1 := rfl
@[simp] theorem t21_bytes : t21.bytes = 4 := rfl
@[simp] theorem t21_z : t21.z = .lit (.int .i32 0) := rfl
@[simp] theorem t21_y : t21.y = .lit (.int .i32 0) := rfl
@[simp] theorem t21_kind : t21.kind = .int .i32 := rfl
@[simp] theorem t21_cmp : t21.cmp = false := rfl
/-- struct { Id int; Kind int; Colour int; Size int; Worth int } -/
def t22 : TI := ⟨5, 40, .agg #[.int .i64 0, .int .i64 0, .int .i64 0, .int .i64 0, .int .i64 0], .agg [.lit (.int .i64 0), .lit (.int .i64 0), .lit (.int .i64 0), .lit (.int .i64 0), .lit (.int .i64 0)], yTThing, .st [(0, 3), (1, 3), (2, 3), (3, 3), (4, 3)], true⟩
@[simp] theorem t22_size : t22.size = 5 := rfl
@[simp] theorem t22_bytes : t22.bytes = 40 := rfl
@[simp] theorem t22_z : t22.z = .agg [.lit (.int .i64 0), .lit (.int .i64 0), .lit (.int .i64 0), .lit (.int .i64 0), .lit (.int .i64 0)] := rfl
@[simp] theorem t22_y : t22.y = yTThing := rfl
@[simp] theorem t22_kind : t22.kind = .st [(0, 3), (1, 3), (2, 3), (3, 3), (4, 3)] := rfl
@[simp] theorem t22_cmp : t22.cmp = true := rfl
/-- laws.Thing = loop.example/g03007/laws.Thing -/
def t23 : TI := ⟨5, 40, .agg #[.int .i64 0, .int .i64 0, .int .i64 0, .int .i64 0, .int .i64 0], .agg [.lit (.int .i64 0), .lit (.int .i64 0), .lit (.int .i64 0), .lit (.int .i64 0), .lit (.int .i64 0)], yTThing, .st [(0, 3), (1, 3), (2, 3), (3, 3), (4, 3)], true⟩
@[simp] theorem t23_size : t23.size = 5 := rfl
@[simp] theorem t23_bytes : t23.bytes = 40 := rfl
@[simp] theorem t23_z : t23.z = .agg [.lit (.int .i64 0), .lit (.int .i64 0), .lit (.int .i64 0), .lit (.int .i64 0), .lit (.int .i64 0)] := rfl
@[simp] theorem t23_y : t23.y = yTThing := rfl
@[simp] theorem t23_kind : t23.kind = .st [(0, 3), (1, 3), (2, 3), (3, 3), (4, 3)] := rfl
@[simp] theorem t23_cmp : t23.cmp = true := rfl
/-- struct { Thing laws.Thing; Place int; At int; Finder int } -/
def t24 : TI := ⟨8, 64, .agg #[.int .i64 0, .int .i64 0, .int .i64 0, .int .i64 0, .int .i64 0, .int .i64 0, .int .i64 0, .int .i64 0], .agg [.lit (.int .i64 0), .lit (.int .i64 0), .lit (.int .i64 0), .lit (.int .i64 0), .lit (.int .i64 0), .lit (.int .i64 0), .lit (.int .i64 0), .lit (.int .i64 0)], yTFind, .st [(0, 23), (5, 3), (6, 3), (7, 3)], true⟩
@[simp] theorem t24_size : t24.size = 8 := rfl
@[simp] theorem t24_bytes : t24.bytes = 64 := rfl
@[simp] theorem t24_z : t24.z = .agg [.lit (.int .i64 0), .lit (.int .i64 0), .lit (.int .i64 0), .lit (.int .i64 0), .lit (.int .i64 0), .lit (.int .i64 0), .lit (.int .i64 0), .lit (.int .i64 0)] := rfl
@[simp] theorem t24_y : t24.y = yTFind := rfl
@[simp] theorem t24_kind : t24.kind = .st [(0, 23), (5, 3), (6, 3), (7, 3)] := rfl
@[simp] theorem t24_cmp : t24.cmp = true := rfl
/-- laws.Find = loop.example/g03007/laws.Find -/
def t25 : TI := ⟨8, 64, .agg #[.int .i64 0, .int .i64 0, .int .i64 0, .int .i64 0, .int .i64 0, .int .i64 0, .int .i64 0, .int .i64 0], .agg [.lit (.int .i64 0), .lit (.int .i64 0), .lit (.int .i64 0), .lit (.int .i64 0), .lit (.int .i64 0), .lit (.int .i64 0), .lit (.int .i64 0), .lit (.int .i64 0)], yTFind, .st [(0, 23), (5, 3), (6, 3), (7, 3)], true⟩
@[simp] theorem t25_size : t25.size = 8 := rfl
@[simp] theorem t25_bytes : t25.bytes = 64 := rfl
@[simp] theorem t25_z : t25.z = .agg [.lit (.int .i64 0), .lit (.int .i64 0), .lit (.int .i64 0), .lit (.int .i64 0), .lit (.int .i64 0), .lit (.int .i64 0), .lit (.int .i64 0), .lit (.int .i64 0)] := rfl
@[simp] theorem t25_y : t25.y = yTFind := rfl
@[simp] theorem t25_kind : t25.kind = .st [(0, 23), (5, 3), (6, 3), (7, 3)] := rfl
@[simp] theorem t25_cmp : t25.cmp = true := rfl
/-- []laws.Report -/
def t26 : TI := ⟨1, 24, .slice none 0 0, .sl true 0 .any [], yLTReport, .slice 44, false⟩
@[simp] theorem t26_size : t26.size = 1 := rfl
@[simp] theorem t26_bytes : t26.bytes = 24 := rfl
@[simp] theorem t26_z : t26.z = .sl true 0 .any [] := rfl
@[simp] theorem t26_y : t26.y = yLTReport := rfl
@[simp] theorem t26_kind : t26.kind = .slice 44 := rfl
@[simp] theorem t26_cmp : t26.cmp = false := rfl
/-- []int -/
def t28 : TI := ⟨1, 24, .slice none 0 0, .sl true 0 .any [], yLI, .slice 3, false⟩
@[simp] theorem t28_size : t28.size = 1 := rfl
@[simp] theorem t28_bytes : t28.bytes = 24 := rfl
@[simp] theorem t28_z : t28.z = .sl true 0 .any [] := rfl
@[simp] theorem t28_y : t28.y = yLI := rfl
@[simp] theorem t28_kind : t28.kind = .slice 3 := rfl
@[simp] theorem t28_cmp : t28.cmp = false := rfl
/-- impl.Thing = loop.example/g03007/impl.Thing -/
def t30 : TI := ⟨5, 40, .agg #[.int .i64 0, .int .i64 0, .int .i64 0, .int .i64 0, .int .i64 0], .agg [.lit (.int .i64 0), .lit (.int .i64 0), .lit (.int .i64 0), .lit (.int .i64 0), .lit (.int .i64 0)], yTThing, .st [(0, 3), (1, 3), (2, 3), (3, 3), (4, 3)], true⟩
@[simp] theorem t30_size : t30.size = 5 := rfl
@[simp] theorem t30_bytes : t30.bytes = 40 := rfl
@[simp] theorem t30_z : t30.z = .agg [.lit (.int .i64 0), .lit (.int .i64 0), .lit (.int .i64 0), .lit (.int .i64 0), .lit (.int .i64 0)] := rfl
@[simp] theorem t30_y : t30.y = yTThing := rfl
@[simp] theorem t30_kind : t30.kind = .st [(0, 3), (1, 3), (2, 3), (3, 3), (4, 3)] := rfl
@[simp] theorem t30_cmp : t30.cmp = true := rfl
/-- struct { Thing impl.Thing; Place int; At int; Finder int } -/
def t31 : TI := ⟨8, 64, .agg #[.int .i64 0, .int .i64 0, .int .i64 0, .int .i64 0, .int .i64 0, .int .i64 0, .int .i64 0, .int .i64 0], .agg [.lit (.int .i64 0), .lit (.int .i64 0), .lit (.int .i64 0), .lit (.int .i64 0), .lit (.int .i64 0), .lit (.int .i64 0), .lit (.int .i64 0), .lit (.int .i64 0)], yTFind, .st [(0, 30), (5, 3), (6, 3), (7, 3)], true⟩
@[simp] theorem t31_size : t31.size = 8 := rfl
@[simp] theorem t31_bytes : t31.bytes = 64 := rfl
@[simp] theorem t31_z : t31.z = .agg [.lit (.int .i64 0), .lit (.int .i64 0), .lit (.int .i64 0), .lit (.int .i64 0), .lit (.int .i64 0), .lit (.int .i64 0), .lit (.int .i64 0), .lit (.int .i64 0)] := rfl
@[simp] theorem t31_y : t31.y = yTFind := rfl
@[simp] theorem t31_kind : t31.kind = .st [(0, 30), (5, 3), (6, 3), (7, 3)] := rfl
@[simp] theorem t31_cmp : t31.cmp = true := rfl
/-- impl.Find = loop.example/g03007/impl.Find -/
def t32 : TI := ⟨8, 64, .agg #[.int .i64 0, .int .i64 0, .int .i64 0, .int .i64 0, .int .i64 0, .int .i64 0, .int .i64 0, .int .i64 0], .agg [.lit (.int .i64 0), .lit (.int .i64 0), .lit (.int .i64 0), .lit (.int .i64 0), .lit (.int .i64 0), .lit (.int .i64 0), .lit (.int .i64 0), .lit (.int .i64 0)], yTFind, .st [(0, 30), (5, 3), (6, 3), (7, 3)], true⟩
@[simp] theorem t32_size : t32.size = 8 := rfl
@[simp] theorem t32_bytes : t32.bytes = 64 := rfl
@[simp] theorem t32_z : t32.z = .agg [.lit (.int .i64 0), .lit (.int .i64 0), .lit (.int .i64 0), .lit (.int .i64 0), .lit (.int .i64 0), .lit (.int .i64 0), .lit (.int .i64 0), .lit (.int .i64 0)] := rfl
@[simp] theorem t32_y : t32.y = yTFind := rfl
@[simp] theorem t32_kind : t32.kind = .st [(0, 30), (5, 3), (6, 3), (7, 3)] := rfl
@[simp] theorem t32_cmp : t32.cmp = true := rfl
/-- []impl.Report -/
def t34 : TI := ⟨1, 24, .slice none 0 0, .sl true 0 .any [], yLTReport, .slice 51, false⟩
@[simp] theorem t34_size : t34.size = 1 := rfl
@[simp] theorem t34_bytes : t34.bytes = 24 := rfl
@[simp] theorem t34_z : t34.z = .sl true 0 .any [] := rfl
@[simp] theorem t34_y : t34.y = yLTReport := rfl
@[simp] theorem t34_kind : t34.kind = .slice 51 := rfl
@[simp] theorem t34_cmp : t34.cmp = false := rfl
/-- struct { From int; Until int } -/
def t41 : TI := ⟨2, 16, .agg #[.int .i64 0, .int .i64 0], .agg [.lit (.int .i64 0), .lit (.int .i64 0)], yTSpan, .st [(0, 3), (1, 3)], true⟩
@[simp] theorem t41_size : t41.size = 2 := rfl
@[simp] theorem t41_bytes : t41.bytes = 16 := rfl
@[simp] theorem t41_z : t41.z = .agg [.lit (.int .i64 0), .lit (.int .i64 0)] := rfl
@[simp] theorem t41_y : t41.y = yTSpan := rfl
@[simp] theorem t41_kind : t41.kind = .st [(0, 3), (1, 3)] := rfl
@[simp] theorem t41_cmp : t41.cmp = true := rfl
/-- laws.Span = loop.example/g03007/laws.Span -/
def t42 : TI := ⟨2, 16, .agg #[.int .i64 0, .int .i64 0], .agg [.lit (.int .i64 0), .lit (.int .i64 0)], yTSpan, .st [(0, 3), (1, 3)], true⟩
@[simp] theorem t42_size : t42.size = 2 := rfl
@[simp] theorem t42_bytes : t42.bytes = 16 := rfl
@[simp] theorem t42_z : t42.z = .agg [.lit (.int .i64 0), .lit (.int .i64 0)] := rfl
@[simp] theorem t42_y : t42.y = yTSpan := rfl
@[simp] theorem t42_kind : t42.kind = .st [(0, 3), (1, 3)] := rfl
@[simp] theorem t42_cmp : t42.cmp = true := rfl
/-- struct { Id int; Kind int; Colours []int; SizeLow int; SizeHigh int; Places []int; Span laws.Span } -/
def t43 : TI := ⟨8, 96, .agg #[.int .i64 0, .int .i64 0, .slice none 0 0, .int .i64 0, .int .i64 0, .slice none 0 0, .int .i64 0, .int .i64 0], .agg [.lit (.int .i64 0), .lit (.int .i64 0), .sl true 0 .any [], .lit (.int .i64 0), .lit (.int .i64 0), .sl true 0 .any [], .lit (.int .i64 0), .lit (.int .i64 0)], yTReport, .st [(0, 3), (1, 3), (2, 28), (3, 3), (4, 3), (5, 28), (6, 42)], false⟩
@[simp] theorem t43_size : t43.size = 8 := rfl
@[simp] theorem t43_bytes : t43.bytes = 96 := rfl
@[simp] theorem t43_z : t43.z = .agg [.lit (.int .i64 0), .lit (.int .i64 0), .sl true 0 .any [], .lit (.int .i64 0), .lit (.int .i64 0), .sl true 0 .any [], .lit (.int .i64 0), .lit (.int .i64 0)] := rfl
@[simp] theorem t43_y : t43.y = yTReport := rfl
@[simp] theorem t43_kind : t43.kind = .st [(0, 3), (1, 3), (2, 28), (3, 3), (4, 3), (5, 28), (6, 42)] := rfl
@[simp] theorem t43_cmp : t43.cmp = false := rfl
/-- laws.Report = loop.example/g03007/laws.Report -/
def t44 : TI := ⟨8, 96, .agg #[.int .i64 0, .int .i64 0, .slice none 0 0, .int .i64 0, .int .i64 0, .slice none 0 0, .int .i64 0, .int .i64 0], .agg [.lit (.int .i64 0), .lit (.int .i64 0), .sl true 0 .any [], .lit (.int .i64 0), .lit (.int .i64 0), .sl true 0 .any [], .lit (.int .i64 0), .lit (.int .i64 0)], yTReport, .st [(0, 3), (1, 3), (2, 28), (3, 3), (4, 3), (5, 28), (6, 42)], false⟩
@[simp] theorem t44_size : t44.size = 8 := rfl
@[simp] theorem t44_bytes : t44.bytes = 96 := rfl
@[simp] theorem t44_z : t44.z = .agg [.lit (.int .i64 0), .lit (.int .i64 0), .sl true 0 .any [], .lit (.int .i64 0), .lit (.int .i64 0), .sl true 0 .any [], .lit (.int .i64 0), .lit (.int .i64 0)] := rfl
@[simp] theorem t44_y : t44.y = yTReport := rfl
@[simp] theorem t44_kind : t44.kind = .st [(0, 3), (1, 3), (2, 28), (3, 3), (4, 3), (5, 28), (6, 42)] := rfl
@[simp] theorem t44_cmp : t44.cmp = false := rfl
/-- [][]int -/
def t45 : TI := ⟨1, 24, .slice none 0 0, .sl true 0 .any [], yLLI, .slice 28, false⟩
@[simp] theorem t45_size : t45.size = 1 := rfl
@[simp] theorem t45_bytes : t45.bytes = 24 := rfl
@[simp] theorem t45_z : t45.z = .sl true 0 .any [] := rfl
@[simp] theorem t45_y : t45.y = yLLI := rfl
@[simp] theorem t45_kind : t45.kind = .slice 28 := rfl
@[simp] theorem t45_cmp : t45.cmp = false := rfl
/-- impl.Span = loop.example/g03007/impl.Span -/
def t49 : TI := ⟨2, 16, .agg #[.int .i64 0, .int .i64 0], .agg [.lit (.int .i64 0), .lit (.int .i64 0)], yTSpan, .st [(0, 3), (1, 3)], true⟩
@[simp] theorem t49_size : t49.size = 2 := rfl
@[simp] theorem t49_bytes : t49.bytes = 16 := rfl
@[simp] theorem t49_z : t49.z = .agg [.lit (.int .i64 0), .lit (.int .i64 0)] := rfl
@[simp] theorem t49_y : t49.y = yTSpan := rfl
@[simp] theorem t49_kind : t49.kind = .st [(0, 3), (1, 3)] := rfl
@[simp] theorem t49_cmp : t49.cmp = true := rfl
/-- struct { Id int; Kind int; Colours []int; SizeLow int; SizeHigh int; Places []int; Span impl.Span } -/
def t50 : TI := ⟨8, 96, .agg #[.int .i64 0, .int .i64 0, .slice none 0 0, .int .i64 0, .int .i64 0, .slice none 0 0, .int .i64 0, .int .i64 0], .agg [.lit (.int .i64 0), .lit (.int .i64 0), .sl true 0 .any [], .lit (.int .i64 0), .lit (.int .i64 0), .sl true 0 .any [], .lit (.int .i64 0), .lit (.int .i64 0)], yTReport, .st [(0, 3), (1, 3), (2, 28), (3, 3), (4, 3), (5, 28), (6, 49)], false⟩
@[simp] theorem t50_size : t50.size = 8 := rfl
@[simp] theorem t50_bytes : t50.bytes = 96 := rfl
@[simp] theorem t50_z : t50.z = .agg [.lit (.int .i64 0), .lit (.int .i64 0), .sl true 0 .any [], .lit (.int .i64 0), .lit (.int .i64 0), .sl true 0 .any [], .lit (.int .i64 0), .lit (.int .i64 0)] := rfl
@[simp] theorem t50_y : t50.y = yTReport := rfl
@[simp] theorem t50_kind : t50.kind = .st [(0, 3), (1, 3), (2, 28), (3, 3), (4, 3), (5, 28), (6, 49)] := rfl
@[simp] theorem t50_cmp : t50.cmp = false := rfl
/-- impl.Report = loop.example/g03007/impl.Report -/
def t51 : TI := ⟨8, 96, .agg #[.int .i64 0, .int .i64 0, .slice none 0 0, .int .i64 0, .int .i64 0, .slice none 0 0, .int .i64 0, .int .i64 0], .agg [.lit (.int .i64 0), .lit (.int .i64 0), .sl true 0 .any [], .lit (.int .i64 0), .lit (.int .i64 0), .sl true 0 .any [], .lit (.int .i64 0), .lit (.int .i64 0)], yTReport, .st [(0, 3), (1, 3), (2, 28), (3, 3), (4, 3), (5, 28), (6, 49)], false⟩
@[simp] theorem t51_size : t51.size = 8 := rfl
@[simp] theorem t51_bytes : t51.bytes = 96 := rfl
@[simp] theorem t51_z : t51.z = .agg [.lit (.int .i64 0), .lit (.int .i64 0), .sl true 0 .any [], .lit (.int .i64 0), .lit (.int .i64 0), .sl true 0 .any [], .lit (.int .i64 0), .lit (.int .i64 0)] := rfl
@[simp] theorem t51_y : t51.y = yTReport := rfl
@[simp] theorem t51_kind : t51.kind = .st [(0, 3), (1, 3), (2, 28), (3, 3), (4, 3), (5, 28), (6, 49)] := rfl
@[simp] theorem t51_cmp : t51.cmp = false := rfl
/-- []laws.Hand -/
def t58 : TI := ⟨1, 24, .slice none 0 0, .sl true 0 .any [], yLTHand, .slice 100, false⟩
@[simp] theorem t58_size : t58.size = 1 := rfl
@[simp] theorem t58_bytes : t58.bytes = 24 := rfl
@[simp] theorem t58_z : t58.z = .sl true 0 .any [] := rfl
@[simp] theorem t58_y : t58.y = yLTHand := rfl
@[simp] theorem t58_kind : t58.kind = .slice 100 := rfl
@[simp] theorem t58_cmp : t58.cmp = false := rfl
/-- []laws.Parcel -/
def t59 : TI := ⟨1, 24, .slice none 0 0, .sl true 0 .any [], yLTParcel, .slice 93, false⟩
@[simp] theorem t59_size : t59.size = 1 := rfl
@[simp] theorem t59_bytes : t59.bytes = 24 := rfl
@[simp] theorem t59_z : t59.z = .sl true 0 .any [] := rfl
@[simp] theorem t59_y : t59.y = yLTParcel := rfl
@[simp] theorem t59_kind : t59.kind = .slice 93 := rfl
@[simp] theorem t59_cmp : t59.cmp = false := rfl
/-- []impl.Hand -/
def t62 : TI := ⟨1, 24, .slice none 0 0, .sl true 0 .any [], yLTHand, .slice 98, false⟩
@[simp] theorem t62_size : t62.size = 1 := rfl
@[simp] theorem t62_bytes : t62.bytes = 24 := rfl
@[simp] theorem t62_z : t62.z = .sl true 0 .any [] := rfl
@[simp] theorem t62_y : t62.y = yLTHand := rfl
@[simp] theorem t62_kind : t62.kind = .slice 98 := rfl
@[simp] theorem t62_cmp : t62.cmp = false := rfl
/-- []impl.Parcel -/
def t66 : TI := ⟨1, 24, .slice none 0 0, .sl true 0 .any [], yLTParcel, .slice 96, false⟩
@[simp] theorem t66_size : t66.size = 1 := rfl
@[simp] theorem t66_bytes : t66.bytes = 24 := rfl
@[simp] theorem t66_z : t66.z = .sl true 0 .any [] := rfl
@[simp] theorem t66_y : t66.y = yLTParcel := rfl
@[simp] theorem t66_kind : t66.kind = .slice 96 := rfl
@[simp] theorem t66_cmp : t66.cmp = false := rfl
/-- func(impl.Report, impl.Find) bool -/
def t77 : TI := ⟨1, 8, .nilFunc, .lit .nilFunc, .lit .nilFunc, .func, false⟩
@[simp] theorem t77_size : t77.size = 1 := rfl
@[simp] theorem t77_bytes : t77.bytes = 8 := rfl
@[simp] theorem t77_z : t77.z = .lit .nilFunc := rfl
@[simp] theorem t77_y : t77.y = .lit .nilFunc := rfl
@[simp] theorem t77_kind : t77.kind = .func := rfl
@[simp] theorem t77_cmp : t77.cmp = false := rfl
/-- func(impl.Report) int -/
def t79 : TI := ⟨1, 8, .nilFunc, .lit .nilFunc, .lit .nilFunc, .func, false⟩
@[simp] theorem t79_size : t79.size = 1 := rfl
@[simp] theorem t79_bytes : t79.bytes = 8 := rfl
@[simp] theorem t79_z : t79.z = .lit .nilFunc := rfl
@[simp] theorem t79_y : t79.y = .lit .nilFunc := rfl
@[simp] theorem t79_kind : t79.kind = .func := rfl
@[simp] theorem t79_cmp : t79.cmp = false := rfl
/-- struct { items []impl.Report; numberOf func(impl.Report) int } -/
def t80 : TI := ⟨2, 32, .agg #[.slice none 0 0, .nilFunc], .agg [.sl true 0 .any [], .lit .nilFunc], .any, .st [(0, 34), (1, 79)], false⟩
@[simp] theorem t80_size : t80.size = 2 := rfl
@[simp] theorem t80_bytes : t80.bytes = 32 := rfl
@[simp] theorem t80_z : t80.z = .agg [.sl true 0 .any [], .lit .nilFunc] := rfl
@[simp] theorem t80_y : t80.y = .any := rfl
@[simp] theorem t80_kind : t80.kind = .st [(0, 34), (1, 79)] := rfl
@[simp] theorem t80_cmp : t80.cmp = false := rfl
/-- impl.sortedList[loop.example/g03007/impl.Report] = loop.example/g03007/impl.sortedList[loop.example/g03007/impl.Report] -/
def t81 : TI := ⟨2, 32, .agg #[.slice none 0 0, .nilFunc], .agg [.sl true 0 .any [], .lit .nilFunc], .any, .st [(0, 34), (1, 79)], false⟩
@[simp] theorem t81_size : t81.size = 2 := rfl
@[simp] theorem t81_bytes : t81.bytes = 32 := rfl
@[simp] theorem t81_z : t81.z = .agg [.sl true 0 .any [], .lit .nilFunc] := rfl
@[simp] theorem t81_y : t81.y = .any := rfl
@[simp] theorem t81_kind : t81.kind = .st [(0, 34), (1, 79)] := rfl
@[simp] theorem t81_cmp : t81.cmp = false := rfl
/-- struct { From int; To int; Things []int; At int } -/
def t92 : TI := ⟨4, 48, .agg #[.int .i64 0, .int .i64 0, .slice none 0 0, .int .i64 0], .agg [.lit (.int .i64 0), .lit (.int .i64 0), .sl true 0 .any [], .lit (.int .i64 0)], yTParcel, .st [(0, 3), (1, 3), (2, 28), (3, 3)], false⟩
@[simp] theorem t92_size : t92.size = 4 := rfl
@[simp] theorem t92_bytes : t92.bytes = 48 := rfl
@[simp] theorem t92_z : t92.z = .agg [.lit (.int .i64 0), .lit (.int .i64 0), .sl true 0 .any [], .lit (.int .i64 0)] := rfl
@[simp] theorem t92_y : t92.y = yTParcel := rfl
@[simp] theorem t92_kind : t92.kind = .st [(0, 3), (1, 3), (2, 28), (3, 3)] := rfl
@[simp] theorem t92_cmp : t92.cmp = false := rfl
/-- laws.Parcel = loop.example/g03007/laws.Parcel -/
def t93 : TI := ⟨4, 48, .agg #[.int .i64 0, .int .i64 0, .slice none 0 0, .int .i64 0], .agg [.lit (.int .i64 0), .lit (.int .i64 0), .sl true 0 .any [], .lit (.int .i64 0)], yTParcel, .st [(0, 3), (1, 3), (2, 28), (3, 3)], false⟩
@[simp] theorem t93_size : t93.size = 4 := rfl
@[simp] theorem t93_bytes : t93.bytes = 48 := rfl
@[simp] theorem t93_z : t93.z = .agg [.lit (.int .i64 0), .lit (.int .i64 0), .sl true 0 .any [], .lit (.int .i64 0)] := rfl
@[simp] theorem t93_y : t93.y = yTParcel := rfl
@[simp] theorem t93_kind : t93.kind = .st [(0, 3), (1, 3), (2, 28), (3, 3)] := rfl
@[simp] theorem t93_cmp : t93.cmp = false := rfl
/-- impl.Parcel = loop.example/g03007/impl.Parcel -/
def t96 : TI := ⟨4, 48, .agg #[.int .i64 0, .int .i64 0, .slice none 0 0, .int .i64 0], .agg [.lit (.int .i64 0), .lit (.int .i64 0), .sl true 0 .any [], .lit (.int .i64 0)], yTParcel, .st [(0, 3), (1, 3), (2, 28), (3, 3)], false⟩
@[simp] theorem t96_size : t96.size = 4 := rfl
@[simp] theorem t96_bytes : t96.bytes = 48 := rfl
@[simp] theorem t96_z : t96.z = .agg [.lit (.int .i64 0), .lit (.int .i64 0), .sl true 0 .any [], .lit (.int .i64 0)] := rfl
@[simp] theorem t96_y : t96.y = yTParcel := rfl
@[simp] theorem t96_kind : t96.kind = .st [(0, 3), (1, 3), (2, 28), (3, 3)] := rfl
@[simp] theorem t96_cmp : t96.cmp = false := rfl
/-- struct { Thing int; Holder int; Who int; At int; Seal int } -/
def t97 : TI := ⟨5, 40, .agg #[.int .i64 0, .int .i64 0, .int .i64 0, .int .i64 0, .int .i64 0], .agg [.lit (.int .i64 0), .lit (.int .i64 0), .lit (.int .i64 0), .lit (.int .i64 0), .lit (.int .i64 0)], yTHand, .st [(0, 3), (1, 3), (2, 3), (3, 3), (4, 3)], true⟩
@[simp] theorem t97_size : t97.size = 5 := rfl
@[simp] theorem t97_bytes : t97.bytes = 40 := rfl
@[simp] theorem t97_z : t97.z = .agg [.lit (.int .i64 0), .lit (.int .i64 0), .lit (.int .i64 0), .lit (.int .i64 0), .lit (.int .i64 0)] := rfl
@[simp] theorem t97_y : t97.y = yTHand := rfl
@[simp] theorem t97_kind : t97.kind = .st [(0, 3), (1, 3), (2, 3), (3, 3), (4, 3)] := rfl
@[simp] theorem t97_cmp : t97.cmp = true := rfl
/-- impl.Hand = loop.example/g03007/impl.Hand -/
def t98 : TI := ⟨5, 40, .agg #[.int .i64 0, .int .i64 0, .int .i64 0, .int .i64 0, .int .i64 0], .agg [.lit (.int .i64 0), .lit (.int .i64 0), .lit (.int .i64 0), .lit (.int .i64 0), .lit (.int .i64 0)], yTHand, .st [(0, 3), (1, 3), (2, 3), (3, 3), (4, 3)], true⟩
@[simp] theorem t98_size : t98.size = 5 := rfl
@[simp] theorem t98_bytes : t98.bytes = 40 := rfl
@[simp] theorem t98_z : t98.z = .agg [.lit (.int .i64 0), .lit (.int .i64 0), .lit (.int .i64 0), .lit (.int .i64 0), .lit (.int .i64 0)] := rfl
@[simp] theorem t98_y : t98.y = yTHand := rfl
@[simp] theorem t98_kind : t98.kind = .st [(0, 3), (1, 3), (2, 3), (3, 3), (4, 3)] := rfl
@[simp] theorem t98_cmp : t98.cmp = true := rfl
/-- laws.Hand = loop.example/g03007/laws.Hand -/
def t100 : TI := ⟨5, 40, .agg #[.int .i64 0, .int .i64 0, .int .i64 0, .int .i64 0, .int .i64 0], .agg [.lit (.int .i64 0), .lit (.int .i64 0), .lit (.int .i64 0), .lit (.int .i64 0), .lit (.int .i64 0)], yTHand, .st [(0, 3), (1, 3), (2, 3), (3, 3), (4, 3)], true⟩
@[simp] theorem t100_size : t100.size = 5 := rfl
@[simp] theorem t100_bytes : t100.bytes = 40 := rfl
@[simp] theorem t100_z : t100.z = .agg [.lit (.int .i64 0), .lit (.int .i64 0), .lit (.int .i64 0), .lit (.int .i64 0), .lit (.int .i64 0)] := rfl
@[simp] theorem t100_y : t100.y = yTHand := rfl
@[simp] theorem t100_kind : t100.kind = .st [(0, 3), (1, 3), (2, 3), (3, 3), (4, 3)] := rfl
@[simp] theorem t100_cmp : t100.cmp = true := rfl
/-- map[int]bool -/
def t111 : TI := ⟨1, 8, .map none, .fm 0 [] .any [], .any, .map 3 4, false⟩
@[simp] theorem t111_size : t111.size = 1 := rfl
@[simp] theorem t111_bytes : t111.bytes = 8 := rfl
@[simp] theorem t111_z : t111.z = .fm 0 [] .any [] := rfl
@[simp] theorem t111_y : t111.y = .any := rfl
@[simp] theorem t111_kind : t111.kind = .map 3 4 := rfl
@[simp] theorem t111_cmp : t111.cmp = false := rfl
/-- impl.numberSet = loop.example/g03007/impl.numberSet -/
def t112 : TI := ⟨1, 8, .map none, .fm 0 [] .any [], .any, .map 3 4, false⟩
@[simp] theorem t112_size : t112.size = 1 := rfl
@[simp] theorem t112_bytes : t112.bytes = 8 := rfl
@[simp] theorem t112_z : t112.z = .fm 0 [] .any [] := rfl
@[simp] theorem t112_y : t112.y = .any := rfl
@[simp] theorem t112_kind : t112.kind = .map 3 4 := rfl
@[simp] theorem t112_cmp : t112.cmp = false := rfl
/-- impl.only = loop.example/g03007/impl.only -/
def t123 : TI := ⟨1, 24, .slice none 0 0, .sl true 0 .any [], yLI, .slice 3, false⟩
@[simp] theorem t123_size : t123.size = 1 := rfl
@[simp] theorem t123_bytes : t123.bytes = 24 := rfl
@[simp] theorem t123_z : t123.z = .sl true 0 .any [] := rfl
@[simp] theorem t123_y : t123.y = yLI := rfl
@[simp] theorem t123_kind : t123.kind = .slice 3 := rfl
@[simp] theorem t123_cmp : t123.cmp = false := rfl
/-- impl.reportOption = loop.example/g03007/impl.reportOption -/
def t130 : TI := ⟨1, 8, .nilFunc, .lit .nilFunc, .lit .nilFunc, .func, false⟩
@[simp] theorem t130_size : t130.size = 1 := rfl
@[simp] theorem t130_bytes : t130.bytes = 8 := rfl
@[simp] theorem t130_z : t130.z = .lit .nilFunc := rfl
@[simp] theorem t130_y : t130.y = .lit .nilFunc := rfl
@[simp] theorem t130_kind : t130.kind = .func := rfl
@[simp] theorem t130_cmp : t130.cmp = false := rfl
/-- *impl.Report -/
def t135 : TI := ⟨1, 8, .pointer none, .lit (.pointer none), .lit (.pointer none), .ptr 51, false⟩
@[simp] theorem t135_size : t135.size = 1 := rfl
@[simp] theorem t135_bytes : t135.bytes = 8 := rfl
@[simp] theorem t135_z : t135.z = .lit (.pointer none) := rfl
@[simp] theorem t135_y : t135.y = .lit (.pointer none) := rfl
@[simp] theorem t135_kind : t135.kind = .ptr 51 := rfl
@[simp] theorem t135_cmp : t135.cmp = false := rfl
/-- struct { with impl.Span } -/
def t137 : TI := ⟨2, 16, .agg #[.int .i64 0, .int .i64 0], .agg [.lit (.int .i64 0), .lit (.int .i64 0)], yTMeeting, .st [(0, 49)], true⟩
@[simp] theorem t137_size : t137.size = 2 := rfl
@[simp] theorem t137_bytes : t137.bytes = 16 := rfl
@[simp] theorem t137_z : t137.z = .agg [.lit (.int .i64 0), .lit (.int .i64 0)] := rfl
@[simp] theorem t137_y : t137.y = yTMeeting := rfl
@[simp] theorem t137_kind : t137.kind = .st [(0, 49)] := rfl
@[simp] theorem t137_cmp : t137.cmp = true := rfl
/-- impl.meeting = loop.example/g03007/impl.meeting -/
def t138 : TI := ⟨2, 16, .agg #[.int .i64 0, .int .i64 0], .agg [.lit (.int .i64 0), .lit (.int .i64 0)], yTMeeting, .st [(0, 49)], true⟩
@[simp] theorem t138_size : t138.size = 2 := rfl
@[simp] theorem t138_bytes : t138.bytes = 16 := rfl
@[simp] theorem t138_z : t138.z = .agg [.lit (.int .i64 0), .lit (.int .i64 0)] := rfl
@[simp] theorem t138_y : t138.y = yTMeeting := rfl
@[simp] theorem t138_kind : t138.kind = .st [(0, 49)] := rfl
@[simp] theorem t138_cmp : t138.cmp = true := rfl
/-- func(impl.Find) bool -/
def t141 : TI := ⟨1, 8, .nilFunc, .lit .nilFunc, .lit .nilFunc, .func, false⟩
@[simp] theorem t141_size : t141.size = 1 := rfl
@[simp] theorem t141_bytes : t141.bytes = 8 := rfl
@[simp] theorem t141_z : t141.z = .lit .nilFunc := rfl
@[simp] theorem t141_y : t141.y = .lit .nilFunc := rfl
@[simp] theorem t141_kind : t141.kind = .func := rfl
@[simp] theorem t141_cmp : t141.cmp = false := rfl
/-- []impl.matchCheck -/
def t142 : TI := ⟨1, 24, .slice none 0 0, .sl true 0 .any [], .any, .slice 145, false⟩
@[simp] theorem t142_size : t142.size = 1 := rfl
@[simp] theorem t142_bytes : t142.bytes = 24 := rfl
@[simp] theorem t142_z : t142.z = .sl true 0 .any [] := rfl
@[simp] theorem t142_y : t142.y = .any := rfl
@[simp] theorem t142_kind : t142.kind = .slice 145 := rfl
@[simp] theorem t142_cmp : t142.cmp = false := rfl
/-- struct { name string; isHeld func(impl.Report, impl.Find) bool } -/
def t144 : TI := ⟨2, 24, .agg #[.string ⟨#[]⟩, .nilFunc], .agg [.lit (.string ⟨#[]⟩), .lit .nilFunc], .any, .st [(0, 9), (1, 77)], false⟩
@[simp] theorem t144_size : t144.size = 2 := rfl
@[simp] theorem t144_bytes : t144.bytes = 24 := rfl
@[simp] theorem t144_z : t144.z = .agg [.lit (.string ⟨#[]⟩), .lit .nilFunc] := rfl
@[simp] theorem t144_y : t144.y = .any := rfl
@[simp] theorem t144_kind : t144.kind = .st [(0, 9), (1, 77)] := rfl
@[simp] theorem t144_cmp : t144.cmp = false := rfl
/-- impl.matchCheck = loop.example/g03007/impl.matchCheck -/
def t145 : TI := ⟨2, 24, .agg #[.string ⟨#[]⟩, .nilFunc], .agg [.lit (.string ⟨#[]⟩), .lit .nilFunc], .any, .st [(0, 9), (1, 77)], false⟩
@[simp] theorem t145_size : t145.size = 2 := rfl
@[simp] theorem t145_bytes : t145.bytes = 24 := rfl
@[simp] theorem t145_z : t145.z = .agg [.lit (.string ⟨#[]⟩), .lit .nilFunc] := rfl
@[simp] theorem t145_y : t145.y = .any := rfl
@[simp] theorem t145_kind : t145.kind = .st [(0, 9), (1, 77)] := rfl
@[simp] theorem t145_cmp : t145.cmp = false := rfl
/-- interface { impl.has(int) bool } -/
def t156 : TI := ⟨1, 16, .nilIface, .lit .nilIface, .lit .nilIface, .iface, false⟩
@[simp] theorem t156_size : t156.size = 1 := rfl
@[simp] theorem t156_bytes : t156.bytes = 16 := rfl
@[simp] theorem t156_z : t156.z = .lit .nilIface := rfl
@[simp] theorem t156_y : t156.y = .lit .nilIface := rfl
@[simp] theorem t156_kind : t156.kind = .iface := rfl
@[simp] theorem t156_cmp : t156.cmp = false := rfl
/-- impl.choice = loop.example/g03007/impl.choice -/
def t157 : TI := ⟨1, 16, .nilIface, .lit .nilIface, .lit .nilIface, .iface, false⟩
@[simp] theorem t157_size : t157.size = 1 := rfl
@[simp] theorem t157_bytes : t157.bytes = 16 := rfl
@[simp] theorem t157_z : t157.z = .lit .nilIface := rfl
@[simp] theorem t157_y : t157.y = .lit .nilIface := rfl
@[simp] theorem t157_kind : t157.kind = .iface := rfl
@[simp] theorem t157_cmp : t157.cmp = false := rfl
/-- struct {} -/
def t159 : TI := ⟨0, 0, .agg #[], .agg [], .any, .st [], false⟩
@[simp] theorem t159_size : t159.size = 0 := rfl
@[simp] theorem t159_bytes : t159.bytes = 0 := rfl
@[simp] theorem t159_z : t159.z = .agg [] := rfl
@[simp] theorem t159_y : t159.y = .any := rfl
@[simp] theorem t159_kind : t159.kind = .st [] := rfl
@[simp] theorem t159_cmp : t159.cmp = false := rfl
/-- impl.everything = loop.example/g03007/impl.everything -/
def t160 : TI := ⟨0, 0, .agg #[], .agg [], .any, .st [], false⟩
@[simp] theorem t160_size : t160.size = 0 := rfl
@[simp] theorem t160_bytes : t160.bytes = 0 := rfl
@[simp] theorem t160_z : t160.z = .agg [] := rfl
@[simp] theorem t160_y : t160.y = .any := rfl
@[simp] theorem t160_kind : t160.kind = .st [] := rfl
@[simp] theorem t160_cmp : t160.cmp = false := rfl
/-- map[int]*impl.link[loop.example/g03007/impl.Hand] -/
def t163 : TI := ⟨1, 8, .map none, .fm 0 [] .any [], .any, .map 3 166, false⟩
@[simp] theorem t163_size : t163.size = 1 := rfl
@[simp] theorem t163_bytes : t163.bytes = 8 := rfl
@[simp] theorem t163_z : t163.z = .fm 0 [] .any [] := rfl
@[simp] theorem t163_y : t163.y = .any := rfl
@[simp] theorem t163_kind : t163.kind = .map 3 166 := rfl
@[simp] theorem t163_cmp : t163.cmp = false := rfl
/-- impl.handsByThing = loop.example/g03007/impl.handsByThing -/
def t164 : TI := ⟨1, 8, .map none, .fm 0 [] .any [], .any, .map 3 166, false⟩
@[simp] theorem t164_size : t164.size = 1 := rfl
@[simp] theorem t164_bytes : t164.bytes = 8 := rfl
@[simp] theorem t164_z : t164.z = .fm 0 [] .any [] := rfl
@[simp] theorem t164_y : t164.y = .any := rfl
@[simp] theorem t164_kind : t164.kind = .map 3 166 := rfl
@[simp] theorem t164_cmp : t164.cmp = false := rfl
/-- *impl.link[loop.example/g03007/impl.Hand] -/
def t166 : TI := ⟨1, 8, .pointer none, .lit (.pointer none), .lit (.pointer none), .ptr 168, false⟩
@[simp] theorem t166_size : t166.size = 1 := rfl
@[simp] theorem t166_bytes : t166.bytes = 8 := rfl
@[simp] theorem t166_z : t166.z = .lit (.pointer none) := rfl
@[simp] theorem t166_y : t166.y = .lit (.pointer none) := rfl
@[simp] theorem t166_kind : t166.kind = .ptr 168 := rfl
@[simp] theorem t166_cmp : t166.cmp = false := rfl
/-- struct { item impl.Hand; before *impl.link[loop.example/g03007/impl.Hand] } -/
def t167 : TI := ⟨6, 48, .agg #[.int .i64 0, .int .i64 0, .int .i64 0, .int .i64 0, .int .i64 0, .pointer none], .agg [.lit (.int .i64 0), .lit (.int .i64 0), .lit (.int .i64 0), .lit (.int .i64 0), .lit (.int .i64 0), .lit (.pointer none)], .any, .st [(0, 98), (5, 166)], false⟩
@[simp] theorem t167_size : t167.size = 6 := rfl
@[simp] theorem t167_bytes : t167.bytes = 48 := rfl
@[simp] theorem t167_z : t167.z = .agg [.lit (.int .i64 0), .lit (.int .i64 0), .lit (.int .i64 0), .lit (.int .i64 0), .lit (.int .i64 0), .lit (.pointer none)] := rfl
@[simp] theorem t167_y : t167.y = .any := rfl
@[simp] theorem t167_kind : t167.kind = .st [(0, 98), (5, 166)] := rfl
@[simp] theorem t167_cmp : t167.cmp = false := rfl
/-- impl.link[loop.example/g03007/impl.Hand] = loop.example/g03007/impl.link[loop.example/g03007/impl.Hand] -/
def t168 : TI := ⟨6, 48, .agg #[.int .i64 0, .int .i64 0, .int .i64 0, .int .i64 0, .int .i64 0, .pointer none], .agg [.lit (.int .i64 0), .lit (.int .i64 0), .lit (.int .i64 0), .lit (.int .i64 0), .lit (.int .i64 0), .lit (.pointer none)], .any, .st [(0, 98), (5, 166)], false⟩
@[simp] theorem t168_size : t168.size = 6 := rfl
@[simp] theorem t168_bytes : t168.bytes = 48 := rfl
@[simp] theorem t168_z : t168.z = .agg [.lit (.int .i64 0), .lit (.int .i64 0), .lit (.int .i64 0), .lit (.int .i64 0), .lit (.int .i64 0), .lit (.pointer none)] := rfl
@[simp] theorem t168_y : t168.y = .any := rfl
@[simp] theorem t168_kind : t168.kind = .st [(0, 98), (5, 166)] := rfl
@[simp] theorem t168_cmp : t168.cmp = false := rfl
/-- []impl.reportOption -/
def t171 : TI := ⟨1, 24, .slice none 0 0, .sl true 0 .any [], .any, .slice 130, false⟩
@[simp] theorem t171_size : t171.size = 1 := rfl
@[simp] theorem t171_bytes : t171.bytes = 24 := rfl
@[simp] theorem t171_z : t171.z = .sl true 0 .any [] := rfl
@[simp] theorem t171_y : t171.y = .any := rfl
@[simp] theorem t171_kind : t171.kind = .slice 130 := rfl
@[simp] theorem t171_cmp : t171.cmp = false := rfl
/-- interface { impl.applyTo(impl.Span) impl.Span } -/
def t173 : TI := ⟨1, 16, .nilIface, .lit .nilIface, .lit .nilIface, .iface, false⟩
@[simp] theorem t173_size : t173.size = 1 := rfl
@[simp] theorem t173_bytes : t173.bytes = 16 := rfl
@[simp] theorem t173_z : t173.z = .lit .nilIface := rfl
@[simp] theorem t173_y : t173.y = .lit .nilIface := rfl
@[simp] theorem t173_kind : t173.kind = .iface := rfl
@[simp] theorem t173_cmp : t173.cmp = false := rfl
/-- impl.spanChange = loop.example/g03007/impl.spanChange -/
def t174 : TI := ⟨1, 16, .nilIface, .lit .nilIface, .lit .nilIface, .iface, false⟩
@[simp] theorem t174_size : t174.size = 1 := rfl
@[simp] theorem t174_bytes : t174.bytes = 16 := rfl
@[simp] theorem t174_z : t174.z = .lit .nilIface := rfl
@[simp] theorem t174_y : t174.y = .lit .nilIface := rfl
@[simp] theorem t174_kind : t174.kind = .iface := rfl
@[simp] theorem t174_cmp : t174.cmp = false := rfl
/-- uint -/
def t186 : TI := ⟨1, 8, .int .u64 0, .lit (.int .u64 0), .lit (.int .u64 0), .int .u64, false⟩
@[simp] theorem t186_size : t186.size = 1 := rfl
@[simp] theorem t186_bytes : t186.bytes = 8 := rfl
@[simp] theorem t186_z : t186.z = .lit (.int .u64 0) := rfl
@[simp] theorem t186_y : t186.y = .lit (.int .u64 0) := rfl
@[simp] theorem t186_kind : t186.kind = .int .u64 := rfl
@[simp] theorem t186_cmp : t186.cmp = false := rfl
/-- impl.covering = loop.example/g03007/impl.covering -/
def t191 : TI := ⟨2, 16, .agg #[.int .i64 0, .int .i64 0], .agg [.lit (.int .i64 0), .lit (.int .i64 0)], yTMeeting, .st [(0, 49)], true⟩
@[simp] theorem t191_size : t191.size = 2 := rfl
@[simp] theorem t191_bytes : t191.bytes = 16 := rfl
@[simp] theorem t191_z : t191.z = .agg [.lit (.int .i64 0), .lit (.int .i64 0)] := rfl
@[simp] theorem t191_y : t191.y = yTMeeting := rfl
@[simp] theorem t191_kind : t191.kind = .st [(0, 49)] := rfl
@[simp] theorem t191_cmp : t191.cmp = true := rfl
/-- struct { by int } -/
def t192 : TI := ⟨1, 8, .agg #[.int .i64 0], .agg [.lit (.int .i64 0)], yTWidening, .st [(0, 3)], true⟩
@[simp] theorem t192_size : t192.size = 1 := rfl
@[simp] theorem t192_bytes : t192.bytes = 8 := rfl
@[simp] theorem t192_z : t192.z = .agg [.lit (.int .i64 0)] := rfl
@[simp] theorem t192_y : t192.y = yTWidening := rfl
@[simp] theorem t192_kind : t192.kind = .st [(0, 3)] := rfl
@[simp] theorem t192_cmp : t192.cmp = true := rfl
/-- impl.widening = loop.example/g03007/impl.widening -/
def t193 : TI := ⟨1, 8, .agg #[.int .i64 0], .agg [.lit (.int .i64 0)], yTWidening, .st [(0, 3)], true⟩
@[simp] theorem t193_size : t193.size = 1 := rfl
@[simp] theorem t193_bytes : t193.bytes = 8 := rfl
@[simp] theorem t193_z : t193.z = .agg [.lit (.int .i64 0)] := rfl
@[simp] theorem t193_y : t193.y = yTWidening := rfl
@[simp] theorem t193_kind : t193.kind = .st [(0, 3)] := rfl
@[simp] theorem t193_cmp : t193.cmp = true := rfl
/-- [4]func(impl.Find) bool -/
def t194 : TI := ⟨4, 32, .agg #[.nilFunc, .nilFunc, .nilFunc, .nilFunc], .agg [.lit .nilFunc, .lit .nilFunc, .lit .nilFunc, .lit .nilFunc], .any, .arr 4 141, false⟩
@[simp] theorem t194_size : t194.size = 4 := rfl
@[simp] theorem t194_bytes : t194.bytes = 32 := rfl
@[simp] theorem t194_z : t194.z = .agg [.lit .nilFunc, .lit .nilFunc, .lit .nilFunc, .lit .nilFunc] := rfl
@[simp] theorem t194_y : t194.y = .any := rfl
@[simp] theorem t194_kind : t194.kind = .arr 4 141 := rfl
@[simp] theorem t194_cmp : t194.cmp = false := rfl
/-- map[int]int -/
def t197 : TI := ⟨1, 8, .map none, .fm 0 [] .any [], .any, .map 3 3, false⟩
@[simp] theorem t197_size : t197.size = 1 := rfl
@[simp] theorem t197_bytes : t197.bytes = 8 := rfl
@[simp] theorem t197_z : t197.z = .fm 0 [] .any [] := rfl
@[simp] theorem t197_y : t197.y = .any := rfl
@[simp] theorem t197_kind : t197.kind = .map 3 3 := rfl
@[simp] theorem t197_cmp : t197.cmp = false := rfl
/-- slices.sortedHint -/
def t200 : TI := ⟨1, 8, .int .i64 0, .lit (.int .i64 0), .lit (.int .i64 0), .int .i64, false⟩
@[simp] theorem t200_size : t200.size = 1 := rfl
@[simp] theorem t200_bytes : t200.bytes = 8 := rfl
@[simp] theorem t200_z : t200.z = .lit (.int .i64 0) := rfl
@[simp] theorem t200_y : t200.y = .lit (.int .i64 0) := rfl
@[simp] theorem t200_kind : t200.kind = .int .i64 := rfl
@[simp] theorem t200_cmp : t200.cmp = false := rfl
/-- uint32 -/
def t207 : TI := ⟨1, 4, .int .u32 0, .lit (.int .u32 0), .lit (.int .u32 0), .int .u32, false⟩
@[simp] theorem t207_size : t207.size = 1 := rfl
@[simp] theorem t207_bytes : t207.bytes = 4 := rfl
@[simp] theorem t207_z : t207.z = .lit (.int .u32 0) := rfl
@[simp] theorem t207_y : t207.y = .lit (.int .u32 0) := rfl
@[simp] theorem t207_kind : t207.kind = .int .u32 := rfl
@[simp] theorem t207_cmp : t207.cmp = false := rfl
/-- uint64 -/
def t209 : TI := ⟨1, 8, .int .u64 0, .lit (.int .u64 0), .lit (.int .u64 0), .int .u64, false⟩
@[simp] theorem t209_size : t209.size = 1 := rfl
@[simp] theorem t209_bytes : t209.bytes = 8 := rfl
@[simp] theorem t209_z : t209.z = .lit (.int .u64 0) := rfl
@[simp] theorem t209_y : t209.y = .lit (.int .u64 0) := rfl
@[simp] theorem t209_kind : t209.kind = .int .u64 := rfl
@[simp] theorem t209_cmp : t209.cmp = false := rfl
/-- slices.xorshift -/
def t211 : TI := ⟨1, 8, .int .u64 0, .lit (.int .u64 0), .lit (.int .u64 0), .int .u64, false⟩
@[simp] theorem t211_size : t211.size = 1 := rfl
@[simp] theorem t211_bytes : t211.bytes = 8 := rfl
@[simp] theorem t211_z : t211.z = .lit (.int .u64 0) := rfl
@[simp] theorem t211_y : t211.y = .lit (.int .u64 0) := rfl
@[simp] theorem t211_kind : t211.kind = .int .u64 := rfl
@[simp] theorem t211_cmp : t211.cmp = false := rfl
/-- *int -/
def t215 : TI := ⟨1, 8, .pointer none, .lit (.pointer none), .lit (.pointer none), .ptr 3, false⟩
@[simp] theorem t215_size : t215.size = 1 := rfl
@[simp] theorem t215_bytes : t215.bytes = 8 := rfl
@[simp] theorem t215_z : t215.z = .lit (.pointer none) := rfl
@[simp] theorem t215_y : t215.y = .lit (.pointer none) := rfl
@[simp] theorem t215_kind : t215.kind = .ptr 3 := rfl
@[simp] theorem t215_cmp : t215.cmp = false := rfl
/-- *slices.xorshift -/
def t218 : TI := ⟨1, 8, .pointer none, .lit (.pointer none), .lit (.pointer none), .ptr 211, false⟩
@[simp] theorem t218_size : t218.size = 1 := rfl
@[simp] theorem t218_bytes : t218.bytes = 8 := rfl
@[simp] theorem t218_z : t218.z = .lit (.pointer none) := rfl
@[simp] theorem t218_y : t218.y = .lit (.pointer none) := rfl
@[simp] theorem t218_kind : t218.kind = .ptr 211 := rfl
@[simp] theorem t218_cmp : t218.cmp = false := rfl
/-- func(unsafe.Pointer, unsafe.Pointer) bool -/
def t231 : TI := ⟨1, 8, .nilFunc, .lit .nilFunc, .lit .nilFunc, .func, false⟩
@[simp] theorem t231_size : t231.size = 1 := rfl
@[simp] theorem t231_bytes : t231.bytes = 8 := rfl
@[simp] theorem t231_z : t231.z = .lit .nilFunc := rfl
@[simp] theorem t231_y : t231.y = .lit .nilFunc := rfl
@[simp] theorem t231_kind : t231.kind = .func := rfl
@[simp] theorem t231_cmp : t231.cmp = false := rfl
/-- *uint8 -/
def t232 : TI := ⟨1, 8, .pointer none, .lit (.pointer none), .lit (.pointer none), .ptr 5, false⟩
@[simp] theorem t232_size : t232.size = 1 := rfl
@[simp] theorem t232_bytes : t232.bytes = 8 := rfl
@[simp] theorem t232_z : t232.z = .lit (.pointer none) := rfl
@[simp] theorem t232_y : t232.y = .lit (.pointer none) := rfl
@[simp] theorem t232_kind : t232.kind = .ptr 5 := rfl
@[simp] theorem t232_cmp : t232.cmp = false := rfl
/-- struct { Size_ uintptr; PtrBytes uintptr; Hash uint32; TFlag abi.TFlag; Align_ uint8; FieldAlign_ uint8; Kind_ abi.Kind; Equal func(unsafe.Pointer, unsafe.Pointer) bool; GCData *uint8; Str abi.NameOff; PtrToThis abi.TypeOff } -/
def t235 : TI := ⟨11, 48, .agg #[.int .u64 0, .int .u64 0, .int .u32 0, .int .u8 0, .int .u8 0, .int .u8 0, .int .u8 0, .nilFunc, .pointer none, .int .i32 0, .int .i32 0], .agg [.lit (.int .u64 0), .lit (.int .u64 0), .lit (.int .u32 0), .lit (.int .u8 0), .lit (.int .u8 0), .lit (.int .u8 0), .lit (.int .u8 0), .lit .nilFunc, .lit (.pointer none), .lit (.int .i32 0), .lit (.int .i32 0)], .any, .st [(0, 12), (1, 12), (2, 207), (3, 229), (4, 5), (5, 5), (6, 230), (7, 231), (8, 232), (9, 233), (10, 234)], false⟩
@[simp] theorem t235_size : t235.size = 11 := rfl
@[simp] theorem t235_bytes : t235.bytes = 48 := rfl
@[simp] theorem t235_z : t235.z = .agg [.lit (.int .u64 0), .lit (.int .u64 0), .lit (.int .u32 0), .lit (.int .u8 0), .lit (.int .u8 0), .lit (.int .u8 0), .lit (.int .u8 0), .lit .nilFunc, .lit (.pointer none), .lit (.int .i32 0), .lit (.int .i32 0)] := rfl
@[simp] theorem t235_y : t235.y = .any := rfl
@[simp] theorem t235_kind : t235.kind = .st [(0, 12), (1, 12), (2, 207), (3, 229), (4, 5), (5, 5), (6, 230), (7, 231), (8, 232), (9, 233), (10, 234)] := rfl
@[simp] theorem t235_cmp : t235.cmp = false := rfl
/-- struct { kind int; colour int; size int; place int } -/
def t241 : TI := ⟨4, 32, .agg #[.int .i64 0, .int .i64 0, .int .i64 0, .int .i64 0], .agg [.lit (.int .i64 0), .lit (.int .i64 0), .lit (.int .i64 0), .lit (.int .i64 0)], .any, .st [(0, 3), (1, 3), (2, 3), (3, 3)], true⟩
@[simp] theorem t241_size : t241.size = 4 := rfl
@[simp] theorem t241_bytes : t241.bytes = 32 := rfl
@[simp] theorem t241_z : t241.z = .agg [.lit (.int .i64 0), .lit (.int .i64 0), .lit (.int .i64 0), .lit (.int .i64 0)] := rfl
@[simp] theorem t241_y : t241.y = .any := rfl
@[simp] theorem t241_kind : t241.kind = .st [(0, 3), (1, 3), (2, 3), (3, 3)] := rfl
@[simp] theorem t241_cmp : t241.cmp = true := rfl
theorem t2_ok : t2.ok Try.prog 2 := ⟨by kernel_rfl, by kernel_rfl, by kernel_rfl, Try.underlying2, (fun h => by cases h), ⟨rfl, rfl, rfl, rfl, fun F h β => by simp [t2, Rep, Reps]⟩⟩
theorem t3_ok : t3.ok Try.prog 3 := ⟨by kernel_rfl, by kernel_rfl, by kernel_rfl, Try.underlying3, (fun h => by cases h), ⟨rfl, rfl, rfl, rfl, fun F h β => by simp [t3, Rep, Reps]⟩⟩
theorem t4_ok : t4.ok Try.prog 4 := ⟨by kernel_rfl, by kernel_rfl, by kernel_rfl, Try.underlying4, (fun h => by cases h), ⟨rfl, rfl, rfl, rfl, fun F h β => by simp [t4, Rep, Reps]⟩⟩
theorem t5_ok : t5.ok Try.prog 5 := ⟨by kernel_rfl, by kernel_rfl, by kernel_rfl, Try.underlying5, (fun h => by cases h), ⟨rfl, rfl, rfl, rfl, fun F h β => by simp [t5, Rep, Reps]⟩⟩
theorem t9_ok : t9.ok Try.prog 9 := ⟨by kernel_rfl, by kernel_rfl, by kernel_rfl, Try.underlying9, (fun h => by cases h), ⟨rfl, rfl, rfl, rfl, fun F h β => by simp [t9, Rep, Reps]⟩⟩
theorem t12_ok : t12.ok Try.prog 12 := ⟨by kernel_rfl, by kernel_rfl, by kernel_rfl, Try.underlying12, (fun h => by cases h), ⟨rfl, rfl, rfl, rfl, fun F h β => by simp [t12, Rep, Reps]⟩⟩
theorem t20_ok : t20.ok Try.prog 20 := ⟨by kernel_rfl, by kernel_rfl, by kernel_rfl, ⟨_, Try.underlying20⟩, (fun h => by cases h), ⟨rfl, rfl, rfl, rfl, fun F h β => by simp [t20, Rep, Reps]⟩⟩
theorem t21_ok : t21.ok Try.prog 21 := ⟨by kernel_rfl, by kernel_rfl, by kernel_rfl, Try.underlying21, (fun h => by cases h), ⟨rfl, rfl, rfl, rfl, fun F h β => by simp [t21, Rep, Reps]⟩⟩
theorem t22_ok : t22.ok Try.prog 22 := ⟨by kernel_rfl, by kernel_rfl, by kernel_rfl, ⟨_, Try.underlying22, rfl⟩, (fun _ => eqInts_of (by kernel_rfl) (by kernel_rfl) (by kernel_rfl)), ⟨rfl, rfl, rfl, rfl, fun F h β => by simp [t22, Rep, Reps]⟩⟩
theorem t23_ok : t23.ok Try.prog 23 := ⟨by kernel_rfl, by kernel_rfl, by kernel_rfl, ⟨_, Try.underlying23, rfl⟩, (fun _ => eqInts_of (by kernel_rfl) (by kernel_rfl) (by kernel_rfl)), ⟨rfl, rfl, rfl, rfl, fun F h β => by simp [t23, Rep, Reps]⟩⟩
theorem t24_ok : t24.ok Try.prog 24 := ⟨by kernel_rfl, by kernel_rfl, by kernel_rfl, ⟨_, Try.underlying24, rfl⟩, (fun _ => eqInts_of (by kernel_rfl) (by kernel_rfl) (by kernel_rfl)), ⟨rfl, rfl, rfl, rfl, fun F h β => by simp [t24, Rep, Reps]⟩⟩
theorem t25_ok : t25.ok Try.prog 25 := ⟨by kernel_rfl, by kernel_rfl, by kernel_rfl, ⟨_, Try.underlying25, rfl⟩, (fun _ => eqInts_of (by kernel_rfl) (by kernel_rfl) (by kernel_rfl)), ⟨rfl, rfl, rfl, rfl, fun F h β => by simp [t25, Rep, Reps]⟩⟩
theorem t26_ok : t26.ok Try.prog 26 := ⟨by kernel_rfl, by kernel_rfl, by kernel_rfl, Try.underlying26, (fun h => by cases h), ⟨rfl, rfl, rfl, rfl, fun F h β => by simp [t26, Rep, Reps]⟩⟩
theorem t28_ok : t28.ok Try.prog 28 := ⟨by kernel_rfl, by kernel_rfl, by kernel_rfl, Try.underlying28, (fun h => by cases h), ⟨rfl, rfl, rfl, rfl, fun F h β => by simp [t28, Rep, Reps]⟩⟩
theorem t30_ok : t30.ok Try.prog 30 := ⟨by kernel_rfl, by kernel_rfl, by kernel_rfl, ⟨_, Try.underlying30, rfl⟩, (fun _ => eqInts_of (by kernel_rfl) (by kernel_rfl) (by kernel_rfl)), ⟨rfl, rfl, rfl, rfl, fun F h β => by simp [t30, Rep, Reps]⟩⟩
theorem t31_ok : t31.ok Try.prog 31 := ⟨by kernel_rfl, by kernel_rfl, by kernel_rfl, ⟨_, Try.underlying31, rfl⟩, (fun _ => eqInts_of (by kernel_rfl) (by kernel_rfl) (by kernel_rfl)), ⟨rfl, rfl, rfl, rfl, fun F h β => by simp [t31, Rep, Reps]⟩⟩
theorem t32_ok : t32.ok Try.prog 32 := ⟨by kernel_rfl, by kernel_rfl, by kernel_rfl, ⟨_, Try.underlying32, rfl⟩, (fun _ => eqInts_of (by kernel_rfl) (by kernel_rfl) (by kernel_rfl)), ⟨rfl, rfl, rfl, rfl, fun F h β => by simp [t32, Rep, Reps]⟩⟩
theorem t34_ok : t34.ok Try.prog 34 := ⟨by kernel_rfl, by kernel_rfl, by kernel_rfl, Try.underlying34, (fun h => by cases h), ⟨rfl, rfl, rfl, rfl, fun F h β => by simp [t34, Rep, Reps]⟩⟩
theorem t41_ok : t41.ok Try.prog 41 := ⟨by kernel_rfl, by kernel_rfl, by kernel_rfl, ⟨_, Try.underlying41, rfl⟩, (fun _ => eqInts_of (by kernel_rfl) (by kernel_rfl) (by kernel_rfl)), ⟨rfl, rfl, rfl, rfl, fun F h β => by simp [t41, Rep, Reps]⟩⟩
theorem t42_ok : t42.ok Try.prog 42 := ⟨by kernel_rfl, by kernel_rfl, by kernel_rfl, ⟨_, Try.underlying42, rfl⟩, (fun _ => eqInts_of (by kernel_rfl) (by kernel_rfl) (by kernel_rfl)), ⟨rfl, rfl, rfl, rfl, fun F h β => by simp [t42, Rep, Reps]⟩⟩
theorem t43_ok : t43.ok Try.prog 43 := ⟨by kernel_rfl, by kernel_rfl, by kernel_rfl, ⟨_, Try.underlying43, rfl⟩, (fun h => by cases h), ⟨rfl, rfl, rfl, rfl, fun F h β => by
    show Rep F h β t43.z t43.zero
    simp only [t43, Rep, Reps]
    exact ⟨_, rfl, _, _, rfl, (by trivial), _, _, rfl, (by trivial), _, _, rfl, (.inl ⟨by trivial, none, 0, by trivial, by intros; rfl⟩), _, _, rfl, (by trivial), _, _, rfl, (by trivial), _, _, rfl, (.inl ⟨by trivial, none, 0, by trivial, by intros; rfl⟩), _, _, rfl, (by trivial), _, _, rfl, (by trivial), rfl⟩⟩⟩
theorem t44_ok : t44.ok Try.prog 44 := ⟨by kernel_rfl, by kernel_rfl, by kernel_rfl, ⟨_, Try.underlying44, rfl⟩, (fun h => by cases h), ⟨rfl, rfl, rfl, rfl, fun F h β => by
    show Rep F h β t44.z t44.zero
    simp only [t44, Rep, Reps]
    exact ⟨_, rfl, _, _, rfl, (by trivial), _, _, rfl, (by trivial), _, _, rfl, (.inl ⟨by trivial, none, 0, by trivial, by intros; rfl⟩), _, _, rfl, (by trivial), _, _, rfl, (by trivial), _, _, rfl, (.inl ⟨by trivial, none, 0, by trivial, by intros; rfl⟩), _, _, rfl, (by trivial), _, _, rfl, (by trivial), rfl⟩⟩⟩
theorem t45_ok : t45.ok Try.prog 45 := ⟨by kernel_rfl, by kernel_rfl, by kernel_rfl, Try.underlying45, (fun h => by cases h), ⟨rfl, rfl, rfl, rfl, fun F h β => by simp [t45, Rep, Reps]⟩⟩
theorem t49_ok : t49.ok Try.prog 49 := ⟨by kernel_rfl, by kernel_rfl, by kernel_rfl, ⟨_, Try.underlying49, rfl⟩, (fun _ => eqInts_of (by kernel_rfl) (by kernel_rfl) (by kernel_rfl)), ⟨rfl, rfl, rfl, rfl, fun F h β => by simp [t49, Rep, Reps]⟩⟩
theorem t50_ok : t50.ok Try.prog 50 := ⟨by kernel_rfl, by kernel_rfl, by kernel_rfl, ⟨_, Try.underlying50, rfl⟩, (fun h => by cases h), ⟨rfl, rfl, rfl, rfl, fun F h β => by
    show Rep F h β t50.z t50.zero
    simp only [t50, Rep, Reps]
    exact ⟨_, rfl, _, _, rfl, (by trivial), _, _, rfl, (by trivial), _, _, rfl, (.inl ⟨by trivial, none, 0, by trivial, by intros; rfl⟩), _, _, rfl, (by trivial), _, _, rfl, (by trivial), _, _, rfl, (.inl ⟨by trivial, none, 0, by trivial, by intros; rfl⟩), _, _, rfl, (by trivial), _, _, rfl, (by trivial), rfl⟩⟩⟩
theorem t51_ok : t51.ok Try.prog 51 := ⟨by kernel_rfl, by kernel_rfl, by kernel_rfl, ⟨_, Try.underlying51, rfl⟩, (fun h => by cases h), ⟨rfl, rfl, rfl, rfl, fun F h β => by
    show Rep F h β t51.z t51.zero
    simp only [t51, Rep, Reps]
    exact ⟨_, rfl, _, _, rfl, (by trivial), _, _, rfl, (by trivial), _, _, rfl, (.inl ⟨by trivial, none, 0, by trivial, by intros; rfl⟩), _, _, rfl, (by trivial), _, _, rfl, (by trivial), _, _, rfl, (.inl ⟨by trivial, none, 0, by trivial, by intros; rfl⟩), _, _, rfl, (by trivial), _, _, rfl, (by trivial), rfl⟩⟩⟩
theorem t58_ok : t58.ok Try.prog 58 := ⟨by kernel_rfl, by kernel_rfl, by kernel_rfl, Try.underlying58, (fun h => by cases h), ⟨rfl, rfl, rfl, rfl, fun F h β => by simp [t58, Rep, Reps]⟩⟩
theorem t59_ok : t59.ok Try.prog 59 := ⟨by kernel_rfl, by kernel_rfl, by kernel_rfl, Try.underlying59, (fun h => by cases h), ⟨rfl, rfl, rfl, rfl, fun F h β => by simp [t59, Rep, Reps]⟩⟩
theorem t62_ok : t62.ok Try.prog 62 := ⟨by kernel_rfl, by kernel_rfl, by kernel_rfl, Try.underlying62, (fun h => by cases h), ⟨rfl, rfl, rfl, rfl, fun F h β => by simp [t62, Rep, Reps]⟩⟩
theorem t66_ok : t66.ok Try.prog 66 := ⟨by kernel_rfl, by kernel_rfl, by kernel_rfl, Try.underlying66, (fun h => by cases h), ⟨rfl, rfl, rfl, rfl, fun F h β => by simp [t66, Rep, Reps]⟩⟩
theorem t77_ok : t77.ok Try.prog 77 := ⟨by kernel_rfl, by kernel_rfl, by kernel_rfl, ⟨_, _, _, Try.underlying77⟩, (fun h => by cases h), ⟨rfl, rfl, rfl, rfl, fun F h β => by simp [t77, Rep, Reps]⟩⟩
theorem t79_ok : t79.ok Try.prog 79 := ⟨by kernel_rfl, by kernel_rfl, by kernel_rfl, ⟨_, _, _, Try.underlying79⟩, (fun h => by cases h), ⟨rfl, rfl, rfl, rfl, fun F h β => by simp [t79, Rep, Reps]⟩⟩
theorem t80_ok : t80.ok Try.prog 80 := ⟨by kernel_rfl, by kernel_rfl, by kernel_rfl, ⟨_, Try.underlying80, rfl⟩, (fun h => by cases h), ⟨rfl, rfl, rfl, rfl, fun F h β => by
    show Rep F h β t80.z t80.zero
    simp only [t80, Rep, Reps]
    exact ⟨_, rfl, _, _, rfl, (.inl ⟨by trivial, none, 0, by trivial, by intros; rfl⟩), _, _, rfl, (by trivial), rfl⟩⟩⟩
theorem t81_ok : t81.ok Try.prog 81 := ⟨by kernel_rfl, by kernel_rfl, by kernel_rfl, ⟨_, Try.underlying81, rfl⟩, (fun h => by cases h), ⟨rfl, rfl, rfl, rfl, fun F h β => by
    show Rep F h β t81.z t81.zero
    simp only [t81, Rep, Reps]
    exact ⟨_, rfl, _, _, rfl, (.inl ⟨by trivial, none, 0, by trivial, by intros; rfl⟩), _, _, rfl, (by trivial), rfl⟩⟩⟩
theorem t92_ok : t92.ok Try.prog 92 := ⟨by kernel_rfl, by kernel_rfl, by kernel_rfl, ⟨_, Try.underlying92, rfl⟩, (fun h => by cases h), ⟨rfl, rfl, rfl, rfl, fun F h β => by
    show Rep F h β t92.z t92.zero
    simp only [t92, Rep, Reps]
    exact ⟨_, rfl, _, _, rfl, (by trivial), _, _, rfl, (by trivial), _, _, rfl, (.inl ⟨by trivial, none, 0, by trivial, by intros; rfl⟩), _, _, rfl, (by trivial), rfl⟩⟩⟩
theorem t93_ok : t93.ok Try.prog 93 := ⟨by kernel_rfl, by kernel_rfl, by kernel_rfl, ⟨_, Try.underlying93, rfl⟩, (fun h => by cases h), ⟨rfl, rfl, rfl, rfl, fun F h β => by
    show Rep F h β t93.z t93.zero
    simp only [t93, Rep, Reps]
    exact ⟨_, rfl, _, _, rfl, (by trivial), _, _, rfl, (by trivial), _, _, rfl, (.inl ⟨by trivial, none, 0, by trivial, by intros; rfl⟩), _, _, rfl, (by trivial), rfl⟩⟩⟩
theorem t96_ok : t96.ok Try.prog 96 := ⟨by kernel_rfl, by kernel_rfl, by kernel_rfl, ⟨_, Try.underlying96, rfl⟩, (fun h => by cases h), ⟨rfl, rfl, rfl, rfl, fun F h β => by
    show Rep F h β t96.z t96.zero
    simp only [t96, Rep, Reps]
    exact ⟨_, rfl, _, _, rfl, (by trivial), _, _, rfl, (by trivial), _, _, rfl, (.inl ⟨by trivial, none, 0, by trivial, by intros; rfl⟩), _, _, rfl, (by trivial), rfl⟩⟩⟩
theorem t97_ok : t97.ok Try.prog 97 := ⟨by kernel_rfl, by kernel_rfl, by kernel_rfl, ⟨_, Try.underlying97, rfl⟩, (fun _ => eqInts_of (by kernel_rfl) (by kernel_rfl) (by kernel_rfl)), ⟨rfl, rfl, rfl, rfl, fun F h β => by simp [t97, Rep, Reps]⟩⟩
theorem t98_ok : t98.ok Try.prog 98 := ⟨by kernel_rfl, by kernel_rfl, by kernel_rfl, ⟨_, Try.underlying98, rfl⟩, (fun _ => eqInts_of (by kernel_rfl) (by kernel_rfl) (by kernel_rfl)), ⟨rfl, rfl, rfl, rfl, fun F h β => by simp [t98, Rep, Reps]⟩⟩
theorem t100_ok : t100.ok Try.prog 100 := ⟨by kernel_rfl, by kernel_rfl, by kernel_rfl, ⟨_, Try.underlying100, rfl⟩, (fun _ => eqInts_of (by kernel_rfl) (by kernel_rfl) (by kernel_rfl)), ⟨rfl, rfl, rfl, rfl, fun F h β => by simp [t100, Rep, Reps]⟩⟩
theorem t111_ok : t111.ok Try.prog 111 := ⟨by kernel_rfl, by kernel_rfl, by kernel_rfl, Try.underlying111, (fun h => by cases h), ⟨rfl, rfl, rfl, rfl, fun F h β => by simp [t111, Rep, Reps]⟩⟩
theorem t112_ok : t112.ok Try.prog 112 := ⟨by kernel_rfl, by kernel_rfl, by kernel_rfl, Try.underlying112, (fun h => by cases h), ⟨rfl, rfl, rfl, rfl, fun F h β => by simp [t112, Rep, Reps]⟩⟩
theorem t123_ok : t123.ok Try.prog 123 := ⟨by kernel_rfl, by kernel_rfl, by kernel_rfl, Try.underlying123, (fun h => by cases h), ⟨rfl, rfl, rfl, rfl, fun F h β => by simp [t123, Rep, Reps]⟩⟩
theorem t130_ok : t130.ok Try.prog 130 := ⟨by kernel_rfl, by kernel_rfl, by kernel_rfl, ⟨_, _, _, Try.underlying130⟩, (fun h => by cases h), ⟨rfl, rfl, rfl, rfl, fun F h β => by simp [t130, Rep, Reps]⟩⟩
theorem t135_ok : t135.ok Try.prog 135 := ⟨by kernel_rfl, by kernel_rfl, by kernel_rfl, Try.underlying135, (fun h => by cases h), ⟨rfl, rfl, rfl, rfl, fun F h β => by simp [t135, Rep, Reps]⟩⟩
theorem t137_ok : t137.ok Try.prog 137 := ⟨by kernel_rfl, by kernel_rfl, by kernel_rfl, ⟨_, Try.underlying137, rfl⟩, (fun _ => eqInts_of (by kernel_rfl) (by kernel_rfl) (by kernel_rfl)), ⟨rfl, rfl, rfl, rfl, fun F h β => by simp [t137, Rep, Reps]⟩⟩
theorem t138_ok : t138.ok Try.prog 138 := ⟨by kernel_rfl, by kernel_rfl, by kernel_rfl, ⟨_, Try.underlying138, rfl⟩, (fun _ => eqInts_of (by kernel_rfl) (by kernel_rfl) (by kernel_rfl)), ⟨rfl, rfl, rfl, rfl, fun F h β => by simp [t138, Rep, Reps]⟩⟩
theorem t141_ok : t141.ok Try.prog 141 := ⟨by kernel_rfl, by kernel_rfl, by kernel_rfl, ⟨_, _, _, Try.underlying141⟩, (fun h => by cases h), ⟨rfl, rfl, rfl, rfl, fun F h β => by simp [t141, Rep, Reps]⟩⟩
theorem t142_ok : t142.ok Try.prog 142 := ⟨by kernel_rfl, by kernel_rfl, by kernel_rfl, Try.underlying142, (fun h => by cases h), ⟨rfl, rfl, rfl, rfl, fun F h β => by simp [t142, Rep, Reps]⟩⟩
theorem t144_ok : t144.ok Try.prog 144 := ⟨by kernel_rfl, by kernel_rfl, by kernel_rfl, ⟨_, Try.underlying144, rfl⟩, (fun h => by cases h), ⟨rfl, rfl, rfl, rfl, fun F h β => by simp [t144, Rep, Reps]⟩⟩
theorem t145_ok : t145.ok Try.prog 145 := ⟨by kernel_rfl, by kernel_rfl, by kernel_rfl, ⟨_, Try.underlying145, rfl⟩, (fun h => by cases h), ⟨rfl, rfl, rfl, rfl, fun F h β => by simp [t145, Rep, Reps]⟩⟩
theorem t156_ok : t156.ok Try.prog 156 := ⟨by kernel_rfl, by kernel_rfl, by kernel_rfl, ⟨_, Try.underlying156⟩, (fun h => by cases h), ⟨rfl, rfl, rfl, rfl, fun F h β => by simp [t156, Rep, Reps]⟩⟩
theorem t157_ok : t157.ok Try.prog 157 := ⟨by kernel_rfl, by kernel_rfl, by kernel_rfl, ⟨_, Try.underlying157⟩, (fun h => by cases h), ⟨rfl, rfl, rfl, rfl, fun F h β => by simp [t157, Rep, Reps]⟩⟩
theorem t159_ok : t159.ok Try.prog 159 := ⟨by kernel_rfl, by kernel_rfl, by kernel_rfl, ⟨_, Try.underlying159, rfl⟩, (fun h => by cases h), ⟨rfl, rfl, rfl, rfl, fun F h β => by simp [t159, Rep, Reps]⟩⟩
theorem t160_ok : t160.ok Try.prog 160 := ⟨by kernel_rfl, by kernel_rfl, by kernel_rfl, ⟨_, Try.underlying160, rfl⟩, (fun h => by cases h), ⟨rfl, rfl, rfl, rfl, fun F h β => by simp [t160, Rep, Reps]⟩⟩
theorem t163_ok : t163.ok Try.prog 163 := ⟨by kernel_rfl, by kernel_rfl, by kernel_rfl, Try.underlying163, (fun h => by cases h), ⟨rfl, rfl, rfl, rfl, fun F h β => by simp [t163, Rep, Reps]⟩⟩
theorem t164_ok : t164.ok Try.prog 164 := ⟨by kernel_rfl, by kernel_rfl, by kernel_rfl, Try.underlying164, (fun h => by cases h), ⟨rfl, rfl, rfl, rfl, fun F h β => by simp [t164, Rep, Reps]⟩⟩
theorem t166_ok : t166.ok Try.prog 166 := ⟨by kernel_rfl, by kernel_rfl, by kernel_rfl, Try.underlying166, (fun h => by cases h), ⟨rfl, rfl, rfl, rfl, fun F h β => by simp [t166, Rep, Reps]⟩⟩
theorem t167_ok : t167.ok Try.prog 167 := ⟨by kernel_rfl, by kernel_rfl, by kernel_rfl, ⟨_, Try.underlying167, rfl⟩, (fun h => by cases h), ⟨rfl, rfl, rfl, rfl, fun F h β => by simp [t167, Rep, Reps]⟩⟩
theorem t168_ok : t168.ok Try.prog 168 := ⟨by kernel_rfl, by kernel_rfl, by kernel_rfl, ⟨_, Try.underlying168, rfl⟩, (fun h => by cases h), ⟨rfl, rfl, rfl, rfl, fun F h β => by simp [t168, Rep, Reps]⟩⟩
theorem t171_ok : t171.ok Try.prog 171 := ⟨by kernel_rfl, by kernel_rfl, by kernel_rfl, Try.underlying171, (fun h => by cases h), ⟨rfl, rfl, rfl, rfl, fun F h β => by simp [t171, Rep, Reps]⟩⟩
theorem t173_ok : t173.ok Try.prog 173 := ⟨by kernel_rfl, by kernel_rfl, by kernel_rfl, ⟨_, Try.underlying173⟩, (fun h => by cases h), ⟨rfl, rfl, rfl, rfl, fun F h β => by simp [t173, Rep, Reps]⟩⟩
theorem t174_ok : t174.ok Try.prog 174 := ⟨by kernel_rfl, by kernel_rfl, by kernel_rfl, ⟨_, Try.underlying174⟩, (fun h => by cases h), ⟨rfl, rfl, rfl, rfl, fun F h β => by simp [t174, Rep, Reps]⟩⟩
theorem t186_ok : t186.ok Try.prog 186 := ⟨by kernel_rfl, by kernel_rfl, by kernel_rfl, Try.underlying186, (fun h => by cases h), ⟨rfl, rfl, rfl, rfl, fun F h β => by simp [t186, Rep, Reps]⟩⟩
theorem t191_ok : t191.ok Try.prog 191 := ⟨by kernel_rfl, by kernel_rfl, by kernel_rfl, ⟨_, Try.underlying191, rfl⟩, (fun _ => eqInts_of (by kernel_rfl) (by kernel_rfl) (by kernel_rfl)), ⟨rfl, rfl, rfl, rfl, fun F h β => by simp [t191, Rep, Reps]⟩⟩
theorem t192_ok : t192.ok Try.prog 192 := ⟨by kernel_rfl, by kernel_rfl, by kernel_rfl, ⟨_, Try.underlying192, rfl⟩, (fun _ => eqInts_of (by kernel_rfl) (by kernel_rfl) (by kernel_rfl)), ⟨rfl, rfl, rfl, rfl, fun F h β => by simp [t192, Rep, Reps]⟩⟩
theorem t193_ok : t193.ok Try.prog 193 := ⟨by kernel_rfl, by kernel_rfl, by kernel_rfl, ⟨_, Try.underlying193, rfl⟩, (fun _ => eqInts_of (by kernel_rfl) (by kernel_rfl) (by kernel_rfl)), ⟨rfl, rfl, rfl, rfl, fun F h β => by simp [t193, Rep, Reps]⟩⟩
theorem t194_ok : t194.ok Try.prog 194 := ⟨by kernel_rfl, by kernel_rfl, by kernel_rfl, Try.underlying194, (fun h => by cases h), ⟨rfl, rfl, rfl, rfl, fun F h β => by simp [t194, Rep, Reps]⟩⟩
theorem t197_ok : t197.ok Try.prog 197 := ⟨by kernel_rfl, by kernel_rfl, by kernel_rfl, Try.underlying197, (fun h => by cases h), ⟨rfl, rfl, rfl, rfl, fun F h β => by simp [t197, Rep, Reps]⟩⟩
theorem t200_ok : t200.ok Try.prog 200 := ⟨by kernel_rfl, by kernel_rfl, by kernel_rfl, Try.underlying200, (fun h => by cases h), ⟨rfl, rfl, rfl, rfl, fun F h β => by simp [t200, Rep, Reps]⟩⟩
theorem t207_ok : t207.ok Try.prog 207 := ⟨by kernel_rfl, by kernel_rfl, by kernel_rfl, Try.underlying207, (fun h => by cases h), ⟨rfl, rfl, rfl, rfl, fun F h β => by simp [t207, Rep, Reps]⟩⟩
theorem t209_ok : t209.ok Try.prog 209 := ⟨by kernel_rfl, by kernel_rfl, by kernel_rfl, Try.underlying209, (fun h => by cases h), ⟨rfl, rfl, rfl, rfl, fun F h β => by simp [t209, Rep, Reps]⟩⟩
theorem t211_ok : t211.ok Try.prog 211 := ⟨by kernel_rfl, by kernel_rfl, by kernel_rfl, Try.underlying211, (fun h => by cases h), ⟨rfl, rfl, rfl, rfl, fun F h β => by simp [t211, Rep, Reps]⟩⟩
theorem t215_ok : t215.ok Try.prog 215 := ⟨by kernel_rfl, by kernel_rfl, by kernel_rfl, Try.underlying215, (fun h => by cases h), ⟨rfl, rfl, rfl, rfl, fun F h β => by simp [t215, Rep, Reps]⟩⟩
theorem t218_ok : t218.ok Try.prog 218 := ⟨by kernel_rfl, by kernel_rfl, by kernel_rfl, Try.underlying218, (fun h => by cases h), ⟨rfl, rfl, rfl, rfl, fun F h β => by simp [t218, Rep, Reps]⟩⟩
theorem t231_ok : t231.ok Try.prog 231 := ⟨by kernel_rfl, by kernel_rfl, by kernel_rfl, ⟨_, _, _, Try.underlying231⟩, (fun h => by cases h), ⟨rfl, rfl, rfl, rfl, fun F h β => by simp [t231, Rep, Reps]⟩⟩
theorem t232_ok : t232.ok Try.prog 232 := ⟨by kernel_rfl, by kernel_rfl, by kernel_rfl, Try.underlying232, (fun h => by cases h), ⟨rfl, rfl, rfl, rfl, fun F h β => by simp [t232, Rep, Reps]⟩⟩
theorem t235_ok : t235.ok Try.prog 235 := ⟨by kernel_rfl, by kernel_rfl, by kernel_rfl, ⟨_, Try.underlying235, rfl⟩, (fun h => by cases h), ⟨rfl, rfl, rfl, rfl, fun F h β => by simp [t235, Rep, Reps]⟩⟩
theorem t241_ok : t241.ok Try.prog 241 := ⟨by kernel_rfl, by kernel_rfl, by kernel_rfl, ⟨_, Try.underlying241, rfl⟩, (fun _ => eqInts_of (by kernel_rfl) (by kernel_rfl) (by kernel_rfl)), ⟨rfl, rfl, rfl, rfl, fun F h β => by simp [t241, Rep, Reps]⟩⟩
def G : Ctx := [(2, t2), (3, t3), (4, t4), (5, t5), (9, t9), (12, t12), (20, t20), (21, t21), (22, t22), (23, t23), (24, t24), (25, t25), (26, t26), (28, t28), (30, t30), (31, t31), (32, t32), (34, t34), (41, t41), (42, t42), (43, t43), (44, t44), (45, t45), (49, t49), (50, t50), (51, t51), (58, t58), (59, t59), (62, t62), (66, t66), (77, t77), (79, t79), (80, t80), (81, t81), (92, t92), (93, t93), (96, t96), (97, t97), (98, t98), (100, t100), (111, t111), (112, t112), (123, t123), (130, t130), (135, t135), (137, t137), (138, t138), (141, t141), (142, t142), (144, t144), (145, t145), (156, t156), (157, t157), (159, t159), (160, t160), (163, t163), (164, t164), (166, t166), (167, t167), (168, t168), (171, t171), (173, t173), (174, t174), (186, t186), (191, t191), (192, t192), (193, t193), (194, t194), (197, t197), (200, t200), (207, t207), (209, t209), (211, t211), (215, t215), (218, t218), (231, t231), (232, t232), (235, t235), (241, t241)]
@[simp] theorem G_2 : G.get 2 = some t2 := rfl
@[simp] theorem G_3 : G.get 3 = some t3 := rfl
@[simp] theorem G_4 : G.get 4 = some t4 := rfl
@[simp] theorem G_5 : G.get 5 = some t5 := rfl
@[simp] theorem G_9 : G.get 9 = some t9 := rfl
@[simp] theorem G_12 : G.get 12 = some t12 := rfl
@[simp] theorem G_20 : G.get 20 = some t20 := rfl
@[simp] theorem G_21 : G.get 21 = some t21 := rfl
@[simp] theorem G_22 : G.get 22 = some t22 := rfl
@[simp] theorem G_23 : G.get 23 = some t23 := rfl
@[simp] theorem G_24 : G.get 24 = some t24 := rfl
@[simp] theorem G_25 : G.get 25 = some t25 := rfl
@[simp] theorem G_26 : G.get 26 = some t26 := rfl
@[simp] theorem G_28 : G.get 28 = some t28 := rfl
@[simp] theorem G_30 : G.get 30 = some t30 := rfl
@[simp] theorem G_31 : G.get 31 = some t31 := rfl
@[simp] theorem G_32 : G.get 32 = some t32 := rfl
@[simp] theorem G_34 : G.get 34 = some t34 := rfl
@[simp] theorem G_41 : G.get 41 = some t41 := rfl
@[simp] theorem G_42 : G.get 42 = some t42 := rfl
@[simp] theorem G_43 : G.get 43 = some t43 := rfl
@[simp] theorem G_44 : G.get 44 = some t44 := rfl
@[simp] theorem G_45 : G.get 45 = some t45 := rfl
@[simp] theorem G_49 : G.get 49 = some t49 := rfl
@[simp] theorem G_50 : G.get 50 = some t50 := rfl
@[simp] theorem G_51 : G.get 51 = some t51 := rfl
@[simp] theorem G_58 : G.get 58 = some t58 := rfl
@[simp] theorem G_59 : G.get 59 = some t59 := rfl
@[simp] theorem G_62 : G.get 62 = some t62 := rfl
@[simp] theorem G_66 : G.get 66 = some t66 := rfl
@[simp] theorem G_77 : G.get 77 = some t77 := rfl
@[simp] theorem G_79 : G.get 79 = some t79 := rfl
@[simp] theorem G_80 : G.get 80 = some t80 := rfl
@[simp] theorem G_81 : G.get 81 = some t81 := rfl
@[simp] theorem G_92 : G.get 92 = some t92 := rfl
@[simp] theorem G_93 : G.get 93 = some t93 := rfl
@[simp] theorem G_96 : G.get 96 = some t96 := rfl
@[simp] theorem G_97 : G.get 97 = some t97 := rfl
@[simp] theorem G_98 : G.get 98 = some t98 := rfl
@[simp] theorem G_100 : G.get 100 = some t100 := rfl
@[simp] theorem G_111 : G.get 111 = some t111 := rfl
@[simp] theorem G_112 : G.get 112 = some t112 := rfl
@[simp] theorem G_123 : G.get 123 = some t123 := rfl
@[simp] theorem G_130 : G.get 130 = some t130 := rfl
@[simp] theorem G_135 : G.get 135 = some t135 := rfl
@[simp] theorem G_137 : G.get 137 = some t137 := rfl
@[simp] theorem G_138 : G.get 138 = some t138 := rfl
@[simp] theorem G_141 : G.get 141 = some t141 := rfl
@[simp] theorem G_142 : G.get 142 = some t142 := rfl
@[simp] theorem G_144 : G.get 144 = some t144 := rfl
@[simp] theorem G_145 : G.get 145 = some t145 := rfl
@[simp] theorem G_156 : G.get 156 = some t156 := rfl
@[simp] theorem G_157 : G.get 157 = some t157 := rfl
@[simp] theorem G_159 : G.get 159 = some t159 := rfl
@[simp] theorem G_160 : G.get 160 = some t160 := rfl
@[simp] theorem G_163 : G.get 163 = some t163 := rfl
@[simp] theorem G_164 : G.get 164 = some t164 := rfl
@[simp] theorem G_166 : G.get 166 = some t166 := rfl
@[simp] theorem G_167 : G.get 167 = some t167 := rfl
@[simp] theorem G_168 : G.get 168 = some t168 := rfl
@[simp] theorem G_171 : G.get 171 = some t171 := rfl
@[simp] theorem G_173 : G.get 173 = some t173 := rfl
@[simp] theorem G_174 : G.get 174 = some t174 := rfl
@[simp] theorem G_186 : G.get 186 = some t186 := rfl
@[simp] theorem G_191 : G.get 191 = some t191 := rfl
@[simp] theorem G_192 : G.get 192 = some t192 := rfl
@[simp] theorem G_193 : G.get 193 = some t193 := rfl
@[simp] theorem G_194 : G.get 194 = some t194 := rfl
@[simp] theorem G_197 : G.get 197 = some t197 := rfl
@[simp] theorem G_200 : G.get 200 = some t200 := rfl
@[simp] theorem G_207 : G.get 207 = some t207 := rfl
@[simp] theorem G_209 : G.get 209 = some t209 := rfl
@[simp] theorem G_211 : G.get 211 = some t211 := rfl
@[simp] theorem G_215 : G.get 215 = some t215 := rfl
@[simp] theorem G_218 : G.get 218 = some t218 := rfl
@[simp] theorem G_231 : G.get 231 = some t231 := rfl
@[simp] theorem G_232 : G.get 232 = some t232 := rfl
@[simp] theorem G_235 : G.get 235 = some t235 := rfl
@[simp] theorem G_241 : G.get 241 = some t241 := rfl
theorem G_ok : G.ok Try.prog := by
  intro p hp
  simp only [G, List.mem_cons, List.not_mem_nil, or_false] at hp
  rcases hp with rfl | rfl | rfl | rfl | rfl | rfl | rfl | rfl | rfl | rfl | rfl | rfl | rfl | rfl | rfl | rfl | rfl | rfl | rfl | rfl | rfl | rfl | rfl | rfl | rfl | rfl | rfl | rfl | rfl | rfl | rfl | rfl | rfl | rfl | rfl | rfl | rfl | rfl | rfl | rfl | rfl | rfl | rfl | rfl | rfl | rfl | rfl | rfl | rfl | rfl | rfl | rfl | rfl | rfl | rfl | rfl | rfl | rfl | rfl | rfl | rfl | rfl | rfl | rfl | rfl | rfl | rfl | rfl | rfl | rfl | rfl | rfl | rfl | rfl | rfl | rfl | rfl | rfl | rfl
  · exact t2_ok
  · exact t3_ok
  · exact t4_ok
  · exact t5_ok
  · exact t9_ok
  · exact t12_ok
  · exact t20_ok
  · exact t21_ok
  · exact t22_ok
  · exact t23_ok
  · exact t24_ok
  · exact t25_ok
  · exact t26_ok
  · exact t28_ok
  · exact t30_ok
  · exact t31_ok
  · exact t32_ok
  · exact t34_ok
  · exact t41_ok
  · exact t42_ok
  · exact t43_ok
  · exact t44_ok
  · exact t45_ok
  · exact t49_ok
  · exact t50_ok
  · exact t51_ok
  · exact t58_ok
  · exact t59_ok
  · exact t62_ok
  · exact t66_ok
  · exact t77_ok
  · exact t79_ok
  · exact t80_ok
  · exact t81_ok
  · exact t92_ok
  · exact t93_ok
  · exact t96_ok
  · exact t97_ok
  · exact t98_ok
  · exact t100_ok
  · exact t111_ok
  · exact t112_ok
  · exact t123_ok
  · exact t130_ok
  · exact t135_ok
  · exact t137_ok
  · exact t138_ok
  · exact t141_ok
  · exact t142_ok
  · exact t144_ok
  · exact t145_ok
  · exact t156_ok
  · exact t157_ok
  · exact t159_ok
  · exact t160_ok
  · exact t163_ok
  · exact t164_ok
  · exact t166_ok
  · exact t167_ok
  · exact t168_ok
  · exact t171_ok
  · exact t173_ok
  · exact t174_ok
  · exact t186_ok
  · exact t191_ok
  · exact t192_ok
  · exact t193_ok
  · exact t194_ok
  · exact t197_ok
  · exact t200_ok
  · exact t207_ok
  · exact t209_ok
  · exact t211_ok
  · exact t215_ok
  · exact t218_ok
  · exact t231_ok
  · exact t232_ok
  · exact t235_ok
  · exact t241_ok
theorem mix : Try.prog.follows .mixedOrders = true := by kernel_rfl
end Go.Proofs.Ytnghehfdclhfdaa
