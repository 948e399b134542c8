/- What is known of the types of this program: their sizes, zero values and parts. -/
import Derived.Test.YtbpcabaaniiggaaDoorProg
import Derived.Test.YtbpcabaaniiggaaDoorTY
import Derived.KernelRfl
namespace Go.Proofs.YtbpcabaaniiggaaDoor
open Go Go.Eng
set_option linter.unusedSimpArgs false
set_option linter.unusedVariables false
set_option maxRecDepth 20000
/-- int64 -/
def t2 : TI := ⟨1, 8, .int .i64 0, .lit (.int .i64 0), .lit (.int .i64 0), .int .i64, false⟩
@[simp] theorem t2_size : t2.size = 1 := rfl
@[simp] theorem t2_bytes : t2.bytes = 8 := rfl
@[simp] theorem t2_z : t2.z = .lit (.int .i64 0) := rfl
@[simp] theorem t2_y : t2.y = .lit (.int .i64 0) := rfl
@[simp] theorem t2_kind : t2.kind = .int .i64 := rfl
@[simp] theorem t2_cmp : t2.cmp = false := rfl
/-- int -/
def t3 : TI := ⟨1, 8, .int .i64 0, .lit (.int .i64 0), .lit (.int .i64 0), .int .i64, false⟩
@[simp] theorem t3_size : t3.size = 1 := rfl
@[simp] theorem t3_bytes : t3.bytes = 8 := rfl
@[simp] theorem t3_z : t3.z = .lit (.int .i64 0) := rfl
@[simp] theorem t3_y : t3.y = .lit (.int .i64 0) := rfl
@[simp] theorem t3_kind : t3.kind = .int .i64 := rfl
@[simp] theorem t3_cmp : t3.cmp = false := rfl
/-- bool -/
def t4 : TI := ⟨1, 1, .bool false, .lit (.bool false), .lit (.bool false), .bool, false⟩
@[simp] theorem t4_size : t4.size = 1 := rfl
@[simp] theorem t4_bytes : t4.bytes = 1 := rfl
@[simp] theorem t4_z : t4.z = .lit (.bool false) := rfl
@[simp] theorem t4_y : t4.y = .lit (.bool false) := rfl
@[simp] theorem t4_kind : t4.kind = .bool := rfl
@[simp] theorem t4_cmp : t4.cmp = false := rfl
/-- uint8 -/
def t5 : TI := ⟨1, 1, .int .u8 0, .lit (.int .u8 0), .lit (.int .u8 0), .int .u8, false⟩
@[simp] theorem t5_size : t5.size = 1 := rfl
@[simp] theorem t5_bytes : t5.bytes = 1 := rfl
@[simp] theorem t5_z : t5.z = .lit (.int .u8 0) := rfl
@[simp] theorem t5_y : t5.y = .lit (.int .u8 0) := rfl
@[simp] theorem t5_kind : t5.kind = .int .u8 := rfl
@[simp] theorem t5_cmp : t5.cmp = false := rfl
/-- string -/
def t9 : TI := ⟨1, 16, .string ⟨#[]⟩, .lit (.string ⟨#[]⟩), .lit (.string ⟨#[]⟩), .str, false⟩
@[simp] theorem t9_size : t9.size = 1 := rfl
@[simp] theorem t9_bytes : t9.bytes = 16 := rfl
@[simp] theorem t9_z : t9.z = .lit (.string ⟨#[]⟩) := rfl
@[simp] theorem t9_y : t9.y = .lit (.string ⟨#[]⟩) := rfl
@[simp] theorem t9_kind : t9.kind = .str := rfl
@[simp] theorem t9_cmp : t9.cmp = false := rfl
/-- uintptr -/
def t12 : TI := ⟨1, 8, .int .u64 0, .lit (.int .u64 0), .lit (.int .u64 0), .int .u64, false⟩
@[simp] theorem t12_size : t12.size = 1 := rfl
@[simp] theorem t12_bytes : t12.bytes = 8 := rfl
@[simp] theorem t12_z : t12.z = .lit (.int .u64 0) := rfl
@[simp] theorem t12_y : t12.y = .lit (.int .u64 0) := rfl
@[simp] theorem t12_kind : t12.kind = .int .u64 := rfl
@[simp] theorem t12_cmp : t12.cmp = false := rfl
/-- interface {} -/
def t20 : TI := ⟨1, 16, .nilIface, .lit .nilIface, .lit .nilIface, .iface, false⟩
@[simp] theorem t20_size : t20.size = 1 := rfl
@[simp] theorem t20_bytes : t20.bytes = 16 := rfl
@[simp] theorem t20_z : t20.z = .lit .nilIface := rfl
@[simp] theorem t20_y : t20.y = .lit .nilIface := rfl
@[simp] theorem t20_kind : t20.kind = .iface := rfl
@[simp] theorem t20_cmp : t20.cmp = false := rfl
/-- int32 -/
def t21 : TI := ⟨1, 4, .int .i32 0, .lit (.int .i32 0), .lit (.int .i32 0), .int .i32, false⟩
@[simp] theorem t21_size : t21.size = 1 := rfl
@[simp] theorem t21_bytes : t21.bytes = 4 := rfl
@[simp] theorem t21_z : t21.z = .lit (.int .i32 0) := rfl
@[simp] theorem t21_y : t21.y = .lit (.int .i32 0) := rfl
@[simp] theorem t21_kind : t21.kind = .int .i32 := rfl
@[simp] theorem t21_cmp : t21.cmp = false := rfl
/-- struct { Id int; Kind int; Colour int; Size int; Worth int } -/
def t24 : TI := ⟨5, 40, .agg #[.int .i64 0, .int .i64 0, .int .i64 0, .int .i64 0, .int .i64 0], .agg [.lit (.int .i64 0), .lit (.int .i64 0), .lit (.int .i64 0), .lit (.int .i64 0), .lit (.int .i64 0)], yTThing, .st [(0, 3), (1, 3), (2, 3), (3, 3), (4, 3)], true⟩
@[simp] theorem t24_size : t24.size = 5 := rfl
@[simp] theorem t24_bytes : t24.bytes = 40 := rfl
@[simp] theorem t24_z : t24.z = .agg [.lit (.int .i64 0), .lit (.int .i64 0), .lit (.int .i64 0), .lit (.int .i64 0), .lit (.int .i64 0)] := rfl
@[simp] theorem t24_y : t24.y = yTThing := rfl
@[simp] theorem t24_kind : t24.kind = .st [(0, 3), (1, 3), (2, 3), (3, 3), (4, 3)] := rfl
@[simp] theorem t24_cmp : t24.cmp = true := rfl
/-- laws.Thing = loop.example/g03007/laws.Thing -/
def t25 : TI := ⟨5, 40, .agg #[.int .i64 0, .int .i64 0, .int .i64 0, .int .i64 0, .int .i64 0], .agg [.lit (.int .i64 0), .lit (.int .i64 0), .lit (.int .i64 0), .lit (.int .i64 0), .lit (.int .i64 0)], yTThing, .st [(0, 3), (1, 3), (2, 3), (3, 3), (4, 3)], true⟩
@[simp] theorem t25_size : t25.size = 5 := rfl
@[simp] theorem t25_bytes : t25.bytes = 40 := rfl
@[simp] theorem t25_z : t25.z = .agg [.lit (.int .i64 0), .lit (.int .i64 0), .lit (.int .i64 0), .lit (.int .i64 0), .lit (.int .i64 0)] := rfl
@[simp] theorem t25_y : t25.y = yTThing := rfl
@[simp] theorem t25_kind : t25.kind = .st [(0, 3), (1, 3), (2, 3), (3, 3), (4, 3)] := rfl
@[simp] theorem t25_cmp : t25.cmp = true := rfl
/-- impl.Thing = loop.example/g03007/impl.Thing -/
def t27 : TI := ⟨5, 40, .agg #[.int .i64 0, .int .i64 0, .int .i64 0, .int .i64 0, .int .i64 0], .agg [.lit (.int .i64 0), .lit (.int .i64 0), .lit (.int .i64 0), .lit (.int .i64 0), .lit (.int .i64 0)], yTThing, .st [(0, 3), (1, 3), (2, 3), (3, 3), (4, 3)], true⟩
@[simp] theorem t27_size : t27.size = 5 := rfl
@[simp] theorem t27_bytes : t27.bytes = 40 := rfl
@[simp] theorem t27_z : t27.z = .agg [.lit (.int .i64 0), .lit (.int .i64 0), .lit (.int .i64 0), .lit (.int .i64 0), .lit (.int .i64 0)] := rfl
@[simp] theorem t27_y : t27.y = yTThing := rfl
@[simp] theorem t27_kind : t27.kind = .st [(0, 3), (1, 3), (2, 3), (3, 3), (4, 3)] := rfl
@[simp] theorem t27_cmp : t27.cmp = true := rfl
/-- []int -/
def t30 : TI := ⟨1, 24, .slice none 0 0, .sl true 0 .any [], yLI, .slice 3, false⟩
@[simp] theorem t30_size : t30.size = 1 := rfl
@[simp] theorem t30_bytes : t30.bytes = 24 := rfl
@[simp] theorem t30_z : t30.z = .sl true 0 .any [] := rfl
@[simp] theorem t30_y : t30.y = yLI := rfl
@[simp] theorem t30_kind : t30.kind = .slice 3 := rfl
@[simp] theorem t30_cmp : t30.cmp = false := rfl
/-- func([]int) []int -/
def t32 : TI := ⟨1, 8, .nilFunc, .lit .nilFunc, .lit .nilFunc, .func, false⟩
@[simp] theorem t32_size : t32.size = 1 := rfl
@[simp] theorem t32_bytes : t32.bytes = 8 := rfl
@[simp] theorem t32_z : t32.z = .lit .nilFunc := rfl
@[simp] theorem t32_y : t32.y = .lit .nilFunc := rfl
@[simp] theorem t32_kind : t32.kind = .func := rfl
@[simp] theorem t32_cmp : t32.cmp = false := rfl
/-- struct { From int; Until int } -/
def t35 : TI := ⟨2, 16, .agg #[.int .i64 0, .int .i64 0], .agg [.lit (.int .i64 0), .lit (.int .i64 0)], yTSpan, .st [(0, 3), (1, 3)], true⟩
@[simp] theorem t35_size : t35.size = 2 := rfl
@[simp] theorem t35_bytes : t35.bytes = 16 := rfl
@[simp] theorem t35_z : t35.z = .agg [.lit (.int .i64 0), .lit (.int .i64 0)] := rfl
@[simp] theorem t35_y : t35.y = yTSpan := rfl
@[simp] theorem t35_kind : t35.kind = .st [(0, 3), (1, 3)] := rfl
@[simp] theorem t35_cmp : t35.cmp = true := rfl
/-- laws.Span = loop.example/g03007/laws.Span -/
def t36 : TI := ⟨2, 16, .agg #[.int .i64 0, .int .i64 0], .agg [.lit (.int .i64 0), .lit (.int .i64 0)], yTSpan, .st [(0, 3), (1, 3)], true⟩
@[simp] theorem t36_size : t36.size = 2 := rfl
@[simp] theorem t36_bytes : t36.bytes = 16 := rfl
@[simp] theorem t36_z : t36.z = .agg [.lit (.int .i64 0), .lit (.int .i64 0)] := rfl
@[simp] theorem t36_y : t36.y = yTSpan := rfl
@[simp] theorem t36_kind : t36.kind = .st [(0, 3), (1, 3)] := rfl
@[simp] theorem t36_cmp : t36.cmp = true := rfl
/-- struct { Id int; Kind int; Colours []int; SizeLow int; SizeHigh int; Places []int; Span laws.Span } -/
def t37 : TI := ⟨8, 96, .agg #[.int .i64 0, .int .i64 0, .slice none 0 0, .int .i64 0, .int .i64 0, .slice none 0 0, .int .i64 0, .int .i64 0], .agg [.lit (.int .i64 0), .lit (.int .i64 0), .sl true 0 .any [], .lit (.int .i64 0), .lit (.int .i64 0), .sl true 0 .any [], .lit (.int .i64 0), .lit (.int .i64 0)], yTReport, .st [(0, 3), (1, 3), (2, 30), (3, 3), (4, 3), (5, 30), (6, 36)], false⟩
@[simp] theorem t37_size : t37.size = 8 := rfl
@[simp] theorem t37_bytes : t37.bytes = 96 := rfl
@[simp] theorem t37_z : t37.z = .agg [.lit (.int .i64 0), .lit (.int .i64 0), .sl true 0 .any [], .lit (.int .i64 0), .lit (.int .i64 0), .sl true 0 .any [], .lit (.int .i64 0), .lit (.int .i64 0)] := rfl
@[simp] theorem t37_y : t37.y = yTReport := rfl
@[simp] theorem t37_kind : t37.kind = .st [(0, 3), (1, 3), (2, 30), (3, 3), (4, 3), (5, 30), (6, 36)] := rfl
@[simp] theorem t37_cmp : t37.cmp = false := rfl
/-- laws.Report = loop.example/g03007/laws.Report -/
def t38 : TI := ⟨8, 96, .agg #[.int .i64 0, .int .i64 0, .slice none 0 0, .int .i64 0, .int .i64 0, .slice none 0 0, .int .i64 0, .int .i64 0], .agg [.lit (.int .i64 0), .lit (.int .i64 0), .sl true 0 .any [], .lit (.int .i64 0), .lit (.int .i64 0), .sl true 0 .any [], .lit (.int .i64 0), .lit (.int .i64 0)], yTReport, .st [(0, 3), (1, 3), (2, 30), (3, 3), (4, 3), (5, 30), (6, 36)], false⟩
@[simp] theorem t38_size : t38.size = 8 := rfl
@[simp] theorem t38_bytes : t38.bytes = 96 := rfl
@[simp] theorem t38_z : t38.z = .agg [.lit (.int .i64 0), .lit (.int .i64 0), .sl true 0 .any [], .lit (.int .i64 0), .lit (.int .i64 0), .sl true 0 .any [], .lit (.int .i64 0), .lit (.int .i64 0)] := rfl
@[simp] theorem t38_y : t38.y = yTReport := rfl
@[simp] theorem t38_kind : t38.kind = .st [(0, 3), (1, 3), (2, 30), (3, 3), (4, 3), (5, 30), (6, 36)] := rfl
@[simp] theorem t38_cmp : t38.cmp = false := rfl
/-- impl.Span = loop.example/g03007/impl.Span -/
def t41 : TI := ⟨2, 16, .agg #[.int .i64 0, .int .i64 0], .agg [.lit (.int .i64 0), .lit (.int .i64 0)], yTSpan, .st [(0, 3), (1, 3)], true⟩
@[simp] theorem t41_size : t41.size = 2 := rfl
@[simp] theorem t41_bytes : t41.bytes = 16 := rfl
@[simp] theorem t41_z : t41.z = .agg [.lit (.int .i64 0), .lit (.int .i64 0)] := rfl
@[simp] theorem t41_y : t41.y = yTSpan := rfl
@[simp] theorem t41_kind : t41.kind = .st [(0, 3), (1, 3)] := rfl
@[simp] theorem t41_cmp : t41.cmp = true := rfl
/-- struct { Id int; Kind int; Colours []int; SizeLow int; SizeHigh int; Places []int; Span impl.Span } -/
def t42 : TI := ⟨8, 96, .agg #[.int .i64 0, .int .i64 0, .slice none 0 0, .int .i64 0, .int .i64 0, .slice none 0 0, .int .i64 0, .int .i64 0], .agg [.lit (.int .i64 0), .lit (.int .i64 0), .sl true 0 .any [], .lit (.int .i64 0), .lit (.int .i64 0), .sl true 0 .any [], .lit (.int .i64 0), .lit (.int .i64 0)], yTReport, .st [(0, 3), (1, 3), (2, 30), (3, 3), (4, 3), (5, 30), (6, 41)], false⟩
@[simp] theorem t42_size : t42.size = 8 := rfl
@[simp] theorem t42_bytes : t42.bytes = 96 := rfl
@[simp] theorem t42_z : t42.z = .agg [.lit (.int .i64 0), .lit (.int .i64 0), .sl true 0 .any [], .lit (.int .i64 0), .lit (.int .i64 0), .sl true 0 .any [], .lit (.int .i64 0), .lit (.int .i64 0)] := rfl
@[simp] theorem t42_y : t42.y = yTReport := rfl
@[simp] theorem t42_kind : t42.kind = .st [(0, 3), (1, 3), (2, 30), (3, 3), (4, 3), (5, 30), (6, 41)] := rfl
@[simp] theorem t42_cmp : t42.cmp = false := rfl
/-- impl.Report = loop.example/g03007/impl.Report -/
def t43 : TI := ⟨8, 96, .agg #[.int .i64 0, .int .i64 0, .slice none 0 0, .int .i64 0, .int .i64 0, .slice none 0 0, .int .i64 0, .int .i64 0], .agg [.lit (.int .i64 0), .lit (.int .i64 0), .sl true 0 .any [], .lit (.int .i64 0), .lit (.int .i64 0), .sl true 0 .any [], .lit (.int .i64 0), .lit (.int .i64 0)], yTReport, .st [(0, 3), (1, 3), (2, 30), (3, 3), (4, 3), (5, 30), (6, 41)], false⟩
@[simp] theorem t43_size : t43.size = 8 := rfl
@[simp] theorem t43_bytes : t43.bytes = 96 := rfl
@[simp] theorem t43_z : t43.z = .agg [.lit (.int .i64 0), .lit (.int .i64 0), .sl true 0 .any [], .lit (.int .i64 0), .lit (.int .i64 0), .sl true 0 .any [], .lit (.int .i64 0), .lit (.int .i64 0)] := rfl
@[simp] theorem t43_y : t43.y = yTReport := rfl
@[simp] theorem t43_kind : t43.kind = .st [(0, 3), (1, 3), (2, 30), (3, 3), (4, 3), (5, 30), (6, 41)] := rfl
@[simp] theorem t43_cmp : t43.cmp = false := rfl
/-- struct { Thing laws.Thing; Place int; At int; Finder int } -/
def t47 : TI := ⟨8, 64, .agg #[.int .i64 0, .int .i64 0, .int .i64 0, .int .i64 0, .int .i64 0, .int .i64 0, .int .i64 0, .int .i64 0], .agg [.lit (.int .i64 0), .lit (.int .i64 0), .lit (.int .i64 0), .lit (.int .i64 0), .lit (.int .i64 0), .lit (.int .i64 0), .lit (.int .i64 0), .lit (.int .i64 0)], yTFind, .st [(0, 25), (5, 3), (6, 3), (7, 3)], true⟩
@[simp] theorem t47_size : t47.size = 8 := rfl
@[simp] theorem t47_bytes : t47.bytes = 64 := rfl
@[simp] theorem t47_z : t47.z = .agg [.lit (.int .i64 0), .lit (.int .i64 0), .lit (.int .i64 0), .lit (.int .i64 0), .lit (.int .i64 0), .lit (.int .i64 0), .lit (.int .i64 0), .lit (.int .i64 0)] := rfl
@[simp] theorem t47_y : t47.y = yTFind := rfl
@[simp] theorem t47_kind : t47.kind = .st [(0, 25), (5, 3), (6, 3), (7, 3)] := rfl
@[simp] theorem t47_cmp : t47.cmp = true := rfl
/-- laws.Find = loop.example/g03007/laws.Find -/
def t48 : TI := ⟨8, 64, .agg #[.int .i64 0, .int .i64 0, .int .i64 0, .int .i64 0, .int .i64 0, .int .i64 0, .int .i64 0, .int .i64 0], .agg [.lit (.int .i64 0), .lit (.int .i64 0), .lit (.int .i64 0), .lit (.int .i64 0), .lit (.int .i64 0), .lit (.int .i64 0), .lit (.int .i64 0), .lit (.int .i64 0)], yTFind, .st [(0, 25), (5, 3), (6, 3), (7, 3)], true⟩
@[simp] theorem t48_size : t48.size = 8 := rfl
@[simp] theorem t48_bytes : t48.bytes = 64 := rfl
@[simp] theorem t48_z : t48.z = .agg [.lit (.int .i64 0), .lit (.int .i64 0), .lit (.int .i64 0), .lit (.int .i64 0), .lit (.int .i64 0), .lit (.int .i64 0), .lit (.int .i64 0), .lit (.int .i64 0)] := rfl
@[simp] theorem t48_y : t48.y = yTFind := rfl
@[simp] theorem t48_kind : t48.kind = .st [(0, 25), (5, 3), (6, 3), (7, 3)] := rfl
@[simp] theorem t48_cmp : t48.cmp = true := rfl
/-- struct { Thing impl.Thing; Place int; At int; Finder int } -/
def t50 : TI := ⟨8, 64, .agg #[.int .i64 0, .int .i64 0, .int .i64 0, .int .i64 0, .int .i64 0, .int .i64 0, .int .i64 0, .int .i64 0], .agg [.lit (.int .i64 0), .lit (.int .i64 0), .lit (.int .i64 0), .lit (.int .i64 0), .lit (.int .i64 0), .lit (.int .i64 0), .lit (.int .i64 0), .lit (.int .i64 0)], yTFind, .st [(0, 27), (5, 3), (6, 3), (7, 3)], true⟩
@[simp] theorem t50_size : t50.size = 8 := rfl
@[simp] theorem t50_bytes : t50.bytes = 64 := rfl
@[simp] theorem t50_z : t50.z = .agg [.lit (.int .i64 0), .lit (.int .i64 0), .lit (.int .i64 0), .lit (.int .i64 0), .lit (.int .i64 0), .lit (.int .i64 0), .lit (.int .i64 0), .lit (.int .i64 0)] := rfl
@[simp] theorem t50_y : t50.y = yTFind := rfl
@[simp] theorem t50_kind : t50.kind = .st [(0, 27), (5, 3), (6, 3), (7, 3)] := rfl
@[simp] theorem t50_cmp : t50.cmp = true := rfl
/-- impl.Find = loop.example/g03007/impl.Find -/
def t51 : TI := ⟨8, 64, .agg #[.int .i64 0, .int .i64 0, .int .i64 0, .int .i64 0, .int .i64 0, .int .i64 0, .int .i64 0, .int .i64 0], .agg [.lit (.int .i64 0), .lit (.int .i64 0), .lit (.int .i64 0), .lit (.int .i64 0), .lit (.int .i64 0), .lit (.int .i64 0), .lit (.int .i64 0), .lit (.int .i64 0)], yTFind, .st [(0, 27), (5, 3), (6, 3), (7, 3)], true⟩
@[simp] theorem t51_size : t51.size = 8 := rfl
@[simp] theorem t51_bytes : t51.bytes = 64 := rfl
@[simp] theorem t51_z : t51.z = .agg [.lit (.int .i64 0), .lit (.int .i64 0), .lit (.int .i64 0), .lit (.int .i64 0), .lit (.int .i64 0), .lit (.int .i64 0), .lit (.int .i64 0), .lit (.int .i64 0)] := rfl
@[simp] theorem t51_y : t51.y = yTFind := rfl
@[simp] theorem t51_kind : t51.kind = .st [(0, 27), (5, 3), (6, 3), (7, 3)] := rfl
@[simp] theorem t51_cmp : t51.cmp = true := rfl
/-- struct { Thing int; Fate int; Day int } -/
def t54 : TI := ⟨3, 24, .agg #[.int .i64 0, .int .i64 0, .int .i64 0], .agg [.lit (.int .i64 0), .lit (.int .i64 0), .lit (.int .i64 0)], yTTask, .st [(0, 3), (1, 3), (2, 3)], true⟩
@[simp] theorem t54_size : t54.size = 3 := rfl
@[simp] theorem t54_bytes : t54.bytes = 24 := rfl
@[simp] theorem t54_z : t54.z = .agg [.lit (.int .i64 0), .lit (.int .i64 0), .lit (.int .i64 0)] := rfl
@[simp] theorem t54_y : t54.y = yTTask := rfl
@[simp] theorem t54_kind : t54.kind = .st [(0, 3), (1, 3), (2, 3)] := rfl
@[simp] theorem t54_cmp : t54.cmp = true := rfl
/-- laws.Task = loop.example/g03007/laws.Task -/
def t55 : TI := ⟨3, 24, .agg #[.int .i64 0, .int .i64 0, .int .i64 0], .agg [.lit (.int .i64 0), .lit (.int .i64 0), .lit (.int .i64 0)], yTTask, .st [(0, 3), (1, 3), (2, 3)], true⟩
@[simp] theorem t55_size : t55.size = 3 := rfl
@[simp] theorem t55_bytes : t55.bytes = 24 := rfl
@[simp] theorem t55_z : t55.z = .agg [.lit (.int .i64 0), .lit (.int .i64 0), .lit (.int .i64 0)] := rfl
@[simp] theorem t55_y : t55.y = yTTask := rfl
@[simp] theorem t55_kind : t55.kind = .st [(0, 3), (1, 3), (2, 3)] := rfl
@[simp] theorem t55_cmp : t55.cmp = true := rfl
/-- impl.Task = loop.example/g03007/impl.Task -/
def t57 : TI := ⟨3, 24, .agg #[.int .i64 0, .int .i64 0, .int .i64 0], .agg [.lit (.int .i64 0), .lit (.int .i64 0), .lit (.int .i64 0)], yTTask, .st [(0, 3), (1, 3), (2, 3)], true⟩
@[simp] theorem t57_size : t57.size = 3 := rfl
@[simp] theorem t57_bytes : t57.bytes = 24 := rfl
@[simp] theorem t57_z : t57.z = .agg [.lit (.int .i64 0), .lit (.int .i64 0), .lit (.int .i64 0)] := rfl
@[simp] theorem t57_y : t57.y = yTTask := rfl
@[simp] theorem t57_kind : t57.kind = .st [(0, 3), (1, 3), (2, 3)] := rfl
@[simp] theorem t57_cmp : t57.cmp = true := rfl
/-- []laws.Slot -/
def t60 : TI := ⟨1, 24, .slice none 0 0, .sl true 0 .any [], yLTSlot, .slice 99, false⟩
@[simp] theorem t60_size : t60.size = 1 := rfl
@[simp] theorem t60_bytes : t60.bytes = 24 := rfl
@[simp] theorem t60_z : t60.z = .sl true 0 .any [] := rfl
@[simp] theorem t60_y : t60.y = yLTSlot := rfl
@[simp] theorem t60_kind : t60.kind = .slice 99 := rfl
@[simp] theorem t60_cmp : t60.cmp = false := rfl
/-- []impl.Slot -/
def t63 : TI := ⟨1, 24, .slice none 0 0, .sl true 0 .any [], yLTSlot, .slice 97, false⟩
@[simp] theorem t63_size : t63.size = 1 := rfl
@[simp] theorem t63_bytes : t63.bytes = 24 := rfl
@[simp] theorem t63_z : t63.z = .sl true 0 .any [] := rfl
@[simp] theorem t63_y : t63.y = yLTSlot := rfl
@[simp] theorem t63_kind : t63.kind = .slice 97 := rfl
@[simp] theorem t63_cmp : t63.cmp = false := rfl
/-- func([]laws.Slot) []impl.Slot -/
def t64 : TI := ⟨1, 8, .nilFunc, .lit .nilFunc, .lit .nilFunc, .func, false⟩
@[simp] theorem t64_size : t64.size = 1 := rfl
@[simp] theorem t64_bytes : t64.bytes = 8 := rfl
@[simp] theorem t64_z : t64.z = .lit .nilFunc := rfl
@[simp] theorem t64_y : t64.y = .lit .nilFunc := rfl
@[simp] theorem t64_kind : t64.kind = .func := rfl
@[simp] theorem t64_cmp : t64.cmp = false := rfl
/-- func([]impl.Slot, []impl.Slot) bool -/
def t65 : TI := ⟨1, 8, .nilFunc, .lit .nilFunc, .lit .nilFunc, .func, false⟩
@[simp] theorem t65_size : t65.size = 1 := rfl
@[simp] theorem t65_bytes : t65.bytes = 8 := rfl
@[simp] theorem t65_z : t65.z = .lit .nilFunc := rfl
@[simp] theorem t65_y : t65.y = .lit .nilFunc := rfl
@[simp] theorem t65_kind : t65.kind = .func := rfl
@[simp] theorem t65_cmp : t65.cmp = false := rfl
/-- []laws.Claim -/
def t67 : TI := ⟨1, 24, .slice none 0 0, .sl true 0 .any [], yLTClaim, .slice 107, false⟩
@[simp] theorem t67_size : t67.size = 1 := rfl
@[simp] theorem t67_bytes : t67.bytes = 24 := rfl
@[simp] theorem t67_z : t67.z = .sl true 0 .any [] := rfl
@[simp] theorem t67_y : t67.y = yLTClaim := rfl
@[simp] theorem t67_kind : t67.kind = .slice 107 := rfl
@[simp] theorem t67_cmp : t67.cmp = false := rfl
/-- []impl.Claim -/
def t70 : TI := ⟨1, 24, .slice none 0 0, .sl true 0 .any [], yLTClaim, .slice 105, false⟩
@[simp] theorem t70_size : t70.size = 1 := rfl
@[simp] theorem t70_bytes : t70.bytes = 24 := rfl
@[simp] theorem t70_z : t70.z = .sl true 0 .any [] := rfl
@[simp] theorem t70_y : t70.y = yLTClaim := rfl
@[simp] theorem t70_kind : t70.kind = .slice 105 := rfl
@[simp] theorem t70_cmp : t70.cmp = false := rfl
/-- []laws.Hit -/
def t74 : TI := ⟨1, 24, .slice none 0 0, .sl true 0 .any [], yLTHit, .slice 115, false⟩
@[simp] theorem t74_size : t74.size = 1 := rfl
@[simp] theorem t74_bytes : t74.bytes = 24 := rfl
@[simp] theorem t74_z : t74.z = .sl true 0 .any [] := rfl
@[simp] theorem t74_y : t74.y = yLTHit := rfl
@[simp] theorem t74_kind : t74.kind = .slice 115 := rfl
@[simp] theorem t74_cmp : t74.cmp = false := rfl
/-- []impl.Hit -/
def t77 : TI := ⟨1, 24, .slice none 0 0, .sl true 0 .any [], yLTHit, .slice 113, false⟩
@[simp] theorem t77_size : t77.size = 1 := rfl
@[simp] theorem t77_bytes : t77.bytes = 24 := rfl
@[simp] theorem t77_z : t77.z = .sl true 0 .any [] := rfl
@[simp] theorem t77_y : t77.y = yLTHit := rfl
@[simp] theorem t77_kind : t77.kind = .slice 113 := rfl
@[simp] theorem t77_cmp : t77.cmp = false := rfl
/-- []uint8 -/
def t81 : TI := ⟨1, 24, .slice none 0 0, .sl true 0 .any [], yLU, .slice 5, false⟩
@[simp] theorem t81_size : t81.size = 1 := rfl
@[simp] theorem t81_bytes : t81.bytes = 24 := rfl
@[simp] theorem t81_z : t81.z = .sl true 0 .any [] := rfl
@[simp] theorem t81_y : t81.y = yLU := rfl
@[simp] theorem t81_kind : t81.kind = .slice 5 := rfl
@[simp] theorem t81_cmp : t81.cmp = false := rfl
/-- []string -/
def t85 : TI := ⟨1, 24, .slice none 0 0, .sl true 0 .any [], yLS, .slice 9, false⟩
@[simp] theorem t85_size : t85.size = 1 := rfl
@[simp] theorem t85_bytes : t85.bytes = 24 := rfl
@[simp] theorem t85_z : t85.z = .sl true 0 .any [] := rfl
@[simp] theorem t85_y : t85.y = yLS := rfl
@[simp] theorem t85_kind : t85.kind = .slice 9 := rfl
@[simp] theorem t85_cmp : t85.cmp = false := rfl
/-- func(impl.Find) bool -/
def t91 : TI := ⟨1, 8, .nilFunc, .lit .nilFunc, .lit .nilFunc, .func, false⟩
@[simp] theorem t91_size : t91.size = 1 := rfl
@[simp] theorem t91_bytes : t91.bytes = 8 := rfl
@[simp] theorem t91_z : t91.z = .lit .nilFunc := rfl
@[simp] theorem t91_y : t91.y = .lit .nilFunc := rfl
@[simp] theorem t91_kind : t91.kind = .func := rfl
@[simp] theorem t91_cmp : t91.cmp = false := rfl
/-- struct { Id int; Size int; Thing int } -/
def t96 : TI := ⟨3, 24, .agg #[.int .i64 0, .int .i64 0, .int .i64 0], .agg [.lit (.int .i64 0), .lit (.int .i64 0), .lit (.int .i64 0)], yTSlot, .st [(0, 3), (1, 3), (2, 3)], true⟩
@[simp] theorem t96_size : t96.size = 3 := rfl
@[simp] theorem t96_bytes : t96.bytes = 24 := rfl
@[simp] theorem t96_z : t96.z = .agg [.lit (.int .i64 0), .lit (.int .i64 0), .lit (.int .i64 0)] := rfl
@[simp] theorem t96_y : t96.y = yTSlot := rfl
@[simp] theorem t96_kind : t96.kind = .st [(0, 3), (1, 3), (2, 3)] := rfl
@[simp] theorem t96_cmp : t96.cmp = true := rfl
/-- impl.Slot = loop.example/g03007/impl.Slot -/
def t97 : TI := ⟨3, 24, .agg #[.int .i64 0, .int .i64 0, .int .i64 0], .agg [.lit (.int .i64 0), .lit (.int .i64 0), .lit (.int .i64 0)], yTSlot, .st [(0, 3), (1, 3), (2, 3)], true⟩
@[simp] theorem t97_size : t97.size = 3 := rfl
@[simp] theorem t97_bytes : t97.bytes = 24 := rfl
@[simp] theorem t97_z : t97.z = .agg [.lit (.int .i64 0), .lit (.int .i64 0), .lit (.int .i64 0)] := rfl
@[simp] theorem t97_y : t97.y = yTSlot := rfl
@[simp] theorem t97_kind : t97.kind = .st [(0, 3), (1, 3), (2, 3)] := rfl
@[simp] theorem t97_cmp : t97.cmp = true := rfl
/-- laws.Slot = loop.example/g03007/laws.Slot -/
def t99 : TI := ⟨3, 24, .agg #[.int .i64 0, .int .i64 0, .int .i64 0], .agg [.lit (.int .i64 0), .lit (.int .i64 0), .lit (.int .i64 0)], yTSlot, .st [(0, 3), (1, 3), (2, 3)], true⟩
@[simp] theorem t99_size : t99.size = 3 := rfl
@[simp] theorem t99_bytes : t99.bytes = 24 := rfl
@[simp] theorem t99_z : t99.z = .agg [.lit (.int .i64 0), .lit (.int .i64 0), .lit (.int .i64 0)] := rfl
@[simp] theorem t99_y : t99.y = yTSlot := rfl
@[simp] theorem t99_kind : t99.kind = .st [(0, 3), (1, 3), (2, 3)] := rfl
@[simp] theorem t99_cmp : t99.cmp = true := rfl
/-- struct { Id int; Who int; Thing int; At int; State int } -/
def t104 : TI := ⟨5, 40, .agg #[.int .i64 0, .int .i64 0, .int .i64 0, .int .i64 0, .int .i64 0], .agg [.lit (.int .i64 0), .lit (.int .i64 0), .lit (.int .i64 0), .lit (.int .i64 0), .lit (.int .i64 0)], yTClaim, .st [(0, 3), (1, 3), (2, 3), (3, 3), (4, 3)], true⟩
@[simp] theorem t104_size : t104.size = 5 := rfl
@[simp] theorem t104_bytes : t104.bytes = 40 := rfl
@[simp] theorem t104_z : t104.z = .agg [.lit (.int .i64 0), .lit (.int .i64 0), .lit (.int .i64 0), .lit (.int .i64 0), .lit (.int .i64 0)] := rfl
@[simp] theorem t104_y : t104.y = yTClaim := rfl
@[simp] theorem t104_kind : t104.kind = .st [(0, 3), (1, 3), (2, 3), (3, 3), (4, 3)] := rfl
@[simp] theorem t104_cmp : t104.cmp = true := rfl
/-- impl.Claim = loop.example/g03007/impl.Claim -/
def t105 : TI := ⟨5, 40, .agg #[.int .i64 0, .int .i64 0, .int .i64 0, .int .i64 0, .int .i64 0], .agg [.lit (.int .i64 0), .lit (.int .i64 0), .lit (.int .i64 0), .lit (.int .i64 0), .lit (.int .i64 0)], yTClaim, .st [(0, 3), (1, 3), (2, 3), (3, 3), (4, 3)], true⟩
@[simp] theorem t105_size : t105.size = 5 := rfl
@[simp] theorem t105_bytes : t105.bytes = 40 := rfl
@[simp] theorem t105_z : t105.z = .agg [.lit (.int .i64 0), .lit (.int .i64 0), .lit (.int .i64 0), .lit (.int .i64 0), .lit (.int .i64 0)] := rfl
@[simp] theorem t105_y : t105.y = yTClaim := rfl
@[simp] theorem t105_kind : t105.kind = .st [(0, 3), (1, 3), (2, 3), (3, 3), (4, 3)] := rfl
@[simp] theorem t105_cmp : t105.cmp = true := rfl
/-- laws.Claim = loop.example/g03007/laws.Claim -/
def t107 : TI := ⟨5, 40, .agg #[.int .i64 0, .int .i64 0, .int .i64 0, .int .i64 0, .int .i64 0], .agg [.lit (.int .i64 0), .lit (.int .i64 0), .lit (.int .i64 0), .lit (.int .i64 0), .lit (.int .i64 0)], yTClaim, .st [(0, 3), (1, 3), (2, 3), (3, 3), (4, 3)], true⟩
@[simp] theorem t107_size : t107.size = 5 := rfl
@[simp] theorem t107_bytes : t107.bytes = 40 := rfl
@[simp] theorem t107_z : t107.z = .agg [.lit (.int .i64 0), .lit (.int .i64 0), .lit (.int .i64 0), .lit (.int .i64 0), .lit (.int .i64 0)] := rfl
@[simp] theorem t107_y : t107.y = yTClaim := rfl
@[simp] theorem t107_kind : t107.kind = .st [(0, 3), (1, 3), (2, 3), (3, 3), (4, 3)] := rfl
@[simp] theorem t107_cmp : t107.cmp = true := rfl
/-- struct { House int; Thing int } -/
def t112 : TI := ⟨2, 16, .agg #[.int .i64 0, .int .i64 0], .agg [.lit (.int .i64 0), .lit (.int .i64 0)], yTHit, .st [(0, 3), (1, 3)], true⟩
@[simp] theorem t112_size : t112.size = 2 := rfl
@[simp] theorem t112_bytes : t112.bytes = 16 := rfl
@[simp] theorem t112_z : t112.z = .agg [.lit (.int .i64 0), .lit (.int .i64 0)] := rfl
@[simp] theorem t112_y : t112.y = yTHit := rfl
@[simp] theorem t112_kind : t112.kind = .st [(0, 3), (1, 3)] := rfl
@[simp] theorem t112_cmp : t112.cmp = true := rfl
/-- impl.Hit = loop.example/g03007/impl.Hit -/
def t113 : TI := ⟨2, 16, .agg #[.int .i64 0, .int .i64 0], .agg [.lit (.int .i64 0), .lit (.int .i64 0)], yTHit, .st [(0, 3), (1, 3)], true⟩
@[simp] theorem t113_size : t113.size = 2 := rfl
@[simp] theorem t113_bytes : t113.bytes = 16 := rfl
@[simp] theorem t113_z : t113.z = .agg [.lit (.int .i64 0), .lit (.int .i64 0)] := rfl
@[simp] theorem t113_y : t113.y = yTHit := rfl
@[simp] theorem t113_kind : t113.kind = .st [(0, 3), (1, 3)] := rfl
@[simp] theorem t113_cmp : t113.cmp = true := rfl
/-- laws.Hit = loop.example/g03007/laws.Hit -/
def t115 : TI := ⟨2, 16, .agg #[.int .i64 0, .int .i64 0], .agg [.lit (.int .i64 0), .lit (.int .i64 0)], yTHit, .st [(0, 3), (1, 3)], true⟩
@[simp] theorem t115_size : t115.size = 2 := rfl
@[simp] theorem t115_bytes : t115.bytes = 16 := rfl
@[simp] theorem t115_z : t115.z = .agg [.lit (.int .i64 0), .lit (.int .i64 0)] := rfl
@[simp] theorem t115_y : t115.y = yTHit := rfl
@[simp] theorem t115_kind : t115.kind = .st [(0, 3), (1, 3)] := rfl
@[simp] theorem t115_cmp : t115.cmp = true := rfl
/-- *strings.Builder -/
def t120 : TI := ⟨1, 8, .pointer none, .lit (.pointer none), .lit (.pointer none), .ptr 122, false⟩
@[simp] theorem t120_size : t120.size = 1 := rfl
@[simp] theorem t120_bytes : t120.bytes = 8 := rfl
@[simp] theorem t120_z : t120.z = .lit (.pointer none) := rfl
@[simp] theorem t120_y : t120.y = .lit (.pointer none) := rfl
@[simp] theorem t120_kind : t120.kind = .ptr 122 := rfl
@[simp] theorem t120_cmp : t120.cmp = false := rfl
/-- struct { addr *strings.Builder; buf []uint8 } -/
def t121 : TI := ⟨2, 32, .agg #[.pointer none, .slice none 0 0], .agg [.lit (.pointer none), .sl true 0 .any []], .any, .st [(0, 120), (1, 81)], false⟩
@[simp] theorem t121_size : t121.size = 2 := rfl
@[simp] theorem t121_bytes : t121.bytes = 32 := rfl
@[simp] theorem t121_z : t121.z = .agg [.lit (.pointer none), .sl true 0 .any []] := rfl
@[simp] theorem t121_y : t121.y = .any := rfl
@[simp] theorem t121_kind : t121.kind = .st [(0, 120), (1, 81)] := rfl
@[simp] theorem t121_cmp : t121.cmp = false := rfl
/-- strings.Builder -/
def t122 : TI := ⟨2, 32, .agg #[.pointer none, .slice none 0 0], .agg [.lit (.pointer none), .sl true 0 .any []], .any, .st [(0, 120), (1, 81)], false⟩
@[simp] theorem t122_size : t122.size = 2 := rfl
@[simp] theorem t122_bytes : t122.bytes = 32 := rfl
@[simp] theorem t122_z : t122.z = .agg [.lit (.pointer none), .sl true 0 .any []] := rfl
@[simp] theorem t122_y : t122.y = .any := rfl
@[simp] theorem t122_kind : t122.kind = .st [(0, 120), (1, 81)] := rfl
@[simp] theorem t122_cmp : t122.cmp = false := rfl
/-- interface { Error() string } -/
def t124 : TI := ⟨1, 16, .nilIface, .lit .nilIface, .lit .nilIface, .iface, false⟩
@[simp] theorem t124_size : t124.size = 1 := rfl
@[simp] theorem t124_bytes : t124.bytes = 16 := rfl
@[simp] theorem t124_z : t124.z = .lit .nilIface := rfl
@[simp] theorem t124_y : t124.y = .lit .nilIface := rfl
@[simp] theorem t124_kind : t124.kind = .iface := rfl
@[simp] theorem t124_cmp : t124.cmp = false := rfl
/-- error -/
def t125 : TI := ⟨1, 16, .nilIface, .lit .nilIface, .lit .nilIface, .iface, false⟩
@[simp] theorem t125_size : t125.size = 1 := rfl
@[simp] theorem t125_bytes : t125.bytes = 16 := rfl
@[simp] theorem t125_z : t125.z = .lit .nilIface := rfl
@[simp] theorem t125_y : t125.y = .lit .nilIface := rfl
@[simp] theorem t125_kind : t125.kind = .iface := rfl
@[simp] theorem t125_cmp : t125.cmp = false := rfl
/-- [4]func(impl.Find) bool -/
def t131 : TI := ⟨4, 32, .agg #[.nilFunc, .nilFunc, .nilFunc, .nilFunc], .agg [.lit .nilFunc, .lit .nilFunc, .lit .nilFunc, .lit .nilFunc], .any, .arr 4 91, false⟩
@[simp] theorem t131_size : t131.size = 4 := rfl
@[simp] theorem t131_bytes : t131.bytes = 32 := rfl
@[simp] theorem t131_z : t131.z = .agg [.lit .nilFunc, .lit .nilFunc, .lit .nilFunc, .lit .nilFunc] := rfl
@[simp] theorem t131_y : t131.y = .any := rfl
@[simp] theorem t131_kind : t131.kind = .arr 4 91 := rfl
@[simp] theorem t131_cmp : t131.cmp = false := rfl
/-- map[int]bool -/
def t133 : TI := ⟨1, 8, .map none, .fm 0 [] .any [], .any, .map 3 4, false⟩
@[simp] theorem t133_size : t133.size = 1 := rfl
@[simp] theorem t133_bytes : t133.bytes = 8 := rfl
@[simp] theorem t133_z : t133.z = .fm 0 [] .any [] := rfl
@[simp] theorem t133_y : t133.y = .any := rfl
@[simp] theorem t133_kind : t133.kind = .map 3 4 := rfl
@[simp] theorem t133_cmp : t133.cmp = false := rfl
/-- *uint8 -/
def t136 : TI := ⟨1, 8, .pointer none, .lit (.pointer none), .lit (.pointer none), .ptr 5, false⟩
@[simp] theorem t136_size : t136.size = 1 := rfl
@[simp] theorem t136_bytes : t136.bytes = 8 := rfl
@[simp] theorem t136_z : t136.z = .lit (.pointer none) := rfl
@[simp] theorem t136_y : t136.y = .lit (.pointer none) := rfl
@[simp] theorem t136_kind : t136.kind = .ptr 5 := rfl
@[simp] theorem t136_cmp : t136.cmp = false := rfl
/-- [24]uint8 -/
def t137 : TI := ⟨24, 24, .agg #[.int .u8 0, .int .u8 0, .int .u8 0, .int .u8 0, .int .u8 0, .int .u8 0, .int .u8 0, .int .u8 0, .int .u8 0, .int .u8 0, .int .u8 0, .int .u8 0, .int .u8 0, .int .u8 0, .int .u8 0, .int .u8 0, .int .u8 0, .int .u8 0, .int .u8 0, .int .u8 0, .int .u8 0, .int .u8 0, .int .u8 0, .int .u8 0], .agg [.lit (.int .u8 0), .lit (.int .u8 0), .lit (.int .u8 0), .lit (.int .u8 0), .lit (.int .u8 0), .lit (.int .u8 0), .lit (.int .u8 0), .lit (.int .u8 0), .lit (.int .u8 0), .lit (.int .u8 0), .lit (.int .u8 0), .lit (.int .u8 0), .lit (.int .u8 0), .lit (.int .u8 0), .lit (.int .u8 0), .lit (.int .u8 0), .lit (.int .u8 0), .lit (.int .u8 0), .lit (.int .u8 0), .lit (.int .u8 0), .lit (.int .u8 0), .lit (.int .u8 0), .lit (.int .u8 0), .lit (.int .u8 0)], .any, .arr 24 5, false⟩
@[simp] theorem t137_size : t137.size = 24 := rfl
@[simp] theorem t137_bytes : t137.bytes = 24 := rfl
@[simp] theorem t137_z : t137.z = .agg [.lit (.int .u8 0), .lit (.int .u8 0), .lit (.int .u8 0), .lit (.int .u8 0), .lit (.int .u8 0), .lit (.int .u8 0), .lit (.int .u8 0), .lit (.int .u8 0), .lit (.int .u8 0), .lit (.int .u8 0), .lit (.int .u8 0), .lit (.int .u8 0), .lit (.int .u8 0), .lit (.int .u8 0), .lit (.int .u8 0), .lit (.int .u8 0), .lit (.int .u8 0), .lit (.int .u8 0), .lit (.int .u8 0), .lit (.int .u8 0), .lit (.int .u8 0), .lit (.int .u8 0), .lit (.int .u8 0), .lit (.int .u8 0)] := rfl
@[simp] theorem t137_y : t137.y = .any := rfl
@[simp] theorem t137_kind : t137.kind = .arr 24 5 := rfl
@[simp] theorem t137_cmp : t137.cmp = false := rfl
/-- uint64 -/
def t138 : TI := ⟨1, 8, .int .u64 0, .lit (.int .u64 0), .lit (.int .u64 0), .int .u64, false⟩
@[simp] theorem t138_size : t138.size = 1 := rfl
@[simp] theorem t138_bytes : t138.bytes = 8 := rfl
@[simp] theorem t138_z : t138.z = .lit (.int .u64 0) := rfl
@[simp] theorem t138_y : t138.y = .lit (.int .u64 0) := rfl
@[simp] theorem t138_kind : t138.kind = .int .u64 := rfl
@[simp] theorem t138_cmp : t138.cmp = false := rfl
/-- [20]uint64 -/
def t149 : TI := ⟨20, 160, .agg #[.int .u64 0, .int .u64 0, .int .u64 0, .int .u64 0, .int .u64 0, .int .u64 0, .int .u64 0, .int .u64 0, .int .u64 0, .int .u64 0, .int .u64 0, .int .u64 0, .int .u64 0, .int .u64 0, .int .u64 0, .int .u64 0, .int .u64 0, .int .u64 0, .int .u64 0, .int .u64 0], .agg [.lit (.int .u64 0), .lit (.int .u64 0), .lit (.int .u64 0), .lit (.int .u64 0), .lit (.int .u64 0), .lit (.int .u64 0), .lit (.int .u64 0), .lit (.int .u64 0), .lit (.int .u64 0), .lit (.int .u64 0), .lit (.int .u64 0), .lit (.int .u64 0), .lit (.int .u64 0), .lit (.int .u64 0), .lit (.int .u64 0), .lit (.int .u64 0), .lit (.int .u64 0), .lit (.int .u64 0), .lit (.int .u64 0), .lit (.int .u64 0)], .any, .arr 20 138, false⟩
@[simp] theorem t149_size : t149.size = 20 := rfl
@[simp] theorem t149_bytes : t149.bytes = 160 := rfl
@[simp] theorem t149_z : t149.z = .agg [.lit (.int .u64 0), .lit (.int .u64 0), .lit (.int .u64 0), .lit (.int .u64 0), .lit (.int .u64 0), .lit (.int .u64 0), .lit (.int .u64 0), .lit (.int .u64 0), .lit (.int .u64 0), .lit (.int .u64 0), .lit (.int .u64 0), .lit (.int .u64 0), .lit (.int .u64 0), .lit (.int .u64 0), .lit (.int .u64 0), .lit (.int .u64 0), .lit (.int .u64 0), .lit (.int .u64 0), .lit (.int .u64 0), .lit (.int .u64 0)] := rfl
@[simp] theorem t149_y : t149.y = .any := rfl
@[simp] theorem t149_kind : t149.kind = .arr 20 138 := rfl
@[simp] theorem t149_cmp : t149.cmp = false := rfl
/-- uint32 -/
def t150 : TI := ⟨1, 4, .int .u32 0, .lit (.int .u32 0), .lit (.int .u32 0), .int .u32, false⟩
@[simp] theorem t150_size : t150.size = 1 := rfl
@[simp] theorem t150_bytes : t150.bytes = 4 := rfl
@[simp] theorem t150_z : t150.z = .lit (.int .u32 0) := rfl
@[simp] theorem t150_y : t150.y = .lit (.int .u32 0) := rfl
@[simp] theorem t150_kind : t150.kind = .int .u32 := rfl
@[simp] theorem t150_cmp : t150.cmp = false := rfl
/-- [65]uint8 -/
def t151 : TI := ⟨65, 65, .agg #[.int .u8 0, .int .u8 0, .int .u8 0, .int .u8 0, .int .u8 0, .int .u8 0, .int .u8 0, .int .u8 0, .int .u8 0, .int .u8 0, .int .u8 0, .int .u8 0, .int .u8 0, .int .u8 0, .int .u8 0, .int .u8 0, .int .u8 0, .int .u8 0, .int .u8 0, .int .u8 0, .int .u8 0, .int .u8 0, .int .u8 0, .int .u8 0, .int .u8 0, .int .u8 0, .int .u8 0, .int .u8 0, .int .u8 0, .int .u8 0, .int .u8 0, .int .u8 0, .int .u8 0, .int .u8 0, .int .u8 0, .int .u8 0, .int .u8 0, .int .u8 0, .int .u8 0, .int .u8 0, .int .u8 0, .int .u8 0, .int .u8 0, .int .u8 0, .int .u8 0, .int .u8 0, .int .u8 0, .int .u8 0, .int .u8 0, .int .u8 0, .int .u8 0, .int .u8 0, .int .u8 0, .int .u8 0, .int .u8 0, .int .u8 0, .int .u8 0, .int .u8 0, .int .u8 0, .int .u8 0, .int .u8 0, .int .u8 0, .int .u8 0, .int .u8 0, .int .u8 0], .agg [.lit (.int .u8 0), .lit (.int .u8 0), .lit (.int .u8 0), .lit (.int .u8 0), .lit (.int .u8 0), .lit (.int .u8 0), .lit (.int .u8 0), .lit (.int .u8 0), .lit (.int .u8 0), .lit (.int .u8 0), .lit (.int .u8 0), .lit (.int .u8 0), .lit (.int .u8 0), .lit (.int .u8 0), .lit (.int .u8 0), .lit (.int .u8 0), .lit (.int .u8 0), .lit (.int .u8 0), .lit (.int .u8 0), .lit (.int .u8 0), .lit (.int .u8 0), .lit (.int .u8 0), .lit (.int .u8 0), .lit (.int .u8 0), .lit (.int .u8 0), .lit (.int .u8 0), .lit (.int .u8 0), .lit (.int .u8 0), .lit (.int .u8 0), .lit (.int .u8 0), .lit (.int .u8 0), .lit (.int .u8 0), .lit (.int .u8 0), .lit (.int .u8 0), .lit (.int .u8 0), .lit (.int .u8 0), .lit (.int .u8 0), .lit (.int .u8 0), .lit (.int .u8 0), .lit (.int .u8 0), .lit (.int .u8 0), .lit (.int .u8 0), .lit (.int .u8 0), .lit (.int .u8 0), .lit (.int .u8 0), .lit (.int .u8 0), .lit (.int .u8 0), .lit (.int .u8 0), .lit (.int .u8 0), .lit (.int .u8 0), .lit (.int .u8 0), .lit (.int .u8 0), .lit (.int .u8 0), .lit (.int .u8 0), .lit (.int .u8 0), .lit (.int .u8 0), .lit (.int .u8 0), .lit (.int .u8 0), .lit (.int .u8 0), .lit (.int .u8 0), .lit (.int .u8 0), .lit (.int .u8 0), .lit (.int .u8 0), .lit (.int .u8 0), .lit (.int .u8 0)], .any, .arr 65 5, false⟩
@[simp] theorem t151_size : t151.size = 65 := rfl
@[simp] theorem t151_bytes : t151.bytes = 65 := rfl
@[simp] theorem t151_z : t151.z = .agg [.lit (.int .u8 0), .lit (.int .u8 0), .lit (.int .u8 0), .lit (.int .u8 0), .lit (.int .u8 0), .lit (.int .u8 0), .lit (.int .u8 0), .lit (.int .u8 0), .lit (.int .u8 0), .lit (.int .u8 0), .lit (.int .u8 0), .lit (.int .u8 0), .lit (.int .u8 0), .lit (.int .u8 0), .lit (.int .u8 0), .lit (.int .u8 0), .lit (.int .u8 0), .lit (.int .u8 0), .lit (.int .u8 0), .lit (.int .u8 0), .lit (.int .u8 0), .lit (.int .u8 0), .lit (.int .u8 0), .lit (.int .u8 0), .lit (.int .u8 0), .lit (.int .u8 0), .lit (.int .u8 0), .lit (.int .u8 0), .lit (.int .u8 0), .lit (.int .u8 0), .lit (.int .u8 0), .lit (.int .u8 0), .lit (.int .u8 0), .lit (.int .u8 0), .lit (.int .u8 0), .lit (.int .u8 0), .lit (.int .u8 0), .lit (.int .u8 0), .lit (.int .u8 0), .lit (.int .u8 0), .lit (.int .u8 0), .lit (.int .u8 0), .lit (.int .u8 0), .lit (.int .u8 0), .lit (.int .u8 0), .lit (.int .u8 0), .lit (.int .u8 0), .lit (.int .u8 0), .lit (.int .u8 0), .lit (.int .u8 0), .lit (.int .u8 0), .lit (.int .u8 0), .lit (.int .u8 0), .lit (.int .u8 0), .lit (.int .u8 0), .lit (.int .u8 0), .lit (.int .u8 0), .lit (.int .u8 0), .lit (.int .u8 0), .lit (.int .u8 0), .lit (.int .u8 0), .lit (.int .u8 0), .lit (.int .u8 0), .lit (.int .u8 0), .lit (.int .u8 0)] := rfl
@[simp] theorem t151_y : t151.y = .any := rfl
@[simp] theorem t151_kind : t151.kind = .arr 65 5 := rfl
@[simp] theorem t151_cmp : t151.cmp = false := rfl
/-- uint -/
def t152 : TI := ⟨1, 8, .int .u64 0, .lit (.int .u64 0), .lit (.int .u64 0), .int .u64, false⟩
@[simp] theorem t152_size : t152.size = 1 := rfl
@[simp] theorem t152_bytes : t152.bytes = 8 := rfl
@[simp] theorem t152_z : t152.z = .lit (.int .u64 0) := rfl
@[simp] theorem t152_y : t152.y = .lit (.int .u64 0) := rfl
@[simp] theorem t152_kind : t152.kind = .int .u64 := rfl
@[simp] theorem t152_cmp : t152.cmp = false := rfl
/-- [32]uint8 -/
def t157 : TI := ⟨32, 32, .agg #[.int .u8 0, .int .u8 0, .int .u8 0, .int .u8 0, .int .u8 0, .int .u8 0, .int .u8 0, .int .u8 0, .int .u8 0, .int .u8 0, .int .u8 0, .int .u8 0, .int .u8 0, .int .u8 0, .int .u8 0, .int .u8 0, .int .u8 0, .int .u8 0, .int .u8 0, .int .u8 0, .int .u8 0, .int .u8 0, .int .u8 0, .int .u8 0, .int .u8 0, .int .u8 0, .int .u8 0, .int .u8 0, .int .u8 0, .int .u8 0, .int .u8 0, .int .u8 0], .agg [.lit (.int .u8 0), .lit (.int .u8 0), .lit (.int .u8 0), .lit (.int .u8 0), .lit (.int .u8 0), .lit (.int .u8 0), .lit (.int .u8 0), .lit (.int .u8 0), .lit (.int .u8 0), .lit (.int .u8 0), .lit (.int .u8 0), .lit (.int .u8 0), .lit (.int .u8 0), .lit (.int .u8 0), .lit (.int .u8 0), .lit (.int .u8 0), .lit (.int .u8 0), .lit (.int .u8 0), .lit (.int .u8 0), .lit (.int .u8 0), .lit (.int .u8 0), .lit (.int .u8 0), .lit (.int .u8 0), .lit (.int .u8 0), .lit (.int .u8 0), .lit (.int .u8 0), .lit (.int .u8 0), .lit (.int .u8 0), .lit (.int .u8 0), .lit (.int .u8 0), .lit (.int .u8 0), .lit (.int .u8 0)], .any, .arr 32 5, false⟩
@[simp] theorem t157_size : t157.size = 32 := rfl
@[simp] theorem t157_bytes : t157.bytes = 32 := rfl
@[simp] theorem t157_z : t157.z = .agg [.lit (.int .u8 0), .lit (.int .u8 0), .lit (.int .u8 0), .lit (.int .u8 0), .lit (.int .u8 0), .lit (.int .u8 0), .lit (.int .u8 0), .lit (.int .u8 0), .lit (.int .u8 0), .lit (.int .u8 0), .lit (.int .u8 0), .lit (.int .u8 0), .lit (.int .u8 0), .lit (.int .u8 0), .lit (.int .u8 0), .lit (.int .u8 0), .lit (.int .u8 0), .lit (.int .u8 0), .lit (.int .u8 0), .lit (.int .u8 0), .lit (.int .u8 0), .lit (.int .u8 0), .lit (.int .u8 0), .lit (.int .u8 0), .lit (.int .u8 0), .lit (.int .u8 0), .lit (.int .u8 0), .lit (.int .u8 0), .lit (.int .u8 0), .lit (.int .u8 0), .lit (.int .u8 0), .lit (.int .u8 0)] := rfl
@[simp] theorem t157_y : t157.y = .any := rfl
@[simp] theorem t157_kind : t157.kind = .arr 32 5 := rfl
@[simp] theorem t157_cmp : t157.cmp = false := rfl
/-- [64]uint8 -/
def t158 : TI := ⟨64, 64, .agg #[.int .u8 0, .int .u8 0, .int .u8 0, .int .u8 0, .int .u8 0, .int .u8 0, .int .u8 0, .int .u8 0, .int .u8 0, .int .u8 0, .int .u8 0, .int .u8 0, .int .u8 0, .int .u8 0, .int .u8 0, .int .u8 0, .int .u8 0, .int .u8 0, .int .u8 0, .int .u8 0, .int .u8 0, .int .u8 0, .int .u8 0, .int .u8 0, .int .u8 0, .int .u8 0, .int .u8 0, .int .u8 0, .int .u8 0, .int .u8 0, .int .u8 0, .int .u8 0, .int .u8 0, .int .u8 0, .int .u8 0, .int .u8 0, .int .u8 0, .int .u8 0, .int .u8 0, .int .u8 0, .int .u8 0, .int .u8 0, .int .u8 0, .int .u8 0, .int .u8 0, .int .u8 0, .int .u8 0, .int .u8 0, .int .u8 0, .int .u8 0, .int .u8 0, .int .u8 0, .int .u8 0, .int .u8 0, .int .u8 0, .int .u8 0, .int .u8 0, .int .u8 0, .int .u8 0, .int .u8 0, .int .u8 0, .int .u8 0, .int .u8 0, .int .u8 0], .agg [.lit (.int .u8 0), .lit (.int .u8 0), .lit (.int .u8 0), .lit (.int .u8 0), .lit (.int .u8 0), .lit (.int .u8 0), .lit (.int .u8 0), .lit (.int .u8 0), .lit (.int .u8 0), .lit (.int .u8 0), .lit (.int .u8 0), .lit (.int .u8 0), .lit (.int .u8 0), .lit (.int .u8 0), .lit (.int .u8 0), .lit (.int .u8 0), .lit (.int .u8 0), .lit (.int .u8 0), .lit (.int .u8 0), .lit (.int .u8 0), .lit (.int .u8 0), .lit (.int .u8 0), .lit (.int .u8 0), .lit (.int .u8 0), .lit (.int .u8 0), .lit (.int .u8 0), .lit (.int .u8 0), .lit (.int .u8 0), .lit (.int .u8 0), .lit (.int .u8 0), .lit (.int .u8 0), .lit (.int .u8 0), .lit (.int .u8 0), .lit (.int .u8 0), .lit (.int .u8 0), .lit (.int .u8 0), .lit (.int .u8 0), .lit (.int .u8 0), .lit (.int .u8 0), .lit (.int .u8 0), .lit (.int .u8 0), .lit (.int .u8 0), .lit (.int .u8 0), .lit (.int .u8 0), .lit (.int .u8 0), .lit (.int .u8 0), .lit (.int .u8 0), .lit (.int .u8 0), .lit (.int .u8 0), .lit (.int .u8 0), .lit (.int .u8 0), .lit (.int .u8 0), .lit (.int .u8 0), .lit (.int .u8 0), .lit (.int .u8 0), .lit (.int .u8 0), .lit (.int .u8 0), .lit (.int .u8 0), .lit (.int .u8 0), .lit (.int .u8 0), .lit (.int .u8 0), .lit (.int .u8 0), .lit (.int .u8 0), .lit (.int .u8 0)], .any, .arr 64 5, false⟩
@[simp] theorem t158_size : t158.size = 64 := rfl
@[simp] theorem t158_bytes : t158.bytes = 64 := rfl
@[simp] theorem t158_z : t158.z = .agg [.lit (.int .u8 0), .lit (.int .u8 0), .lit (.int .u8 0), .lit (.int .u8 0), .lit (.int .u8 0), .lit (.int .u8 0), .lit (.int .u8 0), .lit (.int .u8 0), .lit (.int .u8 0), .lit (.int .u8 0), .lit (.int .u8 0), .lit (.int .u8 0), .lit (.int .u8 0), .lit (.int .u8 0), .lit (.int .u8 0), .lit (.int .u8 0), .lit (.int .u8 0), .lit (.int .u8 0), .lit (.int .u8 0), .lit (.int .u8 0), .lit (.int .u8 0), .lit (.int .u8 0), .lit (.int .u8 0), .lit (.int .u8 0), .lit (.int .u8 0), .lit (.int .u8 0), .lit (.int .u8 0), .lit (.int .u8 0), .lit (.int .u8 0), .lit (.int .u8 0), .lit (.int .u8 0), .lit (.int .u8 0), .lit (.int .u8 0), .lit (.int .u8 0), .lit (.int .u8 0), .lit (.int .u8 0), .lit (.int .u8 0), .lit (.int .u8 0), .lit (.int .u8 0), .lit (.int .u8 0), .lit (.int .u8 0), .lit (.int .u8 0), .lit (.int .u8 0), .lit (.int .u8 0), .lit (.int .u8 0), .lit (.int .u8 0), .lit (.int .u8 0), .lit (.int .u8 0), .lit (.int .u8 0), .lit (.int .u8 0), .lit (.int .u8 0), .lit (.int .u8 0), .lit (.int .u8 0), .lit (.int .u8 0), .lit (.int .u8 0), .lit (.int .u8 0), .lit (.int .u8 0), .lit (.int .u8 0), .lit (.int .u8 0), .lit (.int .u8 0), .lit (.int .u8 0), .lit (.int .u8 0), .lit (.int .u8 0), .lit (.int .u8 0)] := rfl
@[simp] theorem t158_y : t158.y = .any := rfl
@[simp] theorem t158_kind : t158.kind = .arr 64 5 := rfl
@[simp] theorem t158_cmp : t158.cmp = false := rfl
/-- func(unsafe.Pointer, unsafe.Pointer) bool -/
def t167 : TI := ⟨1, 8, .nilFunc, .lit .nilFunc, .lit .nilFunc, .func, false⟩
@[simp] theorem t167_size : t167.size = 1 := rfl
@[simp] theorem t167_bytes : t167.bytes = 8 := rfl
@[simp] theorem t167_z : t167.z = .lit .nilFunc := rfl
@[simp] theorem t167_y : t167.y = .lit .nilFunc := rfl
@[simp] theorem t167_kind : t167.kind = .func := rfl
@[simp] theorem t167_cmp : t167.cmp = false := rfl
/-- struct { Size_ uintptr; PtrBytes uintptr; Hash uint32; TFlag abi.TFlag; Align_ uint8; FieldAlign_ uint8; Kind_ abi.Kind; Equal func(unsafe.Pointer, unsafe.Pointer) bool; GCData *uint8; Str abi.NameOff; PtrToThis abi.TypeOff } -/
def t170 : TI := ⟨11, 48, .agg #[.int .u64 0, .int .u64 0, .int .u32 0, .int .u8 0, .int .u8 0, .int .u8 0, .int .u8 0, .nilFunc, .pointer none, .int .i32 0, .int .i32 0], .agg [.lit (.int .u64 0), .lit (.int .u64 0), .lit (.int .u32 0), .lit (.int .u8 0), .lit (.int .u8 0), .lit (.int .u8 0), .lit (.int .u8 0), .lit .nilFunc, .lit (.pointer none), .lit (.int .i32 0), .lit (.int .i32 0)], .any, .st [(0, 12), (1, 12), (2, 150), (3, 165), (4, 5), (5, 5), (6, 166), (7, 167), (8, 136), (9, 168), (10, 169)], false⟩
@[simp] theorem t170_size : t170.size = 11 := rfl
@[simp] theorem t170_bytes : t170.bytes = 48 := rfl
@[simp] theorem t170_z : t170.z = .agg [.lit (.int .u64 0), .lit (.int .u64 0), .lit (.int .u32 0), .lit (.int .u8 0), .lit (.int .u8 0), .lit (.int .u8 0), .lit (.int .u8 0), .lit .nilFunc, .lit (.pointer none), .lit (.int .i32 0), .lit (.int .i32 0)] := rfl
@[simp] theorem t170_y : t170.y = .any := rfl
@[simp] theorem t170_kind : t170.kind = .st [(0, 12), (1, 12), (2, 150), (3, 165), (4, 5), (5, 5), (6, 166), (7, 167), (8, 136), (9, 168), (10, 169)] := rfl
@[simp] theorem t170_cmp : t170.cmp = false := rfl
/-- struct { kind int; colour int; size int; place int } -/
def t175 : TI := ⟨4, 32, .agg #[.int .i64 0, .int .i64 0, .int .i64 0, .int .i64 0], .agg [.lit (.int .i64 0), .lit (.int .i64 0), .lit (.int .i64 0), .lit (.int .i64 0)], .any, .st [(0, 3), (1, 3), (2, 3), (3, 3)], true⟩
@[simp] theorem t175_size : t175.size = 4 := rfl
@[simp] theorem t175_bytes : t175.bytes = 32 := rfl
@[simp] theorem t175_z : t175.z = .agg [.lit (.int .i64 0), .lit (.int .i64 0), .lit (.int .i64 0), .lit (.int .i64 0)] := rfl
@[simp] theorem t175_y : t175.y = .any := rfl
@[simp] theorem t175_kind : t175.kind = .st [(0, 3), (1, 3), (2, 3), (3, 3)] := rfl
@[simp] theorem t175_cmp : t175.cmp = true := rfl
theorem t2_ok : t2.ok Tryd.prog 2 := ⟨by kernel_rfl, by kernel_rfl, by kernel_rfl, Tryd.underlying2, (fun h => by cases h), ⟨rfl, rfl, rfl, rfl, fun F h β => by simp [t2, Rep, Reps]⟩⟩
theorem t3_ok : t3.ok Tryd.prog 3 := ⟨by kernel_rfl, by kernel_rfl, by kernel_rfl, Tryd.underlying3, (fun h => by cases h), ⟨rfl, rfl, rfl, rfl, fun F h β => by simp [t3, Rep, Reps]⟩⟩
theorem t4_ok : t4.ok Tryd.prog 4 := ⟨by kernel_rfl, by kernel_rfl, by kernel_rfl, Tryd.underlying4, (fun h => by cases h), ⟨rfl, rfl, rfl, rfl, fun F h β => by simp [t4, Rep, Reps]⟩⟩
theorem t5_ok : t5.ok Tryd.prog 5 := ⟨by kernel_rfl, by kernel_rfl, by kernel_rfl, Tryd.underlying5, (fun h => by cases h), ⟨rfl, rfl, rfl, rfl, fun F h β => by simp [t5, Rep, Reps]⟩⟩
theorem t9_ok : t9.ok Tryd.prog 9 := ⟨by kernel_rfl, by kernel_rfl, by kernel_rfl, Tryd.underlying9, (fun h => by cases h), ⟨rfl, rfl, rfl, rfl, fun F h β => by simp [t9, Rep, Reps]⟩⟩
theorem t12_ok : t12.ok Tryd.prog 12 := ⟨by kernel_rfl, by kernel_rfl, by kernel_rfl, Tryd.underlying12, (fun h => by cases h), ⟨rfl, rfl, rfl, rfl, fun F h β => by simp [t12, Rep, Reps]⟩⟩
theorem t20_ok : t20.ok Tryd.prog 20 := ⟨by kernel_rfl, by kernel_rfl, by kernel_rfl, ⟨_, Tryd.underlying20⟩, (fun h => by cases h), ⟨rfl, rfl, rfl, rfl, fun F h β => by simp [t20, Rep, Reps]⟩⟩
theorem t21_ok : t21.ok Tryd.prog 21 := ⟨by kernel_rfl, by kernel_rfl, by kernel_rfl, Tryd.underlying21, (fun h => by cases h), ⟨rfl, rfl, rfl, rfl, fun F h β => by simp [t21, Rep, Reps]⟩⟩
theorem t24_ok : t24.ok Tryd.prog 24 := ⟨by kernel_rfl, by kernel_rfl, by kernel_rfl, ⟨_, Tryd.underlying24, rfl⟩, (fun _ => eqInts_of (by kernel_rfl) (by kernel_rfl) (by kernel_rfl)), ⟨rfl, rfl, rfl, rfl, fun F h β => by simp [t24, Rep, Reps]⟩⟩
theorem t25_ok : t25.ok Tryd.prog 25 := ⟨by kernel_rfl, by kernel_rfl, by kernel_rfl, ⟨_, Tryd.underlying25, rfl⟩, (fun _ => eqInts_of (by kernel_rfl) (by kernel_rfl) (by kernel_rfl)), ⟨rfl, rfl, rfl, rfl, fun F h β => by simp [t25, Rep, Reps]⟩⟩
theorem t27_ok : t27.ok Tryd.prog 27 := ⟨by kernel_rfl, by kernel_rfl, by kernel_rfl, ⟨_, Tryd.underlying27, rfl⟩, (fun _ => eqInts_of (by kernel_rfl) (by kernel_rfl) (by kernel_rfl)), ⟨rfl, rfl, rfl, rfl, fun F h β => by simp [t27, Rep, Reps]⟩⟩
theorem t30_ok : t30.ok Tryd.prog 30 := ⟨by kernel_rfl, by kernel_rfl, by kernel_rfl, Tryd.underlying30, (fun h => by cases h), ⟨rfl, rfl, rfl, rfl, fun F h β => by simp [t30, Rep, Reps]⟩⟩
theorem t32_ok : t32.ok Tryd.prog 32 := ⟨by kernel_rfl, by kernel_rfl, by kernel_rfl, ⟨_, _, _, Tryd.underlying32⟩, (fun h => by cases h), ⟨rfl, rfl, rfl, rfl, fun F h β => by simp [t32, Rep, Reps]⟩⟩
theorem t35_ok : t35.ok Tryd.prog 35 := ⟨by kernel_rfl, by kernel_rfl, by kernel_rfl, ⟨_, Tryd.underlying35, rfl⟩, (fun _ => eqInts_of (by kernel_rfl) (by kernel_rfl) (by kernel_rfl)), ⟨rfl, rfl, rfl, rfl, fun F h β => by simp [t35, Rep, Reps]⟩⟩
theorem t36_ok : t36.ok Tryd.prog 36 := ⟨by kernel_rfl, by kernel_rfl, by kernel_rfl, ⟨_, Tryd.underlying36, rfl⟩, (fun _ => eqInts_of (by kernel_rfl) (by kernel_rfl) (by kernel_rfl)), ⟨rfl, rfl, rfl, rfl, fun F h β => by simp [t36, Rep, Reps]⟩⟩
theorem t37_ok : t37.ok Tryd.prog 37 := ⟨by kernel_rfl, by kernel_rfl, by kernel_rfl, ⟨_, Tryd.underlying37, rfl⟩, (fun h => by cases h), ⟨rfl, rfl, rfl, rfl, fun F h β => by
    show Rep F h β t37.z t37.zero
    simp only [t37, Rep, Reps]
    exact ⟨_, rfl, _, _, rfl, (by trivial), _, _, rfl, (by trivial), _, _, rfl, (.inl ⟨by trivial, none, 0, by trivial, by intros; rfl⟩), _, _, rfl, (by trivial), _, _, rfl, (by trivial), _, _, rfl, (.inl ⟨by trivial, none, 0, by trivial, by intros; rfl⟩), _, _, rfl, (by trivial), _, _, rfl, (by trivial), rfl⟩⟩⟩
theorem t38_ok : t38.ok Tryd.prog 38 := ⟨by kernel_rfl, by kernel_rfl, by kernel_rfl, ⟨_, Tryd.underlying38, rfl⟩, (fun h => by cases h), ⟨rfl, rfl, rfl, rfl, fun F h β => by
    show Rep F h β t38.z t38.zero
    simp only [t38, Rep, Reps]
    exact ⟨_, rfl, _, _, rfl, (by trivial), _, _, rfl, (by trivial), _, _, rfl, (.inl ⟨by trivial, none, 0, by trivial, by intros; rfl⟩), _, _, rfl, (by trivial), _, _, rfl, (by trivial), _, _, rfl, (.inl ⟨by trivial, none, 0, by trivial, by intros; rfl⟩), _, _, rfl, (by trivial), _, _, rfl, (by trivial), rfl⟩⟩⟩
theorem t41_ok : t41.ok Tryd.prog 41 := ⟨by kernel_rfl, by kernel_rfl, by kernel_rfl, ⟨_, Tryd.underlying41, rfl⟩, (fun _ => eqInts_of (by kernel_rfl) (by kernel_rfl) (by kernel_rfl)), ⟨rfl, rfl, rfl, rfl, fun F h β => by simp [t41, Rep, Reps]⟩⟩
theorem t42_ok : t42.ok Tryd.prog 42 := ⟨by kernel_rfl, by kernel_rfl, by kernel_rfl, ⟨_, Tryd.underlying42, rfl⟩, (fun h => by cases h), ⟨rfl, rfl, rfl, rfl, fun F h β => by
    show Rep F h β t42.z t42.zero
    simp only [t42, Rep, Reps]
    exact ⟨_, rfl, _, _, rfl, (by trivial), _, _, rfl, (by trivial), _, _, rfl, (.inl ⟨by trivial, none, 0, by trivial, by intros; rfl⟩), _, _, rfl, (by trivial), _, _, rfl, (by trivial), _, _, rfl, (.inl ⟨by trivial, none, 0, by trivial, by intros; rfl⟩), _, _, rfl, (by trivial), _, _, rfl, (by trivial), rfl⟩⟩⟩
theorem t43_ok : t43.ok Tryd.prog 43 := ⟨by kernel_rfl, by kernel_rfl, by kernel_rfl, ⟨_, Tryd.underlying43, rfl⟩, (fun h => by cases h), ⟨rfl, rfl, rfl, rfl, fun F h β => by
    show Rep F h β t43.z t43.zero
    simp only [t43, Rep, Reps]
    exact ⟨_, rfl, _, _, rfl, (by trivial), _, _, rfl, (by trivial), _, _, rfl, (.inl ⟨by trivial, none, 0, by trivial, by intros; rfl⟩), _, _, rfl, (by trivial), _, _, rfl, (by trivial), _, _, rfl, (.inl ⟨by trivial, none, 0, by trivial, by intros; rfl⟩), _, _, rfl, (by trivial), _, _, rfl, (by trivial), rfl⟩⟩⟩
theorem t47_ok : t47.ok Tryd.prog 47 := ⟨by kernel_rfl, by kernel_rfl, by kernel_rfl, ⟨_, Tryd.underlying47, rfl⟩, (fun _ => eqInts_of (by kernel_rfl) (by kernel_rfl) (by kernel_rfl)), ⟨rfl, rfl, rfl, rfl, fun F h β => by simp [t47, Rep, Reps]⟩⟩
theorem t48_ok : t48.ok Tryd.prog 48 := ⟨by kernel_rfl, by kernel_rfl, by kernel_rfl, ⟨_, Tryd.underlying48, rfl⟩, (fun _ => eqInts_of (by kernel_rfl) (by kernel_rfl) (by kernel_rfl)), ⟨rfl, rfl, rfl, rfl, fun F h β => by simp [t48, Rep, Reps]⟩⟩
theorem t50_ok : t50.ok Tryd.prog 50 := ⟨by kernel_rfl, by kernel_rfl, by kernel_rfl, ⟨_, Tryd.underlying50, rfl⟩, (fun _ => eqInts_of (by kernel_rfl) (by kernel_rfl) (by kernel_rfl)), ⟨rfl, rfl, rfl, rfl, fun F h β => by simp [t50, Rep, Reps]⟩⟩
theorem t51_ok : t51.ok Tryd.prog 51 := ⟨by kernel_rfl, by kernel_rfl, by kernel_rfl, ⟨_, Tryd.underlying51, rfl⟩, (fun _ => eqInts_of (by kernel_rfl) (by kernel_rfl) (by kernel_rfl)), ⟨rfl, rfl, rfl, rfl, fun F h β => by simp [t51, Rep, Reps]⟩⟩
theorem t54_ok : t54.ok Tryd.prog 54 := ⟨by kernel_rfl, by kernel_rfl, by kernel_rfl, ⟨_, Tryd.underlying54, rfl⟩, (fun _ => eqInts_of (by kernel_rfl) (by kernel_rfl) (by kernel_rfl)), ⟨rfl, rfl, rfl, rfl, fun F h β => by simp [t54, Rep, Reps]⟩⟩
theorem t55_ok : t55.ok Tryd.prog 55 := ⟨by kernel_rfl, by kernel_rfl, by kernel_rfl, ⟨_, Tryd.underlying55, rfl⟩, (fun _ => eqInts_of (by kernel_rfl) (by kernel_rfl) (by kernel_rfl)), ⟨rfl, rfl, rfl, rfl, fun F h β => by simp [t55, Rep, Reps]⟩⟩
theorem t57_ok : t57.ok Tryd.prog 57 := ⟨by kernel_rfl, by kernel_rfl, by kernel_rfl, ⟨_, Tryd.underlying57, rfl⟩, (fun _ => eqInts_of (by kernel_rfl) (by kernel_rfl) (by kernel_rfl)), ⟨rfl, rfl, rfl, rfl, fun F h β => by simp [t57, Rep, Reps]⟩⟩
theorem t60_ok : t60.ok Tryd.prog 60 := ⟨by kernel_rfl, by kernel_rfl, by kernel_rfl, Tryd.underlying60, (fun h => by cases h), ⟨rfl, rfl, rfl, rfl, fun F h β => by simp [t60, Rep, Reps]⟩⟩
theorem t63_ok : t63.ok Tryd.prog 63 := ⟨by kernel_rfl, by kernel_rfl, by kernel_rfl, Tryd.underlying63, (fun h => by cases h), ⟨rfl, rfl, rfl, rfl, fun F h β => by simp [t63, Rep, Reps]⟩⟩
theorem t64_ok : t64.ok Tryd.prog 64 := ⟨by kernel_rfl, by kernel_rfl, by kernel_rfl, ⟨_, _, _, Tryd.underlying64⟩, (fun h => by cases h), ⟨rfl, rfl, rfl, rfl, fun F h β => by simp [t64, Rep, Reps]⟩⟩
theorem t65_ok : t65.ok Tryd.prog 65 := ⟨by kernel_rfl, by kernel_rfl, by kernel_rfl, ⟨_, _, _, Tryd.underlying65⟩, (fun h => by cases h), ⟨rfl, rfl, rfl, rfl, fun F h β => by simp [t65, Rep, Reps]⟩⟩
theorem t67_ok : t67.ok Tryd.prog 67 := ⟨by kernel_rfl, by kernel_rfl, by kernel_rfl, Tryd.underlying67, (fun h => by cases h), ⟨rfl, rfl, rfl, rfl, fun F h β => by simp [t67, Rep, Reps]⟩⟩
theorem t70_ok : t70.ok Tryd.prog 70 := ⟨by kernel_rfl, by kernel_rfl, by kernel_rfl, Tryd.underlying70, (fun h => by cases h), ⟨rfl, rfl, rfl, rfl, fun F h β => by simp [t70, Rep, Reps]⟩⟩
theorem t74_ok : t74.ok Tryd.prog 74 := ⟨by kernel_rfl, by kernel_rfl, by kernel_rfl, Tryd.underlying74, (fun h => by cases h), ⟨rfl, rfl, rfl, rfl, fun F h β => by simp [t74, Rep, Reps]⟩⟩
theorem t77_ok : t77.ok Tryd.prog 77 := ⟨by kernel_rfl, by kernel_rfl, by kernel_rfl, Tryd.underlying77, (fun h => by cases h), ⟨rfl, rfl, rfl, rfl, fun F h β => by simp [t77, Rep, Reps]⟩⟩
theorem t81_ok : t81.ok Tryd.prog 81 := ⟨by kernel_rfl, by kernel_rfl, by kernel_rfl, Tryd.underlying81, (fun h => by cases h), ⟨rfl, rfl, rfl, rfl, fun F h β => by simp [t81, Rep, Reps]⟩⟩
theorem t85_ok : t85.ok Tryd.prog 85 := ⟨by kernel_rfl, by kernel_rfl, by kernel_rfl, Tryd.underlying85, (fun h => by cases h), ⟨rfl, rfl, rfl, rfl, fun F h β => by simp [t85, Rep, Reps]⟩⟩
theorem t91_ok : t91.ok Tryd.prog 91 := ⟨by kernel_rfl, by kernel_rfl, by kernel_rfl, ⟨_, _, _, Tryd.underlying91⟩, (fun h => by cases h), ⟨rfl, rfl, rfl, rfl, fun F h β => by simp [t91, Rep, Reps]⟩⟩
theorem t96_ok : t96.ok Tryd.prog 96 := ⟨by kernel_rfl, by kernel_rfl, by kernel_rfl, ⟨_, Tryd.underlying96, rfl⟩, (fun _ => eqInts_of (by kernel_rfl) (by kernel_rfl) (by kernel_rfl)), ⟨rfl, rfl, rfl, rfl, fun F h β => by simp [t96, Rep, Reps]⟩⟩
theorem t97_ok : t97.ok Tryd.prog 97 := ⟨by kernel_rfl, by kernel_rfl, by kernel_rfl, ⟨_, Tryd.underlying97, rfl⟩, (fun _ => eqInts_of (by kernel_rfl) (by kernel_rfl) (by kernel_rfl)), ⟨rfl, rfl, rfl, rfl, fun F h β => by simp [t97, Rep, Reps]⟩⟩
theorem t99_ok : t99.ok Tryd.prog 99 := ⟨by kernel_rfl, by kernel_rfl, by kernel_rfl, ⟨_, Tryd.underlying99, rfl⟩, (fun _ => eqInts_of (by kernel_rfl) (by kernel_rfl) (by kernel_rfl)), ⟨rfl, rfl, rfl, rfl, fun F h β => by simp [t99, Rep, Reps]⟩⟩
theorem t104_ok : t104.ok Tryd.prog 104 := ⟨by kernel_rfl, by kernel_rfl, by kernel_rfl, ⟨_, Tryd.underlying104, rfl⟩, (fun _ => eqInts_of (by kernel_rfl) (by kernel_rfl) (by kernel_rfl)), ⟨rfl, rfl, rfl, rfl, fun F h β => by simp [t104, Rep, Reps]⟩⟩
theorem t105_ok : t105.ok Tryd.prog 105 := ⟨by kernel_rfl, by kernel_rfl, by kernel_rfl, ⟨_, Tryd.underlying105, rfl⟩, (fun _ => eqInts_of (by kernel_rfl) (by kernel_rfl) (by kernel_rfl)), ⟨rfl, rfl, rfl, rfl, fun F h β => by simp [t105, Rep, Reps]⟩⟩
theorem t107_ok : t107.ok Tryd.prog 107 := ⟨by kernel_rfl, by kernel_rfl, by kernel_rfl, ⟨_, Tryd.underlying107, rfl⟩, (fun _ => eqInts_of (by kernel_rfl) (by kernel_rfl) (by kernel_rfl)), ⟨rfl, rfl, rfl, rfl, fun F h β => by simp [t107, Rep, Reps]⟩⟩
theorem t112_ok : t112.ok Tryd.prog 112 := ⟨by kernel_rfl, by kernel_rfl, by kernel_rfl, ⟨_, Tryd.underlying112, rfl⟩, (fun _ => eqInts_of (by kernel_rfl) (by kernel_rfl) (by kernel_rfl)), ⟨rfl, rfl, rfl, rfl, fun F h β => by simp [t112, Rep, Reps]⟩⟩
theorem t113_ok : t113.ok Tryd.prog 113 := ⟨by kernel_rfl, by kernel_rfl, by kernel_rfl, ⟨_, Tryd.underlying113, rfl⟩, (fun _ => eqInts_of (by kernel_rfl) (by kernel_rfl) (by kernel_rfl)), ⟨rfl, rfl, rfl, rfl, fun F h β => by simp [t113, Rep, Reps]⟩⟩
theorem t115_ok : t115.ok Tryd.prog 115 := ⟨by kernel_rfl, by kernel_rfl, by kernel_rfl, ⟨_, Tryd.underlying115, rfl⟩, (fun _ => eqInts_of (by kernel_rfl) (by kernel_rfl) (by kernel_rfl)), ⟨rfl, rfl, rfl, rfl, fun F h β => by simp [t115, Rep, Reps]⟩⟩
theorem t120_ok : t120.ok Tryd.prog 120 := ⟨by kernel_rfl, by kernel_rfl, by kernel_rfl, Tryd.underlying120, (fun h => by cases h), ⟨rfl, rfl, rfl, rfl, fun F h β => by simp [t120, Rep, Reps]⟩⟩
theorem t121_ok : t121.ok Tryd.prog 121 := ⟨by kernel_rfl, by kernel_rfl, by kernel_rfl, ⟨_, Tryd.underlying121, rfl⟩, (fun h => by cases h), ⟨rfl, rfl, rfl, rfl, fun F h β => by
    show Rep F h β t121.z t121.zero
    simp only [t121, Rep, Reps]
    exact ⟨_, rfl, _, _, rfl, (by trivial), _, _, rfl, (.inl ⟨by trivial, none, 0, by trivial, by intros; rfl⟩), rfl⟩⟩⟩
theorem t122_ok : t122.ok Tryd.prog 122 := ⟨by kernel_rfl, by kernel_rfl, by kernel_rfl, ⟨_, Tryd.underlying122, rfl⟩, (fun h => by cases h), ⟨rfl, rfl, rfl, rfl, fun F h β => by
    show Rep F h β t122.z t122.zero
    simp only [t122, Rep, Reps]
    exact ⟨_, rfl, _, _, rfl, (by trivial), _, _, rfl, (.inl ⟨by trivial, none, 0, by trivial, by intros; rfl⟩), rfl⟩⟩⟩
theorem t124_ok : t124.ok Tryd.prog 124 := ⟨by kernel_rfl, by kernel_rfl, by kernel_rfl, ⟨_, Tryd.underlying124⟩, (fun h => by cases h), ⟨rfl, rfl, rfl, rfl, fun F h β => by simp [t124, Rep, Reps]⟩⟩
theorem t125_ok : t125.ok Tryd.prog 125 := ⟨by kernel_rfl, by kernel_rfl, by kernel_rfl, ⟨_, Tryd.underlying125⟩, (fun h => by cases h), ⟨rfl, rfl, rfl, rfl, fun F h β => by simp [t125, Rep, Reps]⟩⟩
theorem t131_ok : t131.ok Tryd.prog 131 := ⟨by kernel_rfl, by kernel_rfl, by kernel_rfl, Tryd.underlying131, (fun h => by cases h), ⟨rfl, rfl, rfl, rfl, fun F h β => by simp [t131, Rep, Reps]⟩⟩
theorem t133_ok : t133.ok Tryd.prog 133 := ⟨by kernel_rfl, by kernel_rfl, by kernel_rfl, Tryd.underlying133, (fun h => by cases h), ⟨rfl, rfl, rfl, rfl, fun F h β => by simp [t133, Rep, Reps]⟩⟩
theorem t136_ok : t136.ok Tryd.prog 136 := ⟨by kernel_rfl, by kernel_rfl, by kernel_rfl, Tryd.underlying136, (fun h => by cases h), ⟨rfl, rfl, rfl, rfl, fun F h β => by simp [t136, Rep, Reps]⟩⟩
theorem t137_ok : t137.ok Tryd.prog 137 := ⟨by kernel_rfl, by kernel_rfl, by kernel_rfl, Tryd.underlying137, (fun h => by cases h), ⟨rfl, rfl, rfl, rfl, fun F h β => by simp [t137, Rep, Reps]⟩⟩
theorem t138_ok : t138.ok Tryd.prog 138 := ⟨by kernel_rfl, by kernel_rfl, by kernel_rfl, Tryd.underlying138, (fun h => by cases h), ⟨rfl, rfl, rfl, rfl, fun F h β => by simp [t138, Rep, Reps]⟩⟩
theorem t149_ok : t149.ok Tryd.prog 149 := ⟨by kernel_rfl, by kernel_rfl, by kernel_rfl, Tryd.underlying149, (fun h => by cases h), ⟨rfl, rfl, rfl, rfl, fun F h β => by simp [t149, Rep, Reps]⟩⟩
theorem t150_ok : t150.ok Tryd.prog 150 := ⟨by kernel_rfl, by kernel_rfl, by kernel_rfl, Tryd.underlying150, (fun h => by cases h), ⟨rfl, rfl, rfl, rfl, fun F h β => by simp [t150, Rep, Reps]⟩⟩
theorem t151_ok : t151.ok Tryd.prog 151 := ⟨by kernel_rfl, by kernel_rfl, by kernel_rfl, Tryd.underlying151, (fun h => by cases h), ⟨rfl, rfl, rfl, rfl, fun F h β => by simp [t151, Rep, Reps]⟩⟩
theorem t152_ok : t152.ok Tryd.prog 152 := ⟨by kernel_rfl, by kernel_rfl, by kernel_rfl, Tryd.underlying152, (fun h => by cases h), ⟨rfl, rfl, rfl, rfl, fun F h β => by simp [t152, Rep, Reps]⟩⟩
theorem t157_ok : t157.ok Tryd.prog 157 := ⟨by kernel_rfl, by kernel_rfl, by kernel_rfl, Tryd.underlying157, (fun h => by cases h), ⟨rfl, rfl, rfl, rfl, fun F h β => by simp [t157, Rep, Reps]⟩⟩
theorem t158_ok : t158.ok Tryd.prog 158 := ⟨by kernel_rfl, by kernel_rfl, by kernel_rfl, Tryd.underlying158, (fun h => by cases h), ⟨rfl, rfl, rfl, rfl, fun F h β => by simp [t158, Rep, Reps]⟩⟩
theorem t167_ok : t167.ok Tryd.prog 167 := ⟨by kernel_rfl, by kernel_rfl, by kernel_rfl, ⟨_, _, _, Tryd.underlying167⟩, (fun h => by cases h), ⟨rfl, rfl, rfl, rfl, fun F h β => by simp [t167, Rep, Reps]⟩⟩
theorem t170_ok : t170.ok Tryd.prog 170 := ⟨by kernel_rfl, by kernel_rfl, by kernel_rfl, ⟨_, Tryd.underlying170, rfl⟩, (fun h => by cases h), ⟨rfl, rfl, rfl, rfl, fun F h β => by simp [t170, Rep, Reps]⟩⟩
theorem t175_ok : t175.ok Tryd.prog 175 := ⟨by kernel_rfl, by kernel_rfl, by kernel_rfl, ⟨_, Tryd.underlying175, rfl⟩, (fun _ => eqInts_of (by kernel_rfl) (by kernel_rfl) (by kernel_rfl)), ⟨rfl, rfl, rfl, rfl, fun F h β => by simp [t175, Rep, Reps]⟩⟩
def G : Ctx := [(2, t2), (3, t3), (4, t4), (5, t5), (9, t9), (12, t12), (20, t20), (21, t21), (24, t24), (25, t25), (27, t27), (30, t30), (32, t32), (35, t35), (36, t36), (37, t37), (38, t38), (41, t41), (42, t42), (43, t43), (47, t47), (48, t48), (50, t50), (51, t51), (54, t54), (55, t55), (57, t57), (60, t60), (63, t63), (64, t64), (65, t65), (67, t67), (70, t70), (74, t74), (77, t77), (81, t81), (85, t85), (91, t91), (96, t96), (97, t97), (99, t99), (104, t104), (105, t105), (107, t107), (112, t112), (113, t113), (115, t115), (120, t120), (121, t121), (122, t122), (124, t124), (125, t125), (131, t131), (133, t133), (136, t136), (137, t137), (138, t138), (149, t149), (150, t150), (151, t151), (152, t152), (157, t157), (158, t158), (167, t167), (170, t170), (175, t175)]
@[simp] theorem G_2 : G.get 2 = some t2 := rfl
@[simp] theorem G_3 : G.get 3 = some t3 := rfl
@[simp] theorem G_4 : G.get 4 = some t4 := rfl
@[simp] theorem G_5 : G.get 5 = some t5 := rfl
@[simp] theorem G_9 : G.get 9 = some t9 := rfl
@[simp] theorem G_12 : G.get 12 = some t12 := rfl
@[simp] theorem G_20 : G.get 20 = some t20 := rfl
@[simp] theorem G_21 : G.get 21 = some t21 := rfl
@[simp] theorem G_24 : G.get 24 = some t24 := rfl
@[simp] theorem G_25 : G.get 25 = some t25 := rfl
@[simp] theorem G_27 : G.get 27 = some t27 := rfl
@[simp] theorem G_30 : G.get 30 = some t30 := rfl
@[simp] theorem G_32 : G.get 32 = some t32 := rfl
@[simp] theorem G_35 : G.get 35 = some t35 := rfl
@[simp] theorem G_36 : G.get 36 = some t36 := rfl
@[simp] theorem G_37 : G.get 37 = some t37 := rfl
@[simp] theorem G_38 : G.get 38 = some t38 := rfl
@[simp] theorem G_41 : G.get 41 = some t41 := rfl
@[simp] theorem G_42 : G.get 42 = some t42 := rfl
@[simp] theorem G_43 : G.get 43 = some t43 := rfl
@[simp] theorem G_47 : G.get 47 = some t47 := rfl
@[simp] theorem G_48 : G.get 48 = some t48 := rfl
@[simp] theorem G_50 : G.get 50 = some t50 := rfl
@[simp] theorem G_51 : G.get 51 = some t51 := rfl
@[simp] theorem G_54 : G.get 54 = some t54 := rfl
@[simp] theorem G_55 : G.get 55 = some t55 := rfl
@[simp] theorem G_57 : G.get 57 = some t57 := rfl
@[simp] theorem G_60 : G.get 60 = some t60 := rfl
@[simp] theorem G_63 : G.get 63 = some t63 := rfl
@[simp] theorem G_64 : G.get 64 = some t64 := rfl
@[simp] theorem G_65 : G.get 65 = some t65 := rfl
@[simp] theorem G_67 : G.get 67 = some t67 := rfl
@[simp] theorem G_70 : G.get 70 = some t70 := rfl
@[simp] theorem G_74 : G.get 74 = some t74 := rfl
@[simp] theorem G_77 : G.get 77 = some t77 := rfl
@[simp] theorem G_81 : G.get 81 = some t81 := rfl
@[simp] theorem G_85 : G.get 85 = some t85 := rfl
@[simp] theorem G_91 : G.get 91 = some t91 := rfl
@[simp] theorem G_96 : G.get 96 = some t96 := rfl
@[simp] theorem G_97 : G.get 97 = some t97 := rfl
@[simp] theorem G_99 : G.get 99 = some t99 := rfl
@[simp] theorem G_104 : G.get 104 = some t104 := rfl
@[simp] theorem G_105 : G.get 105 = some t105 := rfl
@[simp] theorem G_107 : G.get 107 = some t107 := rfl
@[simp] theorem G_112 : G.get 112 = some t112 := rfl
@[simp] theorem G_113 : G.get 113 = some t113 := rfl
@[simp] theorem G_115 : G.get 115 = some t115 := rfl
@[simp] theorem G_120 : G.get 120 = some t120 := rfl
@[simp] theorem G_121 : G.get 121 = some t121 := rfl
@[simp] theorem G_122 : G.get 122 = some t122 := rfl
@[simp] theorem G_124 : G.get 124 = some t124 := rfl
@[simp] theorem G_125 : G.get 125 = some t125 := rfl
@[simp] theorem G_131 : G.get 131 = some t131 := rfl
@[simp] theorem G_133 : G.get 133 = some t133 := rfl
@[simp] theorem G_136 : G.get 136 = some t136 := rfl
@[simp] theorem G_137 : G.get 137 = some t137 := rfl
@[simp] theorem G_138 : G.get 138 = some t138 := rfl
@[simp] theorem G_149 : G.get 149 = some t149 := rfl
@[simp] theorem G_150 : G.get 150 = some t150 := rfl
@[simp] theorem G_151 : G.get 151 = some t151 := rfl
@[simp] theorem G_152 : G.get 152 = some t152 := rfl
@[simp] theorem G_157 : G.get 157 = some t157 := rfl
@[simp] theorem G_158 : G.get 158 = some t158 := rfl
@[simp] theorem G_167 : G.get 167 = some t167 := rfl
@[simp] theorem G_170 : G.get 170 = some t170 := rfl
@[simp] theorem G_175 : G.get 175 = some t175 := rfl
theorem G_ok : G.ok Tryd.prog := by
  intro p hp
  simp only [G, List.mem_cons, List.not_mem_nil, or_false] at hp
  rcases hp with rfl | rfl | rfl | rfl | rfl | rfl | rfl | rfl | rfl | rfl | rfl | rfl | rfl | rfl | rfl | rfl | rfl | rfl | rfl | rfl | rfl | rfl | rfl | rfl | rfl | rfl | rfl | rfl | rfl | rfl | rfl | rfl | rfl | rfl | rfl | rfl | rfl | rfl | rfl | rfl | rfl | rfl | rfl | rfl | rfl | rfl | rfl | rfl | rfl | rfl | rfl | rfl | rfl | rfl | rfl | rfl | rfl | rfl | rfl | rfl | rfl | rfl | rfl | rfl | rfl | rfl
  · exact t2_ok
  · exact t3_ok
  · exact t4_ok
  · exact t5_ok
  · exact t9_ok
  · exact t12_ok
  · exact t20_ok
  · exact t21_ok
  · exact t24_ok
  · exact t25_ok
  · exact t27_ok
  · exact t30_ok
  · exact t32_ok
  · exact t35_ok
  · exact t36_ok
  · exact t37_ok
  · exact t38_ok
  · exact t41_ok
  · exact t42_ok
  · exact t43_ok
  · exact t47_ok
  · exact t48_ok
  · exact t50_ok
  · exact t51_ok
  · exact t54_ok
  · exact t55_ok
  · exact t57_ok
  · exact t60_ok
  · exact t63_ok
  · exact t64_ok
  · exact t65_ok
  · exact t67_ok
  · exact t70_ok
  · exact t74_ok
  · exact t77_ok
  · exact t81_ok
  · exact t85_ok
  · exact t91_ok
  · exact t96_ok
  · exact t97_ok
  · exact t99_ok
  · exact t104_ok
  · exact t105_ok
  · exact t107_ok
  · exact t112_ok
  · exact t113_ok
  · exact t115_ok
  · exact t120_ok
  · exact t121_ok
  · exact t122_ok
  · exact t124_ok
  · exact t125_ok
  · exact t131_ok
  · exact t133_ok
  · exact t136_ok
  · exact t137_ok
  · exact t138_ok
  · exact t149_ok
  · exact t150_ok
  · exact t151_ok
  · exact t152_ok
  · exact t157_ok
  · exact t158_ok
  · exact t167_ok
  · exact t170_ok
  · exact t175_ok
theorem mix : Tryd.prog.follows .mixedOrders = true := by kernel_rfl
end Go.Proofs.YtbpcabaaniiggaaDoor
