/- What is known of the types of this program: their sizes, zero values and parts. -/
import Derived.Test.YtdiajaijdkohlaaProg
import Derived.Test.YtdiajaijdkohlaaTY
import Derived.KernelRfl
namespace Go.Proofs.Ytdiajaijdkohlaa
open Go Go.Eng
set_option linter.unusedSimpArgs false
set_option linter.unusedVariables false
set_option maxRecDepth 20000
/-- int64 -/
def t2 : TI := ⟨1, 8, .int .i64 0, .lit (.int .i64 0), .lit (.int .i64 0), .int .i64, false⟩
@[simp] theorem t2_size : t2.size = 1 := rfl
@[simp] theorem t2_bytes : t2.bytes = 8 := rfl
@[simp] theorem t2_z : t2.z = .lit (.int .i64 0) := rfl
@[simp] theorem t2_y : t2.y = .lit (.int .i64 0) := rfl
@[simp] theorem t2_kind : t2.kind = .int .i64 := rfl
@[simp] theorem t2_cmp : t2.cmp = false := rfl
/-- int -/
def t3 : TI := ⟨1, 8, .int .i64 0, .lit (.int .i64 0), .lit (.int .i64 0), .int .i64, false⟩
@[simp] theorem t3_size : t3.size = 1 := rfl
@[simp] theorem t3_bytes : t3.bytes = 8 := rfl
@[simp] theorem t3_z : t3.z = .lit (.int .i64 0) := rfl
@[simp] theorem t3_y : t3.y = .lit (.int .i64 0) := rfl
@[simp] theorem t3_kind : t3.kind = .int .i64 := rfl
@[simp] theorem t3_cmp : t3.cmp = false := rfl
/-- bool -/
def t4 : TI := ⟨1, 1, .bool false, .lit (.bool false), .lit (.bool false), .bool, false⟩
@[simp] theorem t4_size : t4.size = 1 := rfl
@[simp] theorem t4_bytes : t4.bytes = 1 := rfl
@[simp] theorem t4_z : t4.z = .lit (.bool false) := rfl
@[simp] theorem t4_y : t4.y = .lit (.bool false) := rfl
@[simp] theorem t4_kind : t4.kind = .bool := rfl
@[simp] theorem t4_cmp : t4.cmp = false := rfl
/-- uint8 -/
def t5 : TI := ⟨1, 1, .int .u8 0, .lit (.int .u8 0), .lit (.int .u8 0), .int .u8, false⟩
@[simp] theorem t5_size : t5.size = 1 := rfl
@[simp] theorem t5_bytes : t5.bytes = 1 := rfl
@[simp] theorem t5_z : t5.z = .lit (.int .u8 0) := rfl
@[simp] theorem t5_y : t5.y = .lit (.int .u8 0) := rfl
@[simp] theorem t5_kind : t5.kind = .int .u8 := rfl
@[simp] theorem t5_cmp : t5.cmp = false := rfl
/-- string -/
def t9 : TI := ⟨1, 16, .string ⟨#[]⟩, .lit (.string ⟨#[]⟩), .lit (.string ⟨#[]⟩), .str, false⟩
@[simp] theorem t9_size : t9.size = 1 := rfl
@[simp] theorem t9_bytes : t9.bytes = 16 := rfl
@[simp] theorem t9_z : t9.z = .lit (.string ⟨#[]⟩) := rfl
@[simp] theorem t9_y : t9.y = .lit (.string ⟨#[]⟩) := rfl
@[simp] theorem t9_kind : t9.kind = .str := rfl
@[simp] theorem t9_cmp : t9.cmp = false := rfl
/-- uintptr -/
def t12 : TI := ⟨1, 8, .int .u64 0, .lit (.int .u64 0), .lit (.int .u64 0), .int .u64, false⟩
@[simp] theorem t12_size : t12.size = 1 := rfl
@[simp] theorem t12_bytes : t12.bytes = 8 := rfl
@[simp] theorem t12_z : t12.z = .lit (.int .u64 0) := rfl
@[simp] theorem t12_y : t12.y = .lit (.int .u64 0) := rfl
@[simp] theorem t12_kind : t12.kind = .int .u64 := rfl
@[simp] theorem t12_cmp : t12.cmp = false := rfl
/-- interface {} -/
def t20 : TI := ⟨1, 16, .nilIface, .lit .nilIface, .lit .nilIface, .iface, false⟩
@[simp] theorem t20_size : t20.size = 1 := rfl
@[simp] theorem t20_bytes : t20.bytes = 16 := rfl
@[simp] theorem t20_z : t20.z = .lit .nilIface := rfl
@[simp] theorem t20_y : t20.y = .lit .nilIface := rfl
@[simp] theorem t20_kind : t20.kind = .iface := rfl
@[simp] theorem t20_cmp : t20.cmp = false := rfl
/-- int32 -/
def t21 : TI := ⟨1, 4, .int .i32 0, .lit (.int .i32 0), .lit (.int .i32 0), .int .i32, false⟩
@[simp] theorem t21_size : t21.size = 1 := rfl
@[simp] theorem t21_bytes : t21.bytes = 4 := rfl
@[simp] theorem t21_z : t21.z = .lit (.int .i32 0) := rfl
@[simp] theorem t21_y : t21.y = .lit (.int .i32 0) := rfl
@[simp] theorem t21_kind : t21.kind = .int .i32 := rfl
@[simp] theorem t21_cmp : t21.cmp = false := rfl
/-- struct { Id int; Kind int; Colour int; Size int; Worth int } -/
def t22 : TI := ⟨5, 40, .agg #[.int .i64 0, .int .i64 0, .int .i64 0, .int .i64 0, .int .i64 0], .agg [.lit (.int .i64 0), .lit (.int .i64 0), .lit (.int .i64 0), .lit (.int .i64 0), .lit (.int .i64 0)], yTThing, .st [(0, 3), (1, 3), (2, 3), (3, 3), (4, 3)], true⟩
@[simp] theorem t22_size : t22.size = 5 := rfl
@[simp] theorem t22_bytes : t22.bytes = 40 := rfl
@[simp] theorem t22_z : t22.z = .agg [.lit (.int .i64 0), .lit (.int .i64 0), .lit (.int .i64 0), .lit (.int .i64 0), .lit (.int .i64 0)] := rfl
@[simp] theorem t22_y : t22.y = yTThing := rfl
@[simp] theorem t22_kind : t22.kind = .st [(0, 3), (1, 3), (2, 3), (3, 3), (4, 3)] := rfl
@[simp] theorem t22_cmp : t22.cmp = true := rfl
/-- laws.Thing = loop.example/g03007/laws.Thing -/
def t23 : TI := ⟨5, 40, .agg #[.int .i64 0, .int .i64 0, .int .i64 0, .int .i64 0, .int .i64 0], .agg [.lit (.int .i64 0), .lit (.int .i64 0), .lit (.int .i64 0), .lit (.int .i64 0), .lit (.int .i64 0)], yTThing, .st [(0, 3), (1, 3), (2, 3), (3, 3), (4, 3)], true⟩
@[simp] theorem t23_size : t23.size = 5 := rfl
@[simp] theorem t23_bytes : t23.bytes = 40 := rfl
@[simp] theorem t23_z : t23.z = .agg [.lit (.int .i64 0), .lit (.int .i64 0), .lit (.int .i64 0), .lit (.int .i64 0), .lit (.int .i64 0)] := rfl
@[simp] theorem t23_y : t23.y = yTThing := rfl
@[simp] theorem t23_kind : t23.kind = .st [(0, 3), (1, 3), (2, 3), (3, 3), (4, 3)] := rfl
@[simp] theorem t23_cmp : t23.cmp = true := rfl
/-- struct { Thing laws.Thing; Place int; At int; Finder int } -/
def t24 : TI := ⟨8, 64, .agg #[.int .i64 0, .int .i64 0, .int .i64 0, .int .i64 0, .int .i64 0, .int .i64 0, .int .i64 0, .int .i64 0], .agg [.lit (.int .i64 0), .lit (.int .i64 0), .lit (.int .i64 0), .lit (.int .i64 0), .lit (.int .i64 0), .lit (.int .i64 0), .lit (.int .i64 0), .lit (.int .i64 0)], yTFind, .st [(0, 23), (5, 3), (6, 3), (7, 3)], true⟩
@[simp] theorem t24_size : t24.size = 8 := rfl
@[simp] theorem t24_bytes : t24.bytes = 64 := rfl
@[simp] theorem t24_z : t24.z = .agg [.lit (.int .i64 0), .lit (.int .i64 0), .lit (.int .i64 0), .lit (.int .i64 0), .lit (.int .i64 0), .lit (.int .i64 0), .lit (.int .i64 0), .lit (.int .i64 0)] := rfl
@[simp] theorem t24_y : t24.y = yTFind := rfl
@[simp] theorem t24_kind : t24.kind = .st [(0, 23), (5, 3), (6, 3), (7, 3)] := rfl
@[simp] theorem t24_cmp : t24.cmp = true := rfl
/-- laws.Find = loop.example/g03007/laws.Find -/
def t25 : TI := ⟨8, 64, .agg #[.int .i64 0, .int .i64 0, .int .i64 0, .int .i64 0, .int .i64 0, .int .i64 0, .int .i64 0, .int .i64 0], .agg [.lit (.int .i64 0), .lit (.int .i64 0), .lit (.int .i64 0), .lit (.int .i64 0), .lit (.int .i64 0), .lit (.int .i64 0), .lit (.int .i64 0), .lit (.int .i64 0)], yTFind, .st [(0, 23), (5, 3), (6, 3), (7, 3)], true⟩
@[simp] theorem t25_size : t25.size = 8 := rfl
@[simp] theorem t25_bytes : t25.bytes = 64 := rfl
@[simp] theorem t25_z : t25.z = .agg [.lit (.int .i64 0), .lit (.int .i64 0), .lit (.int .i64 0), .lit (.int .i64 0), .lit (.int .i64 0), .lit (.int .i64 0), .lit (.int .i64 0), .lit (.int .i64 0)] := rfl
@[simp] theorem t25_y : t25.y = yTFind := rfl
@[simp] theorem t25_kind : t25.kind = .st [(0, 23), (5, 3), (6, 3), (7, 3)] := rfl
@[simp] theorem t25_cmp : t25.cmp = true := rfl
/-- []int -/
def t26 : TI := ⟨1, 24, .slice none 0 0, .sl true 0 .any [], yLI, .slice 3, false⟩
@[simp] theorem t26_size : t26.size = 1 := rfl
@[simp] theorem t26_bytes : t26.bytes = 24 := rfl
@[simp] theorem t26_z : t26.z = .sl true 0 .any [] := rfl
@[simp] theorem t26_y : t26.y = yLI := rfl
@[simp] theorem t26_kind : t26.kind = .slice 3 := rfl
@[simp] theorem t26_cmp : t26.cmp = false := rfl
/-- struct { Colours []int; Size int; Places []int; Hours int } -/
def t27 : TI := ⟨4, 64, .agg #[.slice none 0 0, .int .i64 0, .slice none 0 0, .int .i64 0], .agg [.sl true 0 .any [], .lit (.int .i64 0), .sl true 0 .any [], .lit (.int .i64 0)], yTDoubt, .st [(0, 26), (1, 3), (2, 26), (3, 3)], false⟩
@[simp] theorem t27_size : t27.size = 4 := rfl
@[simp] theorem t27_bytes : t27.bytes = 64 := rfl
@[simp] theorem t27_z : t27.z = .agg [.sl true 0 .any [], .lit (.int .i64 0), .sl true 0 .any [], .lit (.int .i64 0)] := rfl
@[simp] theorem t27_y : t27.y = yTDoubt := rfl
@[simp] theorem t27_kind : t27.kind = .st [(0, 26), (1, 3), (2, 26), (3, 3)] := rfl
@[simp] theorem t27_cmp : t27.cmp = false := rfl
/-- laws.Doubt = loop.example/g03007/laws.Doubt -/
def t28 : TI := ⟨4, 64, .agg #[.slice none 0 0, .int .i64 0, .slice none 0 0, .int .i64 0], .agg [.sl true 0 .any [], .lit (.int .i64 0), .sl true 0 .any [], .lit (.int .i64 0)], yTDoubt, .st [(0, 26), (1, 3), (2, 26), (3, 3)], false⟩
@[simp] theorem t28_size : t28.size = 4 := rfl
@[simp] theorem t28_bytes : t28.bytes = 64 := rfl
@[simp] theorem t28_z : t28.z = .agg [.sl true 0 .any [], .lit (.int .i64 0), .sl true 0 .any [], .lit (.int .i64 0)] := rfl
@[simp] theorem t28_y : t28.y = yTDoubt := rfl
@[simp] theorem t28_kind : t28.kind = .st [(0, 26), (1, 3), (2, 26), (3, 3)] := rfl
@[simp] theorem t28_cmp : t28.cmp = false := rfl
/-- struct { From int; Until int } -/
def t30 : TI := ⟨2, 16, .agg #[.int .i64 0, .int .i64 0], .agg [.lit (.int .i64 0), .lit (.int .i64 0)], yTSpan, .st [(0, 3), (1, 3)], true⟩
@[simp] theorem t30_size : t30.size = 2 := rfl
@[simp] theorem t30_bytes : t30.bytes = 16 := rfl
@[simp] theorem t30_z : t30.z = .agg [.lit (.int .i64 0), .lit (.int .i64 0)] := rfl
@[simp] theorem t30_y : t30.y = yTSpan := rfl
@[simp] theorem t30_kind : t30.kind = .st [(0, 3), (1, 3)] := rfl
@[simp] theorem t30_cmp : t30.cmp = true := rfl
/-- impl.Span = loop.example/g03007/impl.Span -/
def t31 : TI := ⟨2, 16, .agg #[.int .i64 0, .int .i64 0], .agg [.lit (.int .i64 0), .lit (.int .i64 0)], yTSpan, .st [(0, 3), (1, 3)], true⟩
@[simp] theorem t31_size : t31.size = 2 := rfl
@[simp] theorem t31_bytes : t31.bytes = 16 := rfl
@[simp] theorem t31_z : t31.z = .agg [.lit (.int .i64 0), .lit (.int .i64 0)] := rfl
@[simp] theorem t31_y : t31.y = yTSpan := rfl
@[simp] theorem t31_kind : t31.kind = .st [(0, 3), (1, 3)] := rfl
@[simp] theorem t31_cmp : t31.cmp = true := rfl
/-- struct { Id int; Kind int; Colours []int; SizeLow int; SizeHigh int; Places []int; Span impl.Span } -/
def t32 : TI := ⟨8, 96, .agg #[.int .i64 0, .int .i64 0, .slice none 0 0, .int .i64 0, .int .i64 0, .slice none 0 0, .int .i64 0, .int .i64 0], .agg [.lit (.int .i64 0), .lit (.int .i64 0), .sl true 0 .any [], .lit (.int .i64 0), .lit (.int .i64 0), .sl true 0 .any [], .lit (.int .i64 0), .lit (.int .i64 0)], yTReport, .st [(0, 3), (1, 3), (2, 26), (3, 3), (4, 3), (5, 26), (6, 31)], false⟩
@[simp] theorem t32_size : t32.size = 8 := rfl
@[simp] theorem t32_bytes : t32.bytes = 96 := rfl
@[simp] theorem t32_z : t32.z = .agg [.lit (.int .i64 0), .lit (.int .i64 0), .sl true 0 .any [], .lit (.int .i64 0), .lit (.int .i64 0), .sl true 0 .any [], .lit (.int .i64 0), .lit (.int .i64 0)] := rfl
@[simp] theorem t32_y : t32.y = yTReport := rfl
@[simp] theorem t32_kind : t32.kind = .st [(0, 3), (1, 3), (2, 26), (3, 3), (4, 3), (5, 26), (6, 31)] := rfl
@[simp] theorem t32_cmp : t32.cmp = false := rfl
/-- impl.Report = loop.example/g03007/impl.Report -/
def t33 : TI := ⟨8, 96, .agg #[.int .i64 0, .int .i64 0, .slice none 0 0, .int .i64 0, .int .i64 0, .slice none 0 0, .int .i64 0, .int .i64 0], .agg [.lit (.int .i64 0), .lit (.int .i64 0), .sl true 0 .any [], .lit (.int .i64 0), .lit (.int .i64 0), .sl true 0 .any [], .lit (.int .i64 0), .lit (.int .i64 0)], yTReport, .st [(0, 3), (1, 3), (2, 26), (3, 3), (4, 3), (5, 26), (6, 31)], false⟩
@[simp] theorem t33_size : t33.size = 8 := rfl
@[simp] theorem t33_bytes : t33.bytes = 96 := rfl
@[simp] theorem t33_z : t33.z = .agg [.lit (.int .i64 0), .lit (.int .i64 0), .sl true 0 .any [], .lit (.int .i64 0), .lit (.int .i64 0), .sl true 0 .any [], .lit (.int .i64 0), .lit (.int .i64 0)] := rfl
@[simp] theorem t33_y : t33.y = yTReport := rfl
@[simp] theorem t33_kind : t33.kind = .st [(0, 3), (1, 3), (2, 26), (3, 3), (4, 3), (5, 26), (6, 31)] := rfl
@[simp] theorem t33_cmp : t33.cmp = false := rfl
/-- impl.Thing = loop.example/g03007/impl.Thing -/
def t36 : TI := ⟨5, 40, .agg #[.int .i64 0, .int .i64 0, .int .i64 0, .int .i64 0, .int .i64 0], .agg [.lit (.int .i64 0), .lit (.int .i64 0), .lit (.int .i64 0), .lit (.int .i64 0), .lit (.int .i64 0)], yTThing, .st [(0, 3), (1, 3), (2, 3), (3, 3), (4, 3)], true⟩
@[simp] theorem t36_size : t36.size = 5 := rfl
@[simp] theorem t36_bytes : t36.bytes = 40 := rfl
@[simp] theorem t36_z : t36.z = .agg [.lit (.int .i64 0), .lit (.int .i64 0), .lit (.int .i64 0), .lit (.int .i64 0), .lit (.int .i64 0)] := rfl
@[simp] theorem t36_y : t36.y = yTThing := rfl
@[simp] theorem t36_kind : t36.kind = .st [(0, 3), (1, 3), (2, 3), (3, 3), (4, 3)] := rfl
@[simp] theorem t36_cmp : t36.cmp = true := rfl
/-- struct { Thing impl.Thing; Place int; At int; Finder int } -/
def t37 : TI := ⟨8, 64, .agg #[.int .i64 0, .int .i64 0, .int .i64 0, .int .i64 0, .int .i64 0, .int .i64 0, .int .i64 0, .int .i64 0], .agg [.lit (.int .i64 0), .lit (.int .i64 0), .lit (.int .i64 0), .lit (.int .i64 0), .lit (.int .i64 0), .lit (.int .i64 0), .lit (.int .i64 0), .lit (.int .i64 0)], yTFind, .st [(0, 36), (5, 3), (6, 3), (7, 3)], true⟩
@[simp] theorem t37_size : t37.size = 8 := rfl
@[simp] theorem t37_bytes : t37.bytes = 64 := rfl
@[simp] theorem t37_z : t37.z = .agg [.lit (.int .i64 0), .lit (.int .i64 0), .lit (.int .i64 0), .lit (.int .i64 0), .lit (.int .i64 0), .lit (.int .i64 0), .lit (.int .i64 0), .lit (.int .i64 0)] := rfl
@[simp] theorem t37_y : t37.y = yTFind := rfl
@[simp] theorem t37_kind : t37.kind = .st [(0, 36), (5, 3), (6, 3), (7, 3)] := rfl
@[simp] theorem t37_cmp : t37.cmp = true := rfl
/-- impl.Find = loop.example/g03007/impl.Find -/
def t38 : TI := ⟨8, 64, .agg #[.int .i64 0, .int .i64 0, .int .i64 0, .int .i64 0, .int .i64 0, .int .i64 0, .int .i64 0, .int .i64 0], .agg [.lit (.int .i64 0), .lit (.int .i64 0), .lit (.int .i64 0), .lit (.int .i64 0), .lit (.int .i64 0), .lit (.int .i64 0), .lit (.int .i64 0), .lit (.int .i64 0)], yTFind, .st [(0, 36), (5, 3), (6, 3), (7, 3)], true⟩
@[simp] theorem t38_size : t38.size = 8 := rfl
@[simp] theorem t38_bytes : t38.bytes = 64 := rfl
@[simp] theorem t38_z : t38.z = .agg [.lit (.int .i64 0), .lit (.int .i64 0), .lit (.int .i64 0), .lit (.int .i64 0), .lit (.int .i64 0), .lit (.int .i64 0), .lit (.int .i64 0), .lit (.int .i64 0)] := rfl
@[simp] theorem t38_y : t38.y = yTFind := rfl
@[simp] theorem t38_kind : t38.kind = .st [(0, 36), (5, 3), (6, 3), (7, 3)] := rfl
@[simp] theorem t38_cmp : t38.cmp = true := rfl
/-- impl.Doubt = loop.example/g03007/impl.Doubt -/
def t40 : TI := ⟨4, 64, .agg #[.slice none 0 0, .int .i64 0, .slice none 0 0, .int .i64 0], .agg [.sl true 0 .any [], .lit (.int .i64 0), .sl true 0 .any [], .lit (.int .i64 0)], yTDoubt, .st [(0, 26), (1, 3), (2, 26), (3, 3)], false⟩
@[simp] theorem t40_size : t40.size = 4 := rfl
@[simp] theorem t40_bytes : t40.bytes = 64 := rfl
@[simp] theorem t40_z : t40.z = .agg [.sl true 0 .any [], .lit (.int .i64 0), .sl true 0 .any [], .lit (.int .i64 0)] := rfl
@[simp] theorem t40_y : t40.y = yTDoubt := rfl
@[simp] theorem t40_kind : t40.kind = .st [(0, 26), (1, 3), (2, 26), (3, 3)] := rfl
@[simp] theorem t40_cmp : t40.cmp = false := rfl
/-- []laws.Stop -/
def t50 : TI := ⟨1, 24, .slice none 0 0, .sl true 0 .any [], yLTStop, .slice 92, false⟩
@[simp] theorem t50_size : t50.size = 1 := rfl
@[simp] theorem t50_bytes : t50.bytes = 24 := rfl
@[simp] theorem t50_z : t50.z = .sl true 0 .any [] := rfl
@[simp] theorem t50_y : t50.y = yLTStop := rfl
@[simp] theorem t50_kind : t50.kind = .slice 92 := rfl
@[simp] theorem t50_cmp : t50.cmp = false := rfl
/-- []impl.Stop -/
def t53 : TI := ⟨1, 24, .slice none 0 0, .sl true 0 .any [], yLTStop, .slice 90, false⟩
@[simp] theorem t53_size : t53.size = 1 := rfl
@[simp] theorem t53_bytes : t53.bytes = 24 := rfl
@[simp] theorem t53_z : t53.z = .sl true 0 .any [] := rfl
@[simp] theorem t53_y : t53.y = yLTStop := rfl
@[simp] theorem t53_kind : t53.kind = .slice 90 := rfl
@[simp] theorem t53_cmp : t53.cmp = false := rfl
/-- laws.Span = loop.example/g03007/laws.Span -/
def t57 : TI := ⟨2, 16, .agg #[.int .i64 0, .int .i64 0], .agg [.lit (.int .i64 0), .lit (.int .i64 0)], yTSpan, .st [(0, 3), (1, 3)], true⟩
@[simp] theorem t57_size : t57.size = 2 := rfl
@[simp] theorem t57_bytes : t57.bytes = 16 := rfl
@[simp] theorem t57_z : t57.z = .agg [.lit (.int .i64 0), .lit (.int .i64 0)] := rfl
@[simp] theorem t57_y : t57.y = yTSpan := rfl
@[simp] theorem t57_kind : t57.kind = .st [(0, 3), (1, 3)] := rfl
@[simp] theorem t57_cmp : t57.cmp = true := rfl
/-- []laws.Entry -/
def t63 : TI := ⟨1, 24, .slice none 0 0, .sl true 0 .any [], yLTEntry, .slice 104, false⟩
@[simp] theorem t63_size : t63.size = 1 := rfl
@[simp] theorem t63_bytes : t63.bytes = 24 := rfl
@[simp] theorem t63_z : t63.z = .sl true 0 .any [] := rfl
@[simp] theorem t63_y : t63.y = yLTEntry := rfl
@[simp] theorem t63_kind : t63.kind = .slice 104 := rfl
@[simp] theorem t63_cmp : t63.cmp = false := rfl
/-- []impl.Entry -/
def t66 : TI := ⟨1, 24, .slice none 0 0, .sl true 0 .any [], yLTEntry, .slice 102, false⟩
@[simp] theorem t66_size : t66.size = 1 := rfl
@[simp] theorem t66_bytes : t66.bytes = 24 := rfl
@[simp] theorem t66_z : t66.z = .sl true 0 .any [] := rfl
@[simp] theorem t66_y : t66.y = yLTEntry := rfl
@[simp] theorem t66_kind : t66.kind = .slice 102 := rfl
@[simp] theorem t66_cmp : t66.cmp = false := rfl
/-- func(impl.Find) bool -/
def t71 : TI := ⟨1, 8, .nilFunc, .lit .nilFunc, .lit .nilFunc, .func, false⟩
@[simp] theorem t71_size : t71.size = 1 := rfl
@[simp] theorem t71_bytes : t71.bytes = 8 := rfl
@[simp] theorem t71_z : t71.z = .lit .nilFunc := rfl
@[simp] theorem t71_y : t71.y = .lit .nilFunc := rfl
@[simp] theorem t71_kind : t71.kind = .func := rfl
@[simp] theorem t71_cmp : t71.cmp = false := rfl
/-- impl.reportOption = loop.example/g03007/impl.reportOption -/
def t80 : TI := ⟨1, 8, .nilFunc, .lit .nilFunc, .lit .nilFunc, .func, false⟩
@[simp] theorem t80_size : t80.size = 1 := rfl
@[simp] theorem t80_bytes : t80.bytes = 8 := rfl
@[simp] theorem t80_z : t80.z = .lit .nilFunc := rfl
@[simp] theorem t80_y : t80.y = .lit .nilFunc := rfl
@[simp] theorem t80_kind : t80.kind = .func := rfl
@[simp] theorem t80_cmp : t80.cmp = false := rfl
/-- struct { Place int; Arrive int; Leave int } -/
def t89 : TI := ⟨3, 24, .agg #[.int .i64 0, .int .i64 0, .int .i64 0], .agg [.lit (.int .i64 0), .lit (.int .i64 0), .lit (.int .i64 0)], yTStop, .st [(0, 3), (1, 3), (2, 3)], true⟩
@[simp] theorem t89_size : t89.size = 3 := rfl
@[simp] theorem t89_bytes : t89.bytes = 24 := rfl
@[simp] theorem t89_z : t89.z = .agg [.lit (.int .i64 0), .lit (.int .i64 0), .lit (.int .i64 0)] := rfl
@[simp] theorem t89_y : t89.y = yTStop := rfl
@[simp] theorem t89_kind : t89.kind = .st [(0, 3), (1, 3), (2, 3)] := rfl
@[simp] theorem t89_cmp : t89.cmp = true := rfl
/-- impl.Stop = loop.example/g03007/impl.Stop -/
def t90 : TI := ⟨3, 24, .agg #[.int .i64 0, .int .i64 0, .int .i64 0], .agg [.lit (.int .i64 0), .lit (.int .i64 0), .lit (.int .i64 0)], yTStop, .st [(0, 3), (1, 3), (2, 3)], true⟩
@[simp] theorem t90_size : t90.size = 3 := rfl
@[simp] theorem t90_bytes : t90.bytes = 24 := rfl
@[simp] theorem t90_z : t90.z = .agg [.lit (.int .i64 0), .lit (.int .i64 0), .lit (.int .i64 0)] := rfl
@[simp] theorem t90_y : t90.y = yTStop := rfl
@[simp] theorem t90_kind : t90.kind = .st [(0, 3), (1, 3), (2, 3)] := rfl
@[simp] theorem t90_cmp : t90.cmp = true := rfl
/-- laws.Stop = loop.example/g03007/laws.Stop -/
def t92 : TI := ⟨3, 24, .agg #[.int .i64 0, .int .i64 0, .int .i64 0], .agg [.lit (.int .i64 0), .lit (.int .i64 0), .lit (.int .i64 0)], yTStop, .st [(0, 3), (1, 3), (2, 3)], true⟩
@[simp] theorem t92_size : t92.size = 3 := rfl
@[simp] theorem t92_bytes : t92.bytes = 24 := rfl
@[simp] theorem t92_z : t92.z = .agg [.lit (.int .i64 0), .lit (.int .i64 0), .lit (.int .i64 0)] := rfl
@[simp] theorem t92_y : t92.y = yTStop := rfl
@[simp] theorem t92_kind : t92.kind = .st [(0, 3), (1, 3), (2, 3)] := rfl
@[simp] theorem t92_cmp : t92.cmp = true := rfl
/-- struct { From int; To int; Cents int; At int } -/
def t101 : TI := ⟨4, 32, .agg #[.int .i64 0, .int .i64 0, .int .i64 0, .int .i64 0], .agg [.lit (.int .i64 0), .lit (.int .i64 0), .lit (.int .i64 0), .lit (.int .i64 0)], yTEntry, .st [(0, 3), (1, 3), (2, 3), (3, 3)], true⟩
@[simp] theorem t101_size : t101.size = 4 := rfl
@[simp] theorem t101_bytes : t101.bytes = 32 := rfl
@[simp] theorem t101_z : t101.z = .agg [.lit (.int .i64 0), .lit (.int .i64 0), .lit (.int .i64 0), .lit (.int .i64 0)] := rfl
@[simp] theorem t101_y : t101.y = yTEntry := rfl
@[simp] theorem t101_kind : t101.kind = .st [(0, 3), (1, 3), (2, 3), (3, 3)] := rfl
@[simp] theorem t101_cmp : t101.cmp = true := rfl
/-- impl.Entry = loop.example/g03007/impl.Entry -/
def t102 : TI := ⟨4, 32, .agg #[.int .i64 0, .int .i64 0, .int .i64 0, .int .i64 0], .agg [.lit (.int .i64 0), .lit (.int .i64 0), .lit (.int .i64 0), .lit (.int .i64 0)], yTEntry, .st [(0, 3), (1, 3), (2, 3), (3, 3)], true⟩
@[simp] theorem t102_size : t102.size = 4 := rfl
@[simp] theorem t102_bytes : t102.bytes = 32 := rfl
@[simp] theorem t102_z : t102.z = .agg [.lit (.int .i64 0), .lit (.int .i64 0), .lit (.int .i64 0), .lit (.int .i64 0)] := rfl
@[simp] theorem t102_y : t102.y = yTEntry := rfl
@[simp] theorem t102_kind : t102.kind = .st [(0, 3), (1, 3), (2, 3), (3, 3)] := rfl
@[simp] theorem t102_cmp : t102.cmp = true := rfl
/-- laws.Entry = loop.example/g03007/laws.Entry -/
def t104 : TI := ⟨4, 32, .agg #[.int .i64 0, .int .i64 0, .int .i64 0, .int .i64 0], .agg [.lit (.int .i64 0), .lit (.int .i64 0), .lit (.int .i64 0), .lit (.int .i64 0)], yTEntry, .st [(0, 3), (1, 3), (2, 3), (3, 3)], true⟩
@[simp] theorem t104_size : t104.size = 4 := rfl
@[simp] theorem t104_bytes : t104.bytes = 32 := rfl
@[simp] theorem t104_z : t104.z = .agg [.lit (.int .i64 0), .lit (.int .i64 0), .lit (.int .i64 0), .lit (.int .i64 0)] := rfl
@[simp] theorem t104_y : t104.y = yTEntry := rfl
@[simp] theorem t104_kind : t104.kind = .st [(0, 3), (1, 3), (2, 3), (3, 3)] := rfl
@[simp] theorem t104_cmp : t104.cmp = true := rfl
/-- [2]int -/
def t105 : TI := ⟨2, 16, .agg #[.int .i64 0, .int .i64 0], .agg [.lit (.int .i64 0), .lit (.int .i64 0)], .any, .arr 2 3, false⟩
@[simp] theorem t105_size : t105.size = 2 := rfl
@[simp] theorem t105_bytes : t105.bytes = 16 := rfl
@[simp] theorem t105_z : t105.z = .agg [.lit (.int .i64 0), .lit (.int .i64 0)] := rfl
@[simp] theorem t105_y : t105.y = .any := rfl
@[simp] theorem t105_kind : t105.kind = .arr 2 3 := rfl
@[simp] theorem t105_cmp : t105.cmp = false := rfl
/-- [4]func(impl.Find) bool -/
def t110 : TI := ⟨4, 32, .agg #[.nilFunc, .nilFunc, .nilFunc, .nilFunc], .agg [.lit .nilFunc, .lit .nilFunc, .lit .nilFunc, .lit .nilFunc], .any, .arr 4 71, false⟩
@[simp] theorem t110_size : t110.size = 4 := rfl
@[simp] theorem t110_bytes : t110.bytes = 32 := rfl
@[simp] theorem t110_z : t110.z = .agg [.lit .nilFunc, .lit .nilFunc, .lit .nilFunc, .lit .nilFunc] := rfl
@[simp] theorem t110_y : t110.y = .any := rfl
@[simp] theorem t110_kind : t110.kind = .arr 4 71 := rfl
@[simp] theorem t110_cmp : t110.cmp = false := rfl
/-- []impl.reportOption -/
def t112 : TI := ⟨1, 24, .slice none 0 0, .sl true 0 .any [], .any, .slice 80, false⟩
@[simp] theorem t112_size : t112.size = 1 := rfl
@[simp] theorem t112_bytes : t112.bytes = 24 := rfl
@[simp] theorem t112_z : t112.z = .sl true 0 .any [] := rfl
@[simp] theorem t112_y : t112.y = .any := rfl
@[simp] theorem t112_kind : t112.kind = .slice 80 := rfl
@[simp] theorem t112_cmp : t112.cmp = false := rfl
/-- *impl.Report -/
def t113 : TI := ⟨1, 8, .pointer none, .lit (.pointer none), .lit (.pointer none), .ptr 33, false⟩
@[simp] theorem t113_size : t113.size = 1 := rfl
@[simp] theorem t113_bytes : t113.bytes = 8 := rfl
@[simp] theorem t113_z : t113.z = .lit (.pointer none) := rfl
@[simp] theorem t113_y : t113.y = .lit (.pointer none) := rfl
@[simp] theorem t113_kind : t113.kind = .ptr 33 := rfl
@[simp] theorem t113_cmp : t113.cmp = false := rfl
/-- [][]int -/
def t120 : TI := ⟨1, 24, .slice none 0 0, .sl true 0 .any [], yLLI, .slice 26, false⟩
@[simp] theorem t120_size : t120.size = 1 := rfl
@[simp] theorem t120_bytes : t120.bytes = 24 := rfl
@[simp] theorem t120_z : t120.z = .sl true 0 .any [] := rfl
@[simp] theorem t120_y : t120.y = yLLI := rfl
@[simp] theorem t120_kind : t120.kind = .slice 26 := rfl
@[simp] theorem t120_cmp : t120.cmp = false := rfl
/-- uint -/
def t123 : TI := ⟨1, 8, .int .u64 0, .lit (.int .u64 0), .lit (.int .u64 0), .int .u64, false⟩
@[simp] theorem t123_size : t123.size = 1 := rfl
@[simp] theorem t123_bytes : t123.bytes = 8 := rfl
@[simp] theorem t123_z : t123.z = .lit (.int .u64 0) := rfl
@[simp] theorem t123_y : t123.y = .lit (.int .u64 0) := rfl
@[simp] theorem t123_kind : t123.kind = .int .u64 := rfl
@[simp] theorem t123_cmp : t123.cmp = false := rfl
/-- struct { with impl.Span } -/
def t126 : TI := ⟨2, 16, .agg #[.int .i64 0, .int .i64 0], .agg [.lit (.int .i64 0), .lit (.int .i64 0)], yTMeeting, .st [(0, 31)], true⟩
@[simp] theorem t126_size : t126.size = 2 := rfl
@[simp] theorem t126_bytes : t126.bytes = 16 := rfl
@[simp] theorem t126_z : t126.z = .agg [.lit (.int .i64 0), .lit (.int .i64 0)] := rfl
@[simp] theorem t126_y : t126.y = yTMeeting := rfl
@[simp] theorem t126_kind : t126.kind = .st [(0, 31)] := rfl
@[simp] theorem t126_cmp : t126.cmp = true := rfl
/-- impl.meeting = loop.example/g03007/impl.meeting -/
def t127 : TI := ⟨2, 16, .agg #[.int .i64 0, .int .i64 0], .agg [.lit (.int .i64 0), .lit (.int .i64 0)], yTMeeting, .st [(0, 31)], true⟩
@[simp] theorem t127_size : t127.size = 2 := rfl
@[simp] theorem t127_bytes : t127.bytes = 16 := rfl
@[simp] theorem t127_z : t127.z = .agg [.lit (.int .i64 0), .lit (.int .i64 0)] := rfl
@[simp] theorem t127_y : t127.y = yTMeeting := rfl
@[simp] theorem t127_kind : t127.kind = .st [(0, 31)] := rfl
@[simp] theorem t127_cmp : t127.cmp = true := rfl
/-- slices.sortedHint -/
def t130 : TI := ⟨1, 8, .int .i64 0, .lit (.int .i64 0), .lit (.int .i64 0), .int .i64, false⟩
@[simp] theorem t130_size : t130.size = 1 := rfl
@[simp] theorem t130_bytes : t130.bytes = 8 := rfl
@[simp] theorem t130_z : t130.z = .lit (.int .i64 0) := rfl
@[simp] theorem t130_y : t130.y = .lit (.int .i64 0) := rfl
@[simp] theorem t130_kind : t130.kind = .int .i64 := rfl
@[simp] theorem t130_cmp : t130.cmp = false := rfl
/-- uint32 -/
def t137 : TI := ⟨1, 4, .int .u32 0, .lit (.int .u32 0), .lit (.int .u32 0), .int .u32, false⟩
@[simp] theorem t137_size : t137.size = 1 := rfl
@[simp] theorem t137_bytes : t137.bytes = 4 := rfl
@[simp] theorem t137_z : t137.z = .lit (.int .u32 0) := rfl
@[simp] theorem t137_y : t137.y = .lit (.int .u32 0) := rfl
@[simp] theorem t137_kind : t137.kind = .int .u32 := rfl
@[simp] theorem t137_cmp : t137.cmp = false := rfl
/-- uint64 -/
def t139 : TI := ⟨1, 8, .int .u64 0, .lit (.int .u64 0), .lit (.int .u64 0), .int .u64, false⟩
@[simp] theorem t139_size : t139.size = 1 := rfl
@[simp] theorem t139_bytes : t139.bytes = 8 := rfl
@[simp] theorem t139_z : t139.z = .lit (.int .u64 0) := rfl
@[simp] theorem t139_y : t139.y = .lit (.int .u64 0) := rfl
@[simp] theorem t139_kind : t139.kind = .int .u64 := rfl
@[simp] theorem t139_cmp : t139.cmp = false := rfl
/-- interface { impl.applyTo(impl.Span) impl.Span } -/
def t140 : TI := ⟨1, 16, .nilIface, .lit .nilIface, .lit .nilIface, .iface, false⟩
@[simp] theorem t140_size : t140.size = 1 := rfl
@[simp] theorem t140_bytes : t140.bytes = 16 := rfl
@[simp] theorem t140_z : t140.z = .lit .nilIface := rfl
@[simp] theorem t140_y : t140.y = .lit .nilIface := rfl
@[simp] theorem t140_kind : t140.kind = .iface := rfl
@[simp] theorem t140_cmp : t140.cmp = false := rfl
/-- impl.spanChange = loop.example/g03007/impl.spanChange -/
def t141 : TI := ⟨1, 16, .nilIface, .lit .nilIface, .lit .nilIface, .iface, false⟩
@[simp] theorem t141_size : t141.size = 1 := rfl
@[simp] theorem t141_bytes : t141.bytes = 16 := rfl
@[simp] theorem t141_z : t141.z = .lit .nilIface := rfl
@[simp] theorem t141_y : t141.y = .lit .nilIface := rfl
@[simp] theorem t141_kind : t141.kind = .iface := rfl
@[simp] theorem t141_cmp : t141.cmp = false := rfl
/-- slices.xorshift -/
def t145 : TI := ⟨1, 8, .int .u64 0, .lit (.int .u64 0), .lit (.int .u64 0), .int .u64, false⟩
@[simp] theorem t145_size : t145.size = 1 := rfl
@[simp] theorem t145_bytes : t145.bytes = 8 := rfl
@[simp] theorem t145_z : t145.z = .lit (.int .u64 0) := rfl
@[simp] theorem t145_y : t145.y = .lit (.int .u64 0) := rfl
@[simp] theorem t145_kind : t145.kind = .int .u64 := rfl
@[simp] theorem t145_cmp : t145.cmp = false := rfl
/-- *int -/
def t149 : TI := ⟨1, 8, .pointer none, .lit (.pointer none), .lit (.pointer none), .ptr 3, false⟩
@[simp] theorem t149_size : t149.size = 1 := rfl
@[simp] theorem t149_bytes : t149.bytes = 8 := rfl
@[simp] theorem t149_z : t149.z = .lit (.pointer none) := rfl
@[simp] theorem t149_y : t149.y = .lit (.pointer none) := rfl
@[simp] theorem t149_kind : t149.kind = .ptr 3 := rfl
@[simp] theorem t149_cmp : t149.cmp = false := rfl
/-- impl.covering = loop.example/g03007/impl.covering -/
def t151 : TI := ⟨2, 16, .agg #[.int .i64 0, .int .i64 0], .agg [.lit (.int .i64 0), .lit (.int .i64 0)], yTMeeting, .st [(0, 31)], true⟩
@[simp] theorem t151_size : t151.size = 2 := rfl
@[simp] theorem t151_bytes : t151.bytes = 16 := rfl
@[simp] theorem t151_z : t151.z = .agg [.lit (.int .i64 0), .lit (.int .i64 0)] := rfl
@[simp] theorem t151_y : t151.y = yTMeeting := rfl
@[simp] theorem t151_kind : t151.kind = .st [(0, 31)] := rfl
@[simp] theorem t151_cmp : t151.cmp = true := rfl
/-- struct { by int } -/
def t152 : TI := ⟨1, 8, .agg #[.int .i64 0], .agg [.lit (.int .i64 0)], yTWidening, .st [(0, 3)], true⟩
@[simp] theorem t152_size : t152.size = 1 := rfl
@[simp] theorem t152_bytes : t152.bytes = 8 := rfl
@[simp] theorem t152_z : t152.z = .agg [.lit (.int .i64 0)] := rfl
@[simp] theorem t152_y : t152.y = yTWidening := rfl
@[simp] theorem t152_kind : t152.kind = .st [(0, 3)] := rfl
@[simp] theorem t152_cmp : t152.cmp = true := rfl
/-- impl.widening = loop.example/g03007/impl.widening -/
def t153 : TI := ⟨1, 8, .agg #[.int .i64 0], .agg [.lit (.int .i64 0)], yTWidening, .st [(0, 3)], true⟩
@[simp] theorem t153_size : t153.size = 1 := rfl
@[simp] theorem t153_bytes : t153.bytes = 8 := rfl
@[simp] theorem t153_z : t153.z = .agg [.lit (.int .i64 0)] := rfl
@[simp] theorem t153_y : t153.y = yTWidening := rfl
@[simp] theorem t153_kind : t153.kind = .st [(0, 3)] := rfl
@[simp] theorem t153_cmp : t153.cmp = true := rfl
/-- *slices.xorshift -/
def t154 : TI := ⟨1, 8, .pointer none, .lit (.pointer none), .lit (.pointer none), .ptr 145, false⟩
@[simp] theorem t154_size : t154.size = 1 := rfl
@[simp] theorem t154_bytes : t154.bytes = 8 := rfl
@[simp] theorem t154_z : t154.z = .lit (.pointer none) := rfl
@[simp] theorem t154_y : t154.y = .lit (.pointer none) := rfl
@[simp] theorem t154_kind : t154.kind = .ptr 145 := rfl
@[simp] theorem t154_cmp : t154.cmp = false := rfl
/-- func(unsafe.Pointer, unsafe.Pointer) bool -/
def t166 : TI := ⟨1, 8, .nilFunc, .lit .nilFunc, .lit .nilFunc, .func, false⟩
@[simp] theorem t166_size : t166.size = 1 := rfl
@[simp] theorem t166_bytes : t166.bytes = 8 := rfl
@[simp] theorem t166_z : t166.z = .lit .nilFunc := rfl
@[simp] theorem t166_y : t166.y = .lit .nilFunc := rfl
@[simp] theorem t166_kind : t166.kind = .func := rfl
@[simp] theorem t166_cmp : t166.cmp = false := rfl
/-- *uint8 -/
def t167 : TI := ⟨1, 8, .pointer none, .lit (.pointer none), .lit (.pointer none), .ptr 5, false⟩
@[simp] theorem t167_size : t167.size = 1 := rfl
@[simp] theorem t167_bytes : t167.bytes = 8 := rfl
@[simp] theorem t167_z : t167.z = .lit (.pointer none) := rfl
@[simp] theorem t167_y : t167.y = .lit (.pointer none) := rfl
@[simp] theorem t167_kind : t167.kind = .ptr 5 := rfl
@[simp] theorem t167_cmp : t167.cmp = false := rfl
/-- struct { Size_ uintptr; PtrBytes uintptr; Hash uint32; TFlag abi.TFlag; Align_ uint8; FieldAlign_ uint8; Kind_ abi.Kind; Equal func(unsafe.Pointer, unsafe.Pointer) bool; GCData *uint8; Str abi.NameOff; PtrToThis abi.TypeOff } -/
def t170 : TI := ⟨11, 48, .agg #[.int .u64 0, .int .u64 0, .int .u32 0, .int .u8 0, .int .u8 0, .int .u8 0, .int .u8 0, .nilFunc, .pointer none, .int .i32 0, .int .i32 0], .agg [.lit (.int .u64 0), .lit (.int .u64 0), .lit (.int .u32 0), .lit (.int .u8 0), .lit (.int .u8 0), .lit (.int .u8 0), .lit (.int .u8 0), .lit .nilFunc, .lit (.pointer none), .lit (.int .i32 0), .lit (.int .i32 0)], .any, .st [(0, 12), (1, 12), (2, 137), (3, 164), (4, 5), (5, 5), (6, 165), (7, 166), (8, 167), (9, 168), (10, 169)], false⟩
@[simp] theorem t170_size : t170.size = 11 := rfl
@[simp] theorem t170_bytes : t170.bytes = 48 := rfl
@[simp] theorem t170_z : t170.z = .agg [.lit (.int .u64 0), .lit (.int .u64 0), .lit (.int .u32 0), .lit (.int .u8 0), .lit (.int .u8 0), .lit (.int .u8 0), .lit (.int .u8 0), .lit .nilFunc, .lit (.pointer none), .lit (.int .i32 0), .lit (.int .i32 0)] := rfl
@[simp] theorem t170_y : t170.y = .any := rfl
@[simp] theorem t170_kind : t170.kind = .st [(0, 12), (1, 12), (2, 137), (3, 164), (4, 5), (5, 5), (6, 165), (7, 166), (8, 167), (9, 168), (10, 169)] := rfl
@[simp] theorem t170_cmp : t170.cmp = false := rfl
/-- struct { kind int; colour int; size int; place int } -/
def t174 : TI := ⟨4, 32, .agg #[.int .i64 0, .int .i64 0, .int .i64 0, .int .i64 0], .agg [.lit (.int .i64 0), .lit (.int .i64 0), .lit (.int .i64 0), .lit (.int .i64 0)], .any, .st [(0, 3), (1, 3), (2, 3), (3, 3)], true⟩
@[simp] theorem t174_size : t174.size = 4 := rfl
@[simp] theorem t174_bytes : t174.bytes = 32 := rfl
@[simp] theorem t174_z : t174.z = .agg [.lit (.int .i64 0), .lit (.int .i64 0), .lit (.int .i64 0), .lit (.int .i64 0)] := rfl
@[simp] theorem t174_y : t174.y = .any := rfl
@[simp] theorem t174_kind : t174.kind = .st [(0, 3), (1, 3), (2, 3), (3, 3)] := rfl
@[simp] theorem t174_cmp : t174.cmp = true := rfl
theorem t2_ok : t2.ok Try.prog 2 := ⟨by kernel_rfl, by kernel_rfl, by kernel_rfl, Try.underlying2, (fun h => by cases h), ⟨rfl, rfl, rfl, rfl, fun F h β => by simp [t2, Rep, Reps]⟩⟩
theorem t3_ok : t3.ok Try.prog 3 := ⟨by kernel_rfl, by kernel_rfl, by kernel_rfl, Try.underlying3, (fun h => by cases h), ⟨rfl, rfl, rfl, rfl, fun F h β => by simp [t3, Rep, Reps]⟩⟩
theorem t4_ok : t4.ok Try.prog 4 := ⟨by kernel_rfl, by kernel_rfl, by kernel_rfl, Try.underlying4, (fun h => by cases h), ⟨rfl, rfl, rfl, rfl, fun F h β => by simp [t4, Rep, Reps]⟩⟩
theorem t5_ok : t5.ok Try.prog 5 := ⟨by kernel_rfl, by kernel_rfl, by kernel_rfl, Try.underlying5, (fun h => by cases h), ⟨rfl, rfl, rfl, rfl, fun F h β => by simp [t5, Rep, Reps]⟩⟩
theorem t9_ok : t9.ok Try.prog 9 := ⟨by kernel_rfl, by kernel_rfl, by kernel_rfl, Try.underlying9, (fun h => by cases h), ⟨rfl, rfl, rfl, rfl, fun F h β => by simp [t9, Rep, Reps]⟩⟩
theorem t12_ok : t12.ok Try.prog 12 := ⟨by kernel_rfl, by kernel_rfl, by kernel_rfl, Try.underlying12, (fun h => by cases h), ⟨rfl, rfl, rfl, rfl, fun F h β => by simp [t12, Rep, Reps]⟩⟩
theorem t20_ok : t20.ok Try.prog 20 := ⟨by kernel_rfl, by kernel_rfl, by kernel_rfl, ⟨_, Try.underlying20⟩, (fun h => by cases h), ⟨rfl, rfl, rfl, rfl, fun F h β => by simp [t20, Rep, Reps]⟩⟩
theorem t21_ok : t21.ok Try.prog 21 := ⟨by kernel_rfl, by kernel_rfl, by kernel_rfl, Try.underlying21, (fun h => by cases h), ⟨rfl, rfl, rfl, rfl, fun F h β => by simp [t21, Rep, Reps]⟩⟩
theorem t22_ok : t22.ok Try.prog 22 := ⟨by kernel_rfl, by kernel_rfl, by kernel_rfl, ⟨_, Try.underlying22, rfl⟩, (fun _ => eqInts_of (by kernel_rfl) (by kernel_rfl) (by kernel_rfl)), ⟨rfl, rfl, rfl, rfl, fun F h β => by simp [t22, Rep, Reps]⟩⟩
theorem t23_ok : t23.ok Try.prog 23 := ⟨by kernel_rfl, by kernel_rfl, by kernel_rfl, ⟨_, Try.underlying23, rfl⟩, (fun _ => eqInts_of (by kernel_rfl) (by kernel_rfl) (by kernel_rfl)), ⟨rfl, rfl, rfl, rfl, fun F h β => by simp [t23, Rep, Reps]⟩⟩
theorem t24_ok : t24.ok Try.prog 24 := ⟨by kernel_rfl, by kernel_rfl, by kernel_rfl, ⟨_, Try.underlying24, rfl⟩, (fun _ => eqInts_of (by kernel_rfl) (by kernel_rfl) (by kernel_rfl)), ⟨rfl, rfl, rfl, rfl, fun F h β => by simp [t24, Rep, Reps]⟩⟩
theorem t25_ok : t25.ok Try.prog 25 := ⟨by kernel_rfl, by kernel_rfl, by kernel_rfl, ⟨_, Try.underlying25, rfl⟩, (fun _ => eqInts_of (by kernel_rfl) (by kernel_rfl) (by kernel_rfl)), ⟨rfl, rfl, rfl, rfl, fun F h β => by simp [t25, Rep, Reps]⟩⟩
theorem t26_ok : t26.ok Try.prog 26 := ⟨by kernel_rfl, by kernel_rfl, by kernel_rfl, Try.underlying26, (fun h => by cases h), ⟨rfl, rfl, rfl, rfl, fun F h β => by simp [t26, Rep, Reps]⟩⟩
theorem t27_ok : t27.ok Try.prog 27 := ⟨by kernel_rfl, by kernel_rfl, by kernel_rfl, ⟨_, Try.underlying27, rfl⟩, (fun h => by cases h), ⟨rfl, rfl, rfl, rfl, fun F h β => by
    show Rep F h β t27.z t27.zero
    simp only [t27, Rep, Reps]
    exact ⟨_, rfl, _, _, rfl, (.inl ⟨by trivial, none, 0, by trivial, by intros; rfl⟩), _, _, rfl, (by trivial), _, _, rfl, (.inl ⟨by trivial, none, 0, by trivial, by intros; rfl⟩), _, _, rfl, (by trivial), rfl⟩⟩⟩
theorem t28_ok : t28.ok Try.prog 28 := ⟨by kernel_rfl, by kernel_rfl, by kernel_rfl, ⟨_, Try.underlying28, rfl⟩, (fun h => by cases h), ⟨rfl, rfl, rfl, rfl, fun F h β => by
    show Rep F h β t28.z t28.zero
    simp only [t28, Rep, Reps]
    exact ⟨_, rfl, _, _, rfl, (.inl ⟨by trivial, none, 0, by trivial, by intros; rfl⟩), _, _, rfl, (by trivial), _, _, rfl, (.inl ⟨by trivial, none, 0, by trivial, by intros; rfl⟩), _, _, rfl, (by trivial), rfl⟩⟩⟩
theorem t30_ok : t30.ok Try.prog 30 := ⟨by kernel_rfl, by kernel_rfl, by kernel_rfl, ⟨_, Try.underlying30, rfl⟩, (fun _ => eqInts_of (by kernel_rfl) (by kernel_rfl) (by kernel_rfl)), ⟨rfl, rfl, rfl, rfl, fun F h β => by simp [t30, Rep, Reps]⟩⟩
theorem t31_ok : t31.ok Try.prog 31 := ⟨by kernel_rfl, by kernel_rfl, by kernel_rfl, ⟨_, Try.underlying31, rfl⟩, (fun _ => eqInts_of (by kernel_rfl) (by kernel_rfl) (by kernel_rfl)), ⟨rfl, rfl, rfl, rfl, fun F h β => by simp [t31, Rep, Reps]⟩⟩
theorem t32_ok : t32.ok Try.prog 32 := ⟨by kernel_rfl, by kernel_rfl, by kernel_rfl, ⟨_, Try.underlying32, rfl⟩, (fun h => by cases h), ⟨rfl, rfl, rfl, rfl, fun F h β => by
    show Rep F h β t32.z t32.zero
    simp only [t32, Rep, Reps]
    exact ⟨_, rfl, _, _, rfl, (by trivial), _, _, rfl, (by trivial), _, _, rfl, (.inl ⟨by trivial, none, 0, by trivial, by intros; rfl⟩), _, _, rfl, (by trivial), _, _, rfl, (by trivial), _, _, rfl, (.inl ⟨by trivial, none, 0, by trivial, by intros; rfl⟩), _, _, rfl, (by trivial), _, _, rfl, (by trivial), rfl⟩⟩⟩
theorem t33_ok : t33.ok Try.prog 33 := ⟨by kernel_rfl, by kernel_rfl, by kernel_rfl, ⟨_, Try.underlying33, rfl⟩, (fun h => by cases h), ⟨rfl, rfl, rfl, rfl, fun F h β => by
    show Rep F h β t33.z t33.zero
    simp only [t33, Rep, Reps]
    exact ⟨_, rfl, _, _, rfl, (by trivial), _, _, rfl, (by trivial), _, _, rfl, (.inl ⟨by trivial, none, 0, by trivial, by intros; rfl⟩), _, _, rfl, (by trivial), _, _, rfl, (by trivial), _, _, rfl, (.inl ⟨by trivial, none, 0, by trivial, by intros; rfl⟩), _, _, rfl, (by trivial), _, _, rfl, (by trivial), rfl⟩⟩⟩
theorem t36_ok : t36.ok Try.prog 36 := ⟨by kernel_rfl, by kernel_rfl, by kernel_rfl, ⟨_, Try.underlying36, rfl⟩, (fun _ => eqInts_of (by kernel_rfl) (by kernel_rfl) (by kernel_rfl)), ⟨rfl, rfl, rfl, rfl, fun F h β => by simp [t36, Rep, Reps]⟩⟩
theorem t37_ok : t37.ok Try.prog 37 := ⟨by kernel_rfl, by kernel_rfl, by kernel_rfl, ⟨_, Try.underlying37, rfl⟩, (fun _ => eqInts_of (by kernel_rfl) (by kernel_rfl) (by kernel_rfl)), ⟨rfl, rfl, rfl, rfl, fun F h β => by simp [t37, Rep, Reps]⟩⟩
theorem t38_ok : t38.ok Try.prog 38 := ⟨by kernel_rfl, by kernel_rfl, by kernel_rfl, ⟨_, Try.underlying38, rfl⟩, (fun _ => eqInts_of (by kernel_rfl) (by kernel_rfl) (by kernel_rfl)), ⟨rfl, rfl, rfl, rfl, fun F h β => by simp [t38, Rep, Reps]⟩⟩
theorem t40_ok : t40.ok Try.prog 40 := ⟨by kernel_rfl, by kernel_rfl, by kernel_rfl, ⟨_, Try.underlying40, rfl⟩, (fun h => by cases h), ⟨rfl, rfl, rfl, rfl, fun F h β => by
    show Rep F h β t40.z t40.zero
    simp only [t40, Rep, Reps]
    exact ⟨_, rfl, _, _, rfl, (.inl ⟨by trivial, none, 0, by trivial, by intros; rfl⟩), _, _, rfl, (by trivial), _, _, rfl, (.inl ⟨by trivial, none, 0, by trivial, by intros; rfl⟩), _, _, rfl, (by trivial), rfl⟩⟩⟩
theorem t50_ok : t50.ok Try.prog 50 := ⟨by kernel_rfl, by kernel_rfl, by kernel_rfl, Try.underlying50, (fun h => by cases h), ⟨rfl, rfl, rfl, rfl, fun F h β => by simp [t50, Rep, Reps]⟩⟩
theorem t53_ok : t53.ok Try.prog 53 := ⟨by kernel_rfl, by kernel_rfl, by kernel_rfl, Try.underlying53, (fun h => by cases h), ⟨rfl, rfl, rfl, rfl, fun F h β => by simp [t53, Rep, Reps]⟩⟩
theorem t57_ok : t57.ok Try.prog 57 := ⟨by kernel_rfl, by kernel_rfl, by kernel_rfl, ⟨_, Try.underlying57, rfl⟩, (fun _ => eqInts_of (by kernel_rfl) (by kernel_rfl) (by kernel_rfl)), ⟨rfl, rfl, rfl, rfl, fun F h β => by simp [t57, Rep, Reps]⟩⟩
theorem t63_ok : t63.ok Try.prog 63 := ⟨by kernel_rfl, by kernel_rfl, by kernel_rfl, Try.underlying63, (fun h => by cases h), ⟨rfl, rfl, rfl, rfl, fun F h β => by simp [t63, Rep, Reps]⟩⟩
theorem t66_ok : t66.ok Try.prog 66 := ⟨by kernel_rfl, by kernel_rfl, by kernel_rfl, Try.underlying66, (fun h => by cases h), ⟨rfl, rfl, rfl, rfl, fun F h β => by simp [t66, Rep, Reps]⟩⟩
theorem t71_ok : t71.ok Try.prog 71 := ⟨by kernel_rfl, by kernel_rfl, by kernel_rfl, ⟨_, _, _, Try.underlying71⟩, (fun h => by cases h), ⟨rfl, rfl, rfl, rfl, fun F h β => by simp [t71, Rep, Reps]⟩⟩
theorem t80_ok : t80.ok Try.prog 80 := ⟨by kernel_rfl, by kernel_rfl, by kernel_rfl, ⟨_, _, _, Try.underlying80⟩, (fun h => by cases h), ⟨rfl, rfl, rfl, rfl, fun F h β => by simp [t80, Rep, Reps]⟩⟩
theorem t89_ok : t89.ok Try.prog 89 := ⟨by kernel_rfl, by kernel_rfl, by kernel_rfl, ⟨_, Try.underlying89, rfl⟩, (fun _ => eqInts_of (by kernel_rfl) (by kernel_rfl) (by kernel_rfl)), ⟨rfl, rfl, rfl, rfl, fun F h β => by simp [t89, Rep, Reps]⟩⟩
theorem t90_ok : t90.ok Try.prog 90 := ⟨by kernel_rfl, by kernel_rfl, by kernel_rfl, ⟨_, Try.underlying90, rfl⟩, (fun _ => eqInts_of (by kernel_rfl) (by kernel_rfl) (by kernel_rfl)), ⟨rfl, rfl, rfl, rfl, fun F h β => by simp [t90, Rep, Reps]⟩⟩
theorem t92_ok : t92.ok Try.prog 92 := ⟨by kernel_rfl, by kernel_rfl, by kernel_rfl, ⟨_, Try.underlying92, rfl⟩, (fun _ => eqInts_of (by kernel_rfl) (by kernel_rfl) (by kernel_rfl)), ⟨rfl, rfl, rfl, rfl, fun F h β => by simp [t92, Rep, Reps]⟩⟩
theorem t101_ok : t101.ok Try.prog 101 := ⟨by kernel_rfl, by kernel_rfl, by kernel_rfl, ⟨_, Try.underlying101, rfl⟩, (fun _ => eqInts_of (by kernel_rfl) (by kernel_rfl) (by kernel_rfl)), ⟨rfl, rfl, rfl, rfl, fun F h β => by simp [t101, Rep, Reps]⟩⟩
theorem t102_ok : t102.ok Try.prog 102 := ⟨by kernel_rfl, by kernel_rfl, by kernel_rfl, ⟨_, Try.underlying102, rfl⟩, (fun _ => eqInts_of (by kernel_rfl) (by kernel_rfl) (by kernel_rfl)), ⟨rfl, rfl, rfl, rfl, fun F h β => by simp [t102, Rep, Reps]⟩⟩
theorem t104_ok : t104.ok Try.prog 104 := ⟨by kernel_rfl, by kernel_rfl, by kernel_rfl, ⟨_, Try.underlying104, rfl⟩, (fun _ => eqInts_of (by kernel_rfl) (by kernel_rfl) (by kernel_rfl)), ⟨rfl, rfl, rfl, rfl, fun F h β => by simp [t104, Rep, Reps]⟩⟩
theorem t105_ok : t105.ok Try.prog 105 := ⟨by kernel_rfl, by kernel_rfl, by kernel_rfl, Try.underlying105, (fun h => by cases h), ⟨rfl, rfl, rfl, rfl, fun F h β => by simp [t105, Rep, Reps]⟩⟩
theorem t110_ok : t110.ok Try.prog 110 := ⟨by kernel_rfl, by kernel_rfl, by kernel_rfl, Try.underlying110, (fun h => by cases h), ⟨rfl, rfl, rfl, rfl, fun F h β => by simp [t110, Rep, Reps]⟩⟩
theorem t112_ok : t112.ok Try.prog 112 := ⟨by kernel_rfl, by kernel_rfl, by kernel_rfl, Try.underlying112, (fun h => by cases h), ⟨rfl, rfl, rfl, rfl, fun F h β => by simp [t112, Rep, Reps]⟩⟩
theorem t113_ok : t113.ok Try.prog 113 := ⟨by kernel_rfl, by kernel_rfl, by kernel_rfl, Try.underlying113, (fun h => by cases h), ⟨rfl, rfl, rfl, rfl, fun F h β => by simp [t113, Rep, Reps]⟩⟩
theorem t120_ok : t120.ok Try.prog 120 := ⟨by kernel_rfl, by kernel_rfl, by kernel_rfl, Try.underlying120, (fun h => by cases h), ⟨rfl, rfl, rfl, rfl, fun F h β => by simp [t120, Rep, Reps]⟩⟩
theorem t123_ok : t123.ok Try.prog 123 := ⟨by kernel_rfl, by kernel_rfl, by kernel_rfl, Try.underlying123, (fun h => by cases h), ⟨rfl, rfl, rfl, rfl, fun F h β => by simp [t123, Rep, Reps]⟩⟩
theorem t126_ok : t126.ok Try.prog 126 := ⟨by kernel_rfl, by kernel_rfl, by kernel_rfl, ⟨_, Try.underlying126, rfl⟩, (fun _ => eqInts_of (by kernel_rfl) (by kernel_rfl) (by kernel_rfl)), ⟨rfl, rfl, rfl, rfl, fun F h β => by simp [t126, Rep, Reps]⟩⟩
theorem t127_ok : t127.ok Try.prog 127 := ⟨by kernel_rfl, by kernel_rfl, by kernel_rfl, ⟨_, Try.underlying127, rfl⟩, (fun _ => eqInts_of (by kernel_rfl) (by kernel_rfl) (by kernel_rfl)), ⟨rfl, rfl, rfl, rfl, fun F h β => by simp [t127, Rep, Reps]⟩⟩
theorem t130_ok : t130.ok Try.prog 130 := ⟨by kernel_rfl, by kernel_rfl, by kernel_rfl, Try.underlying130, (fun h => by cases h), ⟨rfl, rfl, rfl, rfl, fun F h β => by simp [t130, Rep, Reps]⟩⟩
theorem t137_ok : t137.ok Try.prog 137 := ⟨by kernel_rfl, by kernel_rfl, by kernel_rfl, Try.underlying137, (fun h => by cases h), ⟨rfl, rfl, rfl, rfl, fun F h β => by simp [t137, Rep, Reps]⟩⟩
theorem t139_ok : t139.ok Try.prog 139 := ⟨by kernel_rfl, by kernel_rfl, by kernel_rfl, Try.underlying139, (fun h => by cases h), ⟨rfl, rfl, rfl, rfl, fun F h β => by simp [t139, Rep, Reps]⟩⟩
theorem t140_ok : t140.ok Try.prog 140 := ⟨by kernel_rfl, by kernel_rfl, by kernel_rfl, ⟨_, Try.underlying140⟩, (fun h => by cases h), ⟨rfl, rfl, rfl, rfl, fun F h β => by simp [t140, Rep, Reps]⟩⟩
theorem t141_ok : t141.ok Try.prog 141 := ⟨by kernel_rfl, by kernel_rfl, by kernel_rfl, ⟨_, Try.underlying141⟩, (fun h => by cases h), ⟨rfl, rfl, rfl, rfl, fun F h β => by simp [t141, Rep, Reps]⟩⟩
theorem t145_ok : t145.ok Try.prog 145 := ⟨by kernel_rfl, by kernel_rfl, by kernel_rfl, Try.underlying145, (fun h => by cases h), ⟨rfl, rfl, rfl, rfl, fun F h β => by simp [t145, Rep, Reps]⟩⟩
theorem t149_ok : t149.ok Try.prog 149 := ⟨by kernel_rfl, by kernel_rfl, by kernel_rfl, Try.underlying149, (fun h => by cases h), ⟨rfl, rfl, rfl, rfl, fun F h β => by simp [t149, Rep, Reps]⟩⟩
theorem t151_ok : t151.ok Try.prog 151 := ⟨by kernel_rfl, by kernel_rfl, by kernel_rfl, ⟨_, Try.underlying151, rfl⟩, (fun _ => eqInts_of (by kernel_rfl) (by kernel_rfl) (by kernel_rfl)), ⟨rfl, rfl, rfl, rfl, fun F h β => by simp [t151, Rep, Reps]⟩⟩
theorem t152_ok : t152.ok Try.prog 152 := ⟨by kernel_rfl, by kernel_rfl, by kernel_rfl, ⟨_, Try.underlying152, rfl⟩, (fun _ => eqInts_of (by kernel_rfl) (by kernel_rfl) (by kernel_rfl)), ⟨rfl, rfl, rfl, rfl, fun F h β => by simp [t152, Rep, Reps]⟩⟩
theorem t153_ok : t153.ok Try.prog 153 := ⟨by kernel_rfl, by kernel_rfl, by kernel_rfl, ⟨_, Try.underlying153, rfl⟩, (fun _ => eqInts_of (by kernel_rfl) (by kernel_rfl) (by kernel_rfl)), ⟨rfl, rfl, rfl, rfl, fun F h β => by simp [t153, Rep, Reps]⟩⟩
theorem t154_ok : t154.ok Try.prog 154 := ⟨by kernel_rfl, by kernel_rfl, by kernel_rfl, Try.underlying154, (fun h => by cases h), ⟨rfl, rfl, rfl, rfl, fun F h β => by simp [t154, Rep, Reps]⟩⟩
theorem t166_ok : t166.ok Try.prog 166 := ⟨by kernel_rfl, by kernel_rfl, by kernel_rfl, ⟨_, _, _, Try.underlying166⟩, (fun h => by cases h), ⟨rfl, rfl, rfl, rfl, fun F h β => by simp [t166, Rep, Reps]⟩⟩
theorem t167_ok : t167.ok Try.prog 167 := ⟨by kernel_rfl, by kernel_rfl, by kernel_rfl, Try.underlying167, (fun h => by cases h), ⟨rfl, rfl, rfl, rfl, fun F h β => by simp [t167, Rep, Reps]⟩⟩
theorem t170_ok : t170.ok Try.prog 170 := ⟨by kernel_rfl, by kernel_rfl, by kernel_rfl, ⟨_, Try.underlying170, rfl⟩, (fun h => by cases h), ⟨rfl, rfl, rfl, rfl, fun F h β => by simp [t170, Rep, Reps]⟩⟩
theorem t174_ok : t174.ok Try.prog 174 := ⟨by kernel_rfl, by kernel_rfl, by kernel_rfl, ⟨_, Try.underlying174, rfl⟩, (fun _ => eqInts_of (by kernel_rfl) (by kernel_rfl) (by kernel_rfl)), ⟨rfl, rfl, rfl, rfl, fun F h β => by simp [t174, Rep, Reps]⟩⟩
def G : Ctx := [(2, t2), (3, t3), (4, t4), (5, t5), (9, t9), (12, t12), (20, t20), (21, t21), (22, t22), (23, t23), (24, t24), (25, t25), (26, t26), (27, t27), (28, t28), (30, t30), (31, t31), (32, t32), (33, t33), (36, t36), (37, t37), (38, t38), (40, t40), (50, t50), (53, t53), (57, t57), (63, t63), (66, t66), (71, t71), (80, t80), (89, t89), (90, t90), (92, t92), (101, t101), (102, t102), (104, t104), (105, t105), (110, t110), (112, t112), (113, t113), (120, t120), (123, t123), (126, t126), (127, t127), (130, t130), (137, t137), (139, t139), (140, t140), (141, t141), (145, t145), (149, t149), (151, t151), (152, t152), (153, t153), (154, t154), (166, t166), (167, t167), (170, t170), (174, t174)]
@[simp] theorem G_2 : G.get 2 = some t2 := rfl
@[simp] theorem G_3 : G.get 3 = some t3 := rfl
@[simp] theorem G_4 : G.get 4 = some t4 := rfl
@[simp] theorem G_5 : G.get 5 = some t5 := rfl
@[simp] theorem G_9 : G.get 9 = some t9 := rfl
@[simp] theorem G_12 : G.get 12 = some t12 := rfl
@[simp] theorem G_20 : G.get 20 = some t20 := rfl
@[simp] theorem G_21 : G.get 21 = some t21 := rfl
@[simp] theorem G_22 : G.get 22 = some t22 := rfl
@[simp] theorem G_23 : G.get 23 = some t23 := rfl
@[simp] theorem G_24 : G.get 24 = some t24 := rfl
@[simp] theorem G_25 : G.get 25 = some t25 := rfl
@[simp] theorem G_26 : G.get 26 = some t26 := rfl
@[simp] theorem G_27 : G.get 27 = some t27 := rfl
@[simp] theorem G_28 : G.get 28 = some t28 := rfl
@[simp] theorem G_30 : G.get 30 = some t30 := rfl
@[simp] theorem G_31 : G.get 31 = some t31 := rfl
@[simp] theorem G_32 : G.get 32 = some t32 := rfl
@[simp] theorem G_33 : G.get 33 = some t33 := rfl
@[simp] theorem G_36 : G.get 36 = some t36 := rfl
@[simp] theorem G_37 : G.get 37 = some t37 := rfl
@[simp] theorem G_38 : G.get 38 = some t38 := rfl
@[simp] theorem G_40 : G.get 40 = some t40 := rfl
@[simp] theorem G_50 : G.get 50 = some t50 := rfl
@[simp] theorem G_53 : G.get 53 = some t53 := rfl
@[simp] theorem G_57 : G.get 57 = some t57 := rfl
@[simp] theorem G_63 : G.get 63 = some t63 := rfl
@[simp] theorem G_66 : G.get 66 = some t66 := rfl
@[simp] theorem G_71 : G.get 71 = some t71 := rfl
@[simp] theorem G_80 : G.get 80 = some t80 := rfl
@[simp] theorem G_89 : G.get 89 = some t89 := rfl
@[simp] theorem G_90 : G.get 90 = some t90 := rfl
@[simp] theorem G_92 : G.get 92 = some t92 := rfl
@[simp] theorem G_101 : G.get 101 = some t101 := rfl
@[simp] theorem G_102 : G.get 102 = some t102 := rfl
@[simp] theorem G_104 : G.get 104 = some t104 := rfl
@[simp] theorem G_105 : G.get 105 = some t105 := rfl
@[simp] theorem G_110 : G.get 110 = some t110 := rfl
@[simp] theorem G_112 : G.get 112 = some t112 := rfl
@[simp] theorem G_113 : G.get 113 = some t113 := rfl
@[simp] theorem G_120 : G.get 120 = some t120 := rfl
@[simp] theorem G_123 : G.get 123 = some t123 := rfl
@[simp] theorem G_126 : G.get 126 = some t126 := rfl
@[simp] theorem G_127 : G.get 127 = some t127 := rfl
@[simp] theorem G_130 : G.get 130 = some t130 := rfl
@[simp] theorem G_137 : G.get 137 = some t137 := rfl
@[simp] theorem G_139 : G.get 139 = some t139 := rfl
@[simp] theorem G_140 : G.get 140 = some t140 := rfl
@[simp] theorem G_141 : G.get 141 = some t141 := rfl
@[simp] theorem G_145 : G.get 145 = some t145 := rfl
@[simp] theorem G_149 : G.get 149 = some t149 := rfl
@[simp] theorem G_151 : G.get 151 = some t151 := rfl
@[simp] theorem G_152 : G.get 152 = some t152 := rfl
@[simp] theorem G_153 : G.get 153 = some t153 := rfl
@[simp] theorem G_154 : G.get 154 = some t154 := rfl
@[simp] theorem G_166 : G.get 166 = some t166 := rfl
@[simp] theorem G_167 : G.get 167 = some t167 := rfl
@[simp] theorem G_170 : G.get 170 = some t170 := rfl
@[simp] theorem G_174 : G.get 174 = some t174 := rfl
theorem G_ok : G.ok Try.prog := by
  intro p hp
  simp only [G, List.mem_cons, List.not_mem_nil, or_false] at hp
  rcases hp with rfl | rfl | rfl | rfl | rfl | rfl | rfl | rfl | rfl | rfl | rfl | rfl | rfl | rfl | rfl | rfl | rfl | rfl | rfl | rfl | rfl | rfl | rfl | rfl | rfl | rfl | rfl | rfl | rfl | rfl | rfl | rfl | rfl | rfl | rfl | rfl | rfl | rfl | rfl | rfl | rfl | rfl | rfl | rfl | rfl | rfl | rfl | rfl | rfl | rfl | rfl | rfl | rfl | rfl | rfl | rfl | rfl | rfl | rfl
  · exact t2_ok
  · exact t3_ok
  · exact t4_ok
  · exact t5_ok
  · exact t9_ok
  · exact t12_ok
  · exact t20_ok
  · exact t21_ok
  · exact t22_ok
  · exact t23_ok
  · exact t24_ok
  · exact t25_ok
  · exact t26_ok
  · exact t27_ok
  · exact t28_ok
  · exact t30_ok
  · exact t31_ok
  · exact t32_ok
  · exact t33_ok
  · exact t36_ok
  · exact t37_ok
  · exact t38_ok
  · exact t40_ok
  · exact t50_ok
  · exact t53_ok
  · exact t57_ok
  · exact t63_ok
  · exact t66_ok
  · exact t71_ok
  · exact t80_ok
  · exact t89_ok
  · exact t90_ok
  · exact t92_ok
  · exact t101_ok
  · exact t102_ok
  · exact t104_ok
  · exact t105_ok
  · exact t110_ok
  · exact t112_ok
  · exact t113_ok
  · exact t120_ok
  · exact t123_ok
  · exact t126_ok
  · exact t127_ok
  · exact t130_ok
  · exact t137_ok
  · exact t139_ok
  · exact t140_ok
  · exact t141_ok
  · exact t145_ok
  · exact t149_ok
  · exact t151_ok
  · exact t152_ok
  · exact t153_ok
  · exact t154_ok
  · exact t166_ok
  · exact t167_ok
  · exact t170_ok
  · exact t174_ok
theorem mix : Try.prog.follows .mixedOrders = true := by kernel_rfl
end Go.Proofs.Ytdiajaijdkohlaa
