/- What is known of the types of this program: their sizes, zero values and parts. -/
import Derived.Test.YtmhbciaolpamaaaRProg
import Derived.Test.YtmhbciaolpamaaaRTY
import Derived.KernelRfl
namespace Go.Proofs.YtmhbciaolpamaaaR
open Go Go.Eng
set_option linter.unusedSimpArgs false
set_option linter.unusedVariables false
set_option maxRecDepth 20000
/-- int64 -/
def t2 : TI := ⟨1, 8, .int .i64 0, .lit (.int .i64 0), .lit (.int .i64 0), .int .i64, false⟩
@[simp] theorem t2_size : t2.size = 1 := rfl
@[simp] theorem t2_bytes : t2.bytes = 8 := rfl
@[simp] theorem t2_z : t2.z = .lit (.int .i64 0) := rfl
@[simp] theorem t2_y : t2.y = .lit (.int .i64 0) := rfl
@[simp] theorem t2_kind : t2.kind = .int .i64 := rfl
@[simp] theorem t2_cmp : t2.cmp = false := rfl
/-- int -/
def t3 : TI := ⟨1, 8, .int .i64 0, .lit (.int .i64 0), .lit (.int .i64 0), .int .i64, false⟩
@[simp] theorem t3_size : t3.size = 1 := rfl
@[simp] theorem t3_bytes : t3.bytes = 8 := rfl
@[simp] theorem t3_z : t3.z = .lit (.int .i64 0) := rfl
@[simp] theorem t3_y : t3.y = .lit (.int .i64 0) := rfl
@[simp] theorem t3_kind : t3.kind = .int .i64 := rfl
@[simp] theorem t3_cmp : t3.cmp = false := rfl
/-- bool -/
def t4 : TI := ⟨1, 1, .bool false, .lit (.bool false), .lit (.bool false), .bool, false⟩
@[simp] theorem t4_size : t4.size = 1 := rfl
@[simp] theorem t4_bytes : t4.bytes = 1 := rfl
@[simp] theorem t4_z : t4.z = .lit (.bool false) := rfl
@[simp] theorem t4_y : t4.y = .lit (.bool false) := rfl
@[simp] theorem t4_kind : t4.kind = .bool := rfl
@[simp] theorem t4_cmp : t4.cmp = false := rfl
/-- uint8 -/
def t5 : TI := ⟨1, 1, .int .u8 0, .lit (.int .u8 0), .lit (.int .u8 0), .int .u8, false⟩
@[simp] theorem t5_size : t5.size = 1 := rfl
@[simp] theorem t5_bytes : t5.bytes = 1 := rfl
@[simp] theorem t5_z : t5.z = .lit (.int .u8 0) := rfl
@[simp] theorem t5_y : t5.y = .lit (.int .u8 0) := rfl
@[simp] theorem t5_kind : t5.kind = .int .u8 := rfl
@[simp] theorem t5_cmp : t5.cmp = false := rfl
/-- string -/
def t9 : TI := ⟨1, 16, .string ⟨#[]⟩, .lit (.string ⟨#[]⟩), .lit (.string ⟨#[]⟩), .str, false⟩
@[simp] theorem t9_size : t9.size = 1 := rfl
@[simp] theorem t9_bytes : t9.bytes = 16 := rfl
@[simp] theorem t9_z : t9.z = .lit (.string ⟨#[]⟩) := rfl
@[simp] theorem t9_y : t9.y = .lit (.string ⟨#[]⟩) := rfl
@[simp] theorem t9_kind : t9.kind = .str := rfl
@[simp] theorem t9_cmp : t9.cmp = false := rfl
/-- uintptr -/
def t12 : TI := ⟨1, 8, .int .u64 0, .lit (.int .u64 0), .lit (.int .u64 0), .int .u64, false⟩
@[simp] theorem t12_size : t12.size = 1 := rfl
@[simp] theorem t12_bytes : t12.bytes = 8 := rfl
@[simp] theorem t12_z : t12.z = .lit (.int .u64 0) := rfl
@[simp] theorem t12_y : t12.y = .lit (.int .u64 0) := rfl
@[simp] theorem t12_kind : t12.kind = .int .u64 := rfl
@[simp] theorem t12_cmp : t12.cmp = false := rfl
/-- interface {} -/
def t20 : TI := ⟨1, 16, .nilIface, .lit .nilIface, .lit .nilIface, .iface, false⟩
@[simp] theorem t20_size : t20.size = 1 := rfl
@[simp] theorem t20_bytes : t20.bytes = 16 := rfl
@[simp] theorem t20_z : t20.z = .lit .nilIface := rfl
@[simp] theorem t20_y : t20.y = .lit .nilIface := rfl
@[simp] theorem t20_kind : t20.kind = .iface := rfl
@[simp] theorem t20_cmp : t20.cmp = false := rfl
/-- int32 -/
def t21 : TI := ⟨1, 4, .int .i32 0, .lit (.int .i32 0), .lit (.int .i32 0), .int .i32, false⟩
@[simp] theorem t21_size : t21.size = 1 := rfl
@[simp] theorem t21_bytes : t21.bytes = 4 := rfl
@[simp] theorem t21_z : t21.z = .lit (.int .i32 0) := rfl
@[simp] theorem t21_y : t21.y = .lit (.int .i32 0) := rfl
@[simp] theorem t21_kind : t21.kind = .int .i32 := rfl
@[simp] theorem t21_cmp : t21.cmp = false := rfl
/-- []uint8 -/
def t25 : TI := ⟨1, 24, .slice none 0 0, .sl true 0 .any [], yLU, .slice 5, false⟩
@[simp] theorem t25_size : t25.size = 1 := rfl
@[simp] theorem t25_bytes : t25.bytes = 24 := rfl
@[simp] theorem t25_z : t25.z = .sl true 0 .any [] := rfl
@[simp] theorem t25_y : t25.y = yLU := rfl
@[simp] theorem t25_kind : t25.kind = .slice 5 := rfl
@[simp] theorem t25_cmp : t25.cmp = false := rfl
/-- []laws.Report -/
def t31 : TI := ⟨1, 24, .slice none 0 0, .sl true 0 .any [], yLTReport, .slice 44, false⟩
@[simp] theorem t31_size : t31.size = 1 := rfl
@[simp] theorem t31_bytes : t31.bytes = 24 := rfl
@[simp] theorem t31_z : t31.z = .sl true 0 .any [] := rfl
@[simp] theorem t31_y : t31.y = yLTReport := rfl
@[simp] theorem t31_kind : t31.kind = .slice 44 := rfl
@[simp] theorem t31_cmp : t31.cmp = false := rfl
/-- []impl.Report -/
def t34 : TI := ⟨1, 24, .slice none 0 0, .sl true 0 .any [], yLTReport, .slice 50, false⟩
@[simp] theorem t34_size : t34.size = 1 := rfl
@[simp] theorem t34_bytes : t34.bytes = 24 := rfl
@[simp] theorem t34_z : t34.z = .sl true 0 .any [] := rfl
@[simp] theorem t34_y : t34.y = yLTReport := rfl
@[simp] theorem t34_kind : t34.kind = .slice 50 := rfl
@[simp] theorem t34_cmp : t34.cmp = false := rfl
/-- []int -/
def t40 : TI := ⟨1, 24, .slice none 0 0, .sl true 0 .any [], yLI, .slice 3, false⟩
@[simp] theorem t40_size : t40.size = 1 := rfl
@[simp] theorem t40_bytes : t40.bytes = 24 := rfl
@[simp] theorem t40_z : t40.z = .sl true 0 .any [] := rfl
@[simp] theorem t40_y : t40.y = yLI := rfl
@[simp] theorem t40_kind : t40.kind = .slice 3 := rfl
@[simp] theorem t40_cmp : t40.cmp = false := rfl
/-- struct { From int; Until int } -/
def t41 : TI := ⟨2, 16, .agg #[.int .i64 0, .int .i64 0], .agg [.lit (.int .i64 0), .lit (.int .i64 0)], yTSpan, .st [(0, 3), (1, 3)], true⟩
@[simp] theorem t41_size : t41.size = 2 := rfl
@[simp] theorem t41_bytes : t41.bytes = 16 := rfl
@[simp] theorem t41_z : t41.z = .agg [.lit (.int .i64 0), .lit (.int .i64 0)] := rfl
@[simp] theorem t41_y : t41.y = yTSpan := rfl
@[simp] theorem t41_kind : t41.kind = .st [(0, 3), (1, 3)] := rfl
@[simp] theorem t41_cmp : t41.cmp = true := rfl
/-- laws.Span = loop.example/g03007/laws.Span -/
def t42 : TI := ⟨2, 16, .agg #[.int .i64 0, .int .i64 0], .agg [.lit (.int .i64 0), .lit (.int .i64 0)], yTSpan, .st [(0, 3), (1, 3)], true⟩
@[simp] theorem t42_size : t42.size = 2 := rfl
@[simp] theorem t42_bytes : t42.bytes = 16 := rfl
@[simp] theorem t42_z : t42.z = .agg [.lit (.int .i64 0), .lit (.int .i64 0)] := rfl
@[simp] theorem t42_y : t42.y = yTSpan := rfl
@[simp] theorem t42_kind : t42.kind = .st [(0, 3), (1, 3)] := rfl
@[simp] theorem t42_cmp : t42.cmp = true := rfl
/-- struct { Id int; Kind int; Colours []int; SizeLow int; SizeHigh int; Places []int; Span laws.Span } -/
def t43 : TI := ⟨8, 96, .agg #[.int .i64 0, .int .i64 0, .slice none 0 0, .int .i64 0, .int .i64 0, .slice none 0 0, .int .i64 0, .int .i64 0], .agg [.lit (.int .i64 0), .lit (.int .i64 0), .sl true 0 .any [], .lit (.int .i64 0), .lit (.int .i64 0), .sl true 0 .any [], .lit (.int .i64 0), .lit (.int .i64 0)], yTReport, .st [(0, 3), (1, 3), (2, 40), (3, 3), (4, 3), (5, 40), (6, 42)], false⟩
@[simp] theorem t43_size : t43.size = 8 := rfl
@[simp] theorem t43_bytes : t43.bytes = 96 := rfl
@[simp] theorem t43_z : t43.z = .agg [.lit (.int .i64 0), .lit (.int .i64 0), .sl true 0 .any [], .lit (.int .i64 0), .lit (.int .i64 0), .sl true 0 .any [], .lit (.int .i64 0), .lit (.int .i64 0)] := rfl
@[simp] theorem t43_y : t43.y = yTReport := rfl
@[simp] theorem t43_kind : t43.kind = .st [(0, 3), (1, 3), (2, 40), (3, 3), (4, 3), (5, 40), (6, 42)] := rfl
@[simp] theorem t43_cmp : t43.cmp = false := rfl
/-- laws.Report = loop.example/g03007/laws.Report -/
def t44 : TI := ⟨8, 96, .agg #[.int .i64 0, .int .i64 0, .slice none 0 0, .int .i64 0, .int .i64 0, .slice none 0 0, .int .i64 0, .int .i64 0], .agg [.lit (.int .i64 0), .lit (.int .i64 0), .sl true 0 .any [], .lit (.int .i64 0), .lit (.int .i64 0), .sl true 0 .any [], .lit (.int .i64 0), .lit (.int .i64 0)], yTReport, .st [(0, 3), (1, 3), (2, 40), (3, 3), (4, 3), (5, 40), (6, 42)], false⟩
@[simp] theorem t44_size : t44.size = 8 := rfl
@[simp] theorem t44_bytes : t44.bytes = 96 := rfl
@[simp] theorem t44_z : t44.z = .agg [.lit (.int .i64 0), .lit (.int .i64 0), .sl true 0 .any [], .lit (.int .i64 0), .lit (.int .i64 0), .sl true 0 .any [], .lit (.int .i64 0), .lit (.int .i64 0)] := rfl
@[simp] theorem t44_y : t44.y = yTReport := rfl
@[simp] theorem t44_kind : t44.kind = .st [(0, 3), (1, 3), (2, 40), (3, 3), (4, 3), (5, 40), (6, 42)] := rfl
@[simp] theorem t44_cmp : t44.cmp = false := rfl
/-- impl.Span = loop.example/g03007/impl.Span -/
def t48 : TI := ⟨2, 16, .agg #[.int .i64 0, .int .i64 0], .agg [.lit (.int .i64 0), .lit (.int .i64 0)], yTSpan, .st [(0, 3), (1, 3)], true⟩
@[simp] theorem t48_size : t48.size = 2 := rfl
@[simp] theorem t48_bytes : t48.bytes = 16 := rfl
@[simp] theorem t48_z : t48.z = .agg [.lit (.int .i64 0), .lit (.int .i64 0)] := rfl
@[simp] theorem t48_y : t48.y = yTSpan := rfl
@[simp] theorem t48_kind : t48.kind = .st [(0, 3), (1, 3)] := rfl
@[simp] theorem t48_cmp : t48.cmp = true := rfl
/-- struct { Id int; Kind int; Colours []int; SizeLow int; SizeHigh int; Places []int; Span impl.Span } -/
def t49 : TI := ⟨8, 96, .agg #[.int .i64 0, .int .i64 0, .slice none 0 0, .int .i64 0, .int .i64 0, .slice none 0 0, .int .i64 0, .int .i64 0], .agg [.lit (.int .i64 0), .lit (.int .i64 0), .sl true 0 .any [], .lit (.int .i64 0), .lit (.int .i64 0), .sl true 0 .any [], .lit (.int .i64 0), .lit (.int .i64 0)], yTReport, .st [(0, 3), (1, 3), (2, 40), (3, 3), (4, 3), (5, 40), (6, 48)], false⟩
@[simp] theorem t49_size : t49.size = 8 := rfl
@[simp] theorem t49_bytes : t49.bytes = 96 := rfl
@[simp] theorem t49_z : t49.z = .agg [.lit (.int .i64 0), .lit (.int .i64 0), .sl true 0 .any [], .lit (.int .i64 0), .lit (.int .i64 0), .sl true 0 .any [], .lit (.int .i64 0), .lit (.int .i64 0)] := rfl
@[simp] theorem t49_y : t49.y = yTReport := rfl
@[simp] theorem t49_kind : t49.kind = .st [(0, 3), (1, 3), (2, 40), (3, 3), (4, 3), (5, 40), (6, 48)] := rfl
@[simp] theorem t49_cmp : t49.cmp = false := rfl
/-- impl.Report = loop.example/g03007/impl.Report -/
def t50 : TI := ⟨8, 96, .agg #[.int .i64 0, .int .i64 0, .slice none 0 0, .int .i64 0, .int .i64 0, .slice none 0 0, .int .i64 0, .int .i64 0], .agg [.lit (.int .i64 0), .lit (.int .i64 0), .sl true 0 .any [], .lit (.int .i64 0), .lit (.int .i64 0), .sl true 0 .any [], .lit (.int .i64 0), .lit (.int .i64 0)], yTReport, .st [(0, 3), (1, 3), (2, 40), (3, 3), (4, 3), (5, 40), (6, 48)], false⟩
@[simp] theorem t50_size : t50.size = 8 := rfl
@[simp] theorem t50_bytes : t50.bytes = 96 := rfl
@[simp] theorem t50_z : t50.z = .agg [.lit (.int .i64 0), .lit (.int .i64 0), .sl true 0 .any [], .lit (.int .i64 0), .lit (.int .i64 0), .sl true 0 .any [], .lit (.int .i64 0), .lit (.int .i64 0)] := rfl
@[simp] theorem t50_y : t50.y = yTReport := rfl
@[simp] theorem t50_kind : t50.kind = .st [(0, 3), (1, 3), (2, 40), (3, 3), (4, 3), (5, 40), (6, 48)] := rfl
@[simp] theorem t50_cmp : t50.cmp = false := rfl
/-- []laws.Find -/
def t55 : TI := ⟨1, 24, .slice none 0 0, .sl true 0 .any [], yLTFind, .slice 68, false⟩
@[simp] theorem t55_size : t55.size = 1 := rfl
@[simp] theorem t55_bytes : t55.bytes = 24 := rfl
@[simp] theorem t55_z : t55.z = .sl true 0 .any [] := rfl
@[simp] theorem t55_y : t55.y = yLTFind := rfl
@[simp] theorem t55_kind : t55.kind = .slice 68 := rfl
@[simp] theorem t55_cmp : t55.cmp = false := rfl
/-- []impl.Find -/
def t58 : TI := ⟨1, 24, .slice none 0 0, .sl true 0 .any [], yLTFind, .slice 72, false⟩
@[simp] theorem t58_size : t58.size = 1 := rfl
@[simp] theorem t58_bytes : t58.bytes = 24 := rfl
@[simp] theorem t58_z : t58.z = .sl true 0 .any [] := rfl
@[simp] theorem t58_y : t58.y = yLTFind := rfl
@[simp] theorem t58_kind : t58.kind = .slice 72 := rfl
@[simp] theorem t58_cmp : t58.cmp = false := rfl
/-- struct { Id int; Kind int; Colour int; Size int; Worth int } -/
def t65 : TI := ⟨5, 40, .agg #[.int .i64 0, .int .i64 0, .int .i64 0, .int .i64 0, .int .i64 0], .agg [.lit (.int .i64 0), .lit (.int .i64 0), .lit (.int .i64 0), .lit (.int .i64 0), .lit (.int .i64 0)], yTThing, .st [(0, 3), (1, 3), (2, 3), (3, 3), (4, 3)], true⟩
@[simp] theorem t65_size : t65.size = 5 := rfl
@[simp] theorem t65_bytes : t65.bytes = 40 := rfl
@[simp] theorem t65_z : t65.z = .agg [.lit (.int .i64 0), .lit (.int .i64 0), .lit (.int .i64 0), .lit (.int .i64 0), .lit (.int .i64 0)] := rfl
@[simp] theorem t65_y : t65.y = yTThing := rfl
@[simp] theorem t65_kind : t65.kind = .st [(0, 3), (1, 3), (2, 3), (3, 3), (4, 3)] := rfl
@[simp] theorem t65_cmp : t65.cmp = true := rfl
/-- laws.Thing = loop.example/g03007/laws.Thing -/
def t66 : TI := ⟨5, 40, .agg #[.int .i64 0, .int .i64 0, .int .i64 0, .int .i64 0, .int .i64 0], .agg [.lit (.int .i64 0), .lit (.int .i64 0), .lit (.int .i64 0), .lit (.int .i64 0), .lit (.int .i64 0)], yTThing, .st [(0, 3), (1, 3), (2, 3), (3, 3), (4, 3)], true⟩
@[simp] theorem t66_size : t66.size = 5 := rfl
@[simp] theorem t66_bytes : t66.bytes = 40 := rfl
@[simp] theorem t66_z : t66.z = .agg [.lit (.int .i64 0), .lit (.int .i64 0), .lit (.int .i64 0), .lit (.int .i64 0), .lit (.int .i64 0)] := rfl
@[simp] theorem t66_y : t66.y = yTThing := rfl
@[simp] theorem t66_kind : t66.kind = .st [(0, 3), (1, 3), (2, 3), (3, 3), (4, 3)] := rfl
@[simp] theorem t66_cmp : t66.cmp = true := rfl
/-- struct { Thing laws.Thing; Place int; At int; Finder int } -/
def t67 : TI := ⟨8, 64, .agg #[.int .i64 0, .int .i64 0, .int .i64 0, .int .i64 0, .int .i64 0, .int .i64 0, .int .i64 0, .int .i64 0], .agg [.lit (.int .i64 0), .lit (.int .i64 0), .lit (.int .i64 0), .lit (.int .i64 0), .lit (.int .i64 0), .lit (.int .i64 0), .lit (.int .i64 0), .lit (.int .i64 0)], yTFind, .st [(0, 66), (5, 3), (6, 3), (7, 3)], true⟩
@[simp] theorem t67_size : t67.size = 8 := rfl
@[simp] theorem t67_bytes : t67.bytes = 64 := rfl
@[simp] theorem t67_z : t67.z = .agg [.lit (.int .i64 0), .lit (.int .i64 0), .lit (.int .i64 0), .lit (.int .i64 0), .lit (.int .i64 0), .lit (.int .i64 0), .lit (.int .i64 0), .lit (.int .i64 0)] := rfl
@[simp] theorem t67_y : t67.y = yTFind := rfl
@[simp] theorem t67_kind : t67.kind = .st [(0, 66), (5, 3), (6, 3), (7, 3)] := rfl
@[simp] theorem t67_cmp : t67.cmp = true := rfl
/-- laws.Find = loop.example/g03007/laws.Find -/
def t68 : TI := ⟨8, 64, .agg #[.int .i64 0, .int .i64 0, .int .i64 0, .int .i64 0, .int .i64 0, .int .i64 0, .int .i64 0, .int .i64 0], .agg [.lit (.int .i64 0), .lit (.int .i64 0), .lit (.int .i64 0), .lit (.int .i64 0), .lit (.int .i64 0), .lit (.int .i64 0), .lit (.int .i64 0), .lit (.int .i64 0)], yTFind, .st [(0, 66), (5, 3), (6, 3), (7, 3)], true⟩
@[simp] theorem t68_size : t68.size = 8 := rfl
@[simp] theorem t68_bytes : t68.bytes = 64 := rfl
@[simp] theorem t68_z : t68.z = .agg [.lit (.int .i64 0), .lit (.int .i64 0), .lit (.int .i64 0), .lit (.int .i64 0), .lit (.int .i64 0), .lit (.int .i64 0), .lit (.int .i64 0), .lit (.int .i64 0)] := rfl
@[simp] theorem t68_y : t68.y = yTFind := rfl
@[simp] theorem t68_kind : t68.kind = .st [(0, 66), (5, 3), (6, 3), (7, 3)] := rfl
@[simp] theorem t68_cmp : t68.cmp = true := rfl
/-- impl.Thing = loop.example/g03007/impl.Thing -/
def t70 : TI := ⟨5, 40, .agg #[.int .i64 0, .int .i64 0, .int .i64 0, .int .i64 0, .int .i64 0], .agg [.lit (.int .i64 0), .lit (.int .i64 0), .lit (.int .i64 0), .lit (.int .i64 0), .lit (.int .i64 0)], yTThing, .st [(0, 3), (1, 3), (2, 3), (3, 3), (4, 3)], true⟩
@[simp] theorem t70_size : t70.size = 5 := rfl
@[simp] theorem t70_bytes : t70.bytes = 40 := rfl
@[simp] theorem t70_z : t70.z = .agg [.lit (.int .i64 0), .lit (.int .i64 0), .lit (.int .i64 0), .lit (.int .i64 0), .lit (.int .i64 0)] := rfl
@[simp] theorem t70_y : t70.y = yTThing := rfl
@[simp] theorem t70_kind : t70.kind = .st [(0, 3), (1, 3), (2, 3), (3, 3), (4, 3)] := rfl
@[simp] theorem t70_cmp : t70.cmp = true := rfl
/-- struct { Thing impl.Thing; Place int; At int; Finder int } -/
def t71 : TI := ⟨8, 64, .agg #[.int .i64 0, .int .i64 0, .int .i64 0, .int .i64 0, .int .i64 0, .int .i64 0, .int .i64 0, .int .i64 0], .agg [.lit (.int .i64 0), .lit (.int .i64 0), .lit (.int .i64 0), .lit (.int .i64 0), .lit (.int .i64 0), .lit (.int .i64 0), .lit (.int .i64 0), .lit (.int .i64 0)], yTFind, .st [(0, 70), (5, 3), (6, 3), (7, 3)], true⟩
@[simp] theorem t71_size : t71.size = 8 := rfl
@[simp] theorem t71_bytes : t71.bytes = 64 := rfl
@[simp] theorem t71_z : t71.z = .agg [.lit (.int .i64 0), .lit (.int .i64 0), .lit (.int .i64 0), .lit (.int .i64 0), .lit (.int .i64 0), .lit (.int .i64 0), .lit (.int .i64 0), .lit (.int .i64 0)] := rfl
@[simp] theorem t71_y : t71.y = yTFind := rfl
@[simp] theorem t71_kind : t71.kind = .st [(0, 70), (5, 3), (6, 3), (7, 3)] := rfl
@[simp] theorem t71_cmp : t71.cmp = true := rfl
/-- impl.Find = loop.example/g03007/impl.Find -/
def t72 : TI := ⟨8, 64, .agg #[.int .i64 0, .int .i64 0, .int .i64 0, .int .i64 0, .int .i64 0, .int .i64 0, .int .i64 0, .int .i64 0], .agg [.lit (.int .i64 0), .lit (.int .i64 0), .lit (.int .i64 0), .lit (.int .i64 0), .lit (.int .i64 0), .lit (.int .i64 0), .lit (.int .i64 0), .lit (.int .i64 0)], yTFind, .st [(0, 70), (5, 3), (6, 3), (7, 3)], true⟩
@[simp] theorem t72_size : t72.size = 8 := rfl
@[simp] theorem t72_bytes : t72.bytes = 64 := rfl
@[simp] theorem t72_z : t72.z = .agg [.lit (.int .i64 0), .lit (.int .i64 0), .lit (.int .i64 0), .lit (.int .i64 0), .lit (.int .i64 0), .lit (.int .i64 0), .lit (.int .i64 0), .lit (.int .i64 0)] := rfl
@[simp] theorem t72_y : t72.y = yTFind := rfl
@[simp] theorem t72_kind : t72.kind = .st [(0, 70), (5, 3), (6, 3), (7, 3)] := rfl
@[simp] theorem t72_cmp : t72.cmp = true := rfl
/-- []laws.Bid -/
def t76 : TI := ⟨1, 24, .slice none 0 0, .sl true 0 .any [], yLTBid, .slice 173, false⟩
@[simp] theorem t76_size : t76.size = 1 := rfl
@[simp] theorem t76_bytes : t76.bytes = 24 := rfl
@[simp] theorem t76_z : t76.z = .sl true 0 .any [] := rfl
@[simp] theorem t76_y : t76.y = yLTBid := rfl
@[simp] theorem t76_kind : t76.kind = .slice 173 := rfl
@[simp] theorem t76_cmp : t76.cmp = false := rfl
/-- []impl.Bid -/
def t78 : TI := ⟨1, 24, .slice none 0 0, .sl true 0 .any [], yLTBid, .slice 171, false⟩
@[simp] theorem t78_size : t78.size = 1 := rfl
@[simp] theorem t78_bytes : t78.bytes = 24 := rfl
@[simp] theorem t78_z : t78.z = .sl true 0 .any [] := rfl
@[simp] theorem t78_y : t78.y = yLTBid := rfl
@[simp] theorem t78_kind : t78.kind = .slice 171 := rfl
@[simp] theorem t78_cmp : t78.cmp = false := rfl
/-- []impl.Share -/
def t87 : TI := ⟨1, 24, .slice none 0 0, .sl true 0 .any [], yLTShare, .slice 181, false⟩
@[simp] theorem t87_size : t87.size = 1 := rfl
@[simp] theorem t87_bytes : t87.bytes = 24 := rfl
@[simp] theorem t87_z : t87.z = .sl true 0 .any [] := rfl
@[simp] theorem t87_y : t87.y = yLTShare := rfl
@[simp] theorem t87_kind : t87.kind = .slice 181 := rfl
@[simp] theorem t87_cmp : t87.cmp = false := rfl
/-- struct { From int; To int; Things []int; At int } -/
def t92 : TI := ⟨4, 48, .agg #[.int .i64 0, .int .i64 0, .slice none 0 0, .int .i64 0], .agg [.lit (.int .i64 0), .lit (.int .i64 0), .sl true 0 .any [], .lit (.int .i64 0)], yTParcel, .st [(0, 3), (1, 3), (2, 40), (3, 3)], false⟩
@[simp] theorem t92_size : t92.size = 4 := rfl
@[simp] theorem t92_bytes : t92.bytes = 48 := rfl
@[simp] theorem t92_z : t92.z = .agg [.lit (.int .i64 0), .lit (.int .i64 0), .sl true 0 .any [], .lit (.int .i64 0)] := rfl
@[simp] theorem t92_y : t92.y = yTParcel := rfl
@[simp] theorem t92_kind : t92.kind = .st [(0, 3), (1, 3), (2, 40), (3, 3)] := rfl
@[simp] theorem t92_cmp : t92.cmp = false := rfl
/-- laws.Parcel = loop.example/g03007/laws.Parcel -/
def t93 : TI := ⟨4, 48, .agg #[.int .i64 0, .int .i64 0, .slice none 0 0, .int .i64 0], .agg [.lit (.int .i64 0), .lit (.int .i64 0), .sl true 0 .any [], .lit (.int .i64 0)], yTParcel, .st [(0, 3), (1, 3), (2, 40), (3, 3)], false⟩
@[simp] theorem t93_size : t93.size = 4 := rfl
@[simp] theorem t93_bytes : t93.bytes = 48 := rfl
@[simp] theorem t93_z : t93.z = .agg [.lit (.int .i64 0), .lit (.int .i64 0), .sl true 0 .any [], .lit (.int .i64 0)] := rfl
@[simp] theorem t93_y : t93.y = yTParcel := rfl
@[simp] theorem t93_kind : t93.kind = .st [(0, 3), (1, 3), (2, 40), (3, 3)] := rfl
@[simp] theorem t93_cmp : t93.cmp = false := rfl
/-- impl.Parcel = loop.example/g03007/impl.Parcel -/
def t96 : TI := ⟨4, 48, .agg #[.int .i64 0, .int .i64 0, .slice none 0 0, .int .i64 0], .agg [.lit (.int .i64 0), .lit (.int .i64 0), .sl true 0 .any [], .lit (.int .i64 0)], yTParcel, .st [(0, 3), (1, 3), (2, 40), (3, 3)], false⟩
@[simp] theorem t96_size : t96.size = 4 := rfl
@[simp] theorem t96_bytes : t96.bytes = 48 := rfl
@[simp] theorem t96_z : t96.z = .agg [.lit (.int .i64 0), .lit (.int .i64 0), .sl true 0 .any [], .lit (.int .i64 0)] := rfl
@[simp] theorem t96_y : t96.y = yTParcel := rfl
@[simp] theorem t96_kind : t96.kind = .st [(0, 3), (1, 3), (2, 40), (3, 3)] := rfl
@[simp] theorem t96_cmp : t96.cmp = false := rfl
/-- []laws.Secret -/
def t101 : TI := ⟨1, 24, .slice none 0 0, .sl true 0 .any [], yLTSecret, .slice 191, false⟩
@[simp] theorem t101_size : t101.size = 1 := rfl
@[simp] theorem t101_bytes : t101.bytes = 24 := rfl
@[simp] theorem t101_z : t101.z = .sl true 0 .any [] := rfl
@[simp] theorem t101_y : t101.y = yLTSecret := rfl
@[simp] theorem t101_kind : t101.kind = .slice 191 := rfl
@[simp] theorem t101_cmp : t101.cmp = false := rfl
/-- []impl.Secret -/
def t104 : TI := ⟨1, 24, .slice none 0 0, .sl true 0 .any [], yLTSecret, .slice 194, false⟩
@[simp] theorem t104_size : t104.size = 1 := rfl
@[simp] theorem t104_bytes : t104.bytes = 24 := rfl
@[simp] theorem t104_z : t104.z = .sl true 0 .any [] := rfl
@[simp] theorem t104_y : t104.y = yLTSecret := rfl
@[simp] theorem t104_kind : t104.kind = .slice 194 := rfl
@[simp] theorem t104_cmp : t104.cmp = false := rfl
/-- []laws.Event -/
def t109 : TI := ⟨1, 24, .slice none 0 0, .sl true 0 .any [], yLTEvent, .slice 210, false⟩
@[simp] theorem t109_size : t109.size = 1 := rfl
@[simp] theorem t109_bytes : t109.bytes = 24 := rfl
@[simp] theorem t109_z : t109.z = .sl true 0 .any [] := rfl
@[simp] theorem t109_y : t109.y = yLTEvent := rfl
@[simp] theorem t109_kind : t109.kind = .slice 210 := rfl
@[simp] theorem t109_cmp : t109.cmp = false := rfl
/-- []impl.Event -/
def t112 : TI := ⟨1, 24, .slice none 0 0, .sl true 0 .any [], yLTEvent, .slice 212, false⟩
@[simp] theorem t112_size : t112.size = 1 := rfl
@[simp] theorem t112_bytes : t112.bytes = 24 := rfl
@[simp] theorem t112_z : t112.z = .sl true 0 .any [] := rfl
@[simp] theorem t112_y : t112.y = yLTEvent := rfl
@[simp] theorem t112_kind : t112.kind = .slice 212 := rfl
@[simp] theorem t112_cmp : t112.cmp = false := rfl
/-- []laws.Slot -/
def t118 : TI := ⟨1, 24, .slice none 0 0, .sl true 0 .any [], yLTSlot, .slice 264, false⟩
@[simp] theorem t118_size : t118.size = 1 := rfl
@[simp] theorem t118_bytes : t118.bytes = 24 := rfl
@[simp] theorem t118_z : t118.z = .sl true 0 .any [] := rfl
@[simp] theorem t118_y : t118.y = yLTSlot := rfl
@[simp] theorem t118_kind : t118.kind = .slice 264 := rfl
@[simp] theorem t118_cmp : t118.cmp = false := rfl
/-- []laws.Claim -/
def t119 : TI := ⟨1, 24, .slice none 0 0, .sl true 0 .any [], yLTClaim, .slice 266, false⟩
@[simp] theorem t119_size : t119.size = 1 := rfl
@[simp] theorem t119_bytes : t119.bytes = 24 := rfl
@[simp] theorem t119_z : t119.z = .sl true 0 .any [] := rfl
@[simp] theorem t119_y : t119.y = yLTClaim := rfl
@[simp] theorem t119_kind : t119.kind = .slice 266 := rfl
@[simp] theorem t119_cmp : t119.cmp = false := rfl
/-- []laws.Trial -/
def t120 : TI := ⟨1, 24, .slice none 0 0, .sl true 0 .any [], yLTTrial, .slice 270, false⟩
@[simp] theorem t120_size : t120.size = 1 := rfl
@[simp] theorem t120_bytes : t120.bytes = 24 := rfl
@[simp] theorem t120_z : t120.z = .sl true 0 .any [] := rfl
@[simp] theorem t120_y : t120.y = yLTTrial := rfl
@[simp] theorem t120_kind : t120.kind = .slice 270 := rfl
@[simp] theorem t120_cmp : t120.cmp = false := rfl
/-- []laws.Hand -/
def t121 : TI := ⟨1, 24, .slice none 0 0, .sl true 0 .any [], yLTHand, .slice 274, false⟩
@[simp] theorem t121_size : t121.size = 1 := rfl
@[simp] theorem t121_bytes : t121.bytes = 24 := rfl
@[simp] theorem t121_z : t121.z = .sl true 0 .any [] := rfl
@[simp] theorem t121_y : t121.y = yLTHand := rfl
@[simp] theorem t121_kind : t121.kind = .slice 274 := rfl
@[simp] theorem t121_cmp : t121.cmp = false := rfl
/-- []laws.Entry -/
def t122 : TI := ⟨1, 24, .slice none 0 0, .sl true 0 .any [], yLTEntry, .slice 278, false⟩
@[simp] theorem t122_size : t122.size = 1 := rfl
@[simp] theorem t122_bytes : t122.bytes = 24 := rfl
@[simp] theorem t122_z : t122.z = .sl true 0 .any [] := rfl
@[simp] theorem t122_y : t122.y = yLTEntry := rfl
@[simp] theorem t122_kind : t122.kind = .slice 278 := rfl
@[simp] theorem t122_cmp : t122.cmp = false := rfl
/-- struct { No int; Finds []laws.Find; Secrets []laws.Secret; Slots []laws.Slot; Claims []laws.Claim; Trials []laws.Trial; Chain []laws.Hand; Book []laws.Entry; Now int } -/
def t123 : TI := ⟨9, 184, .agg #[.int .i64 0, .slice none 0 0, .slice none 0 0, .slice none 0 0, .slice none 0 0, .slice none 0 0, .slice none 0 0, .slice none 0 0, .int .i64 0], .agg [.lit (.int .i64 0), .sl true 0 .any [], .sl true 0 .any [], .sl true 0 .any [], .sl true 0 .any [], .sl true 0 .any [], .sl true 0 .any [], .sl true 0 .any [], .lit (.int .i64 0)], yTHouse, .st [(0, 3), (1, 55), (2, 101), (3, 118), (4, 119), (5, 120), (6, 121), (7, 122), (8, 3)], false⟩
@[simp] theorem t123_size : t123.size = 9 := rfl
@[simp] theorem t123_bytes : t123.bytes = 184 := rfl
@[simp] theorem t123_z : t123.z = .agg [.lit (.int .i64 0), .sl true 0 .any [], .sl true 0 .any [], .sl true 0 .any [], .sl true 0 .any [], .sl true 0 .any [], .sl true 0 .any [], .sl true 0 .any [], .lit (.int .i64 0)] := rfl
@[simp] theorem t123_y : t123.y = yTHouse := rfl
@[simp] theorem t123_kind : t123.kind = .st [(0, 3), (1, 55), (2, 101), (3, 118), (4, 119), (5, 120), (6, 121), (7, 122), (8, 3)] := rfl
@[simp] theorem t123_cmp : t123.cmp = false := rfl
/-- laws.House = loop.example/g03007/laws.House -/
def t124 : TI := ⟨9, 184, .agg #[.int .i64 0, .slice none 0 0, .slice none 0 0, .slice none 0 0, .slice none 0 0, .slice none 0 0, .slice none 0 0, .slice none 0 0, .int .i64 0], .agg [.lit (.int .i64 0), .sl true 0 .any [], .sl true 0 .any [], .sl true 0 .any [], .sl true 0 .any [], .sl true 0 .any [], .sl true 0 .any [], .sl true 0 .any [], .lit (.int .i64 0)], yTHouse, .st [(0, 3), (1, 55), (2, 101), (3, 118), (4, 119), (5, 120), (6, 121), (7, 122), (8, 3)], false⟩
@[simp] theorem t124_size : t124.size = 9 := rfl
@[simp] theorem t124_bytes : t124.bytes = 184 := rfl
@[simp] theorem t124_z : t124.z = .agg [.lit (.int .i64 0), .sl true 0 .any [], .sl true 0 .any [], .sl true 0 .any [], .sl true 0 .any [], .sl true 0 .any [], .sl true 0 .any [], .sl true 0 .any [], .lit (.int .i64 0)] := rfl
@[simp] theorem t124_y : t124.y = yTHouse := rfl
@[simp] theorem t124_kind : t124.kind = .st [(0, 3), (1, 55), (2, 101), (3, 118), (4, 119), (5, 120), (6, 121), (7, 122), (8, 3)] := rfl
@[simp] theorem t124_cmp : t124.cmp = false := rfl
/-- []impl.Slot -/
def t127 : TI := ⟨1, 24, .slice none 0 0, .sl true 0 .any [], yLTSlot, .slice 262, false⟩
@[simp] theorem t127_size : t127.size = 1 := rfl
@[simp] theorem t127_bytes : t127.bytes = 24 := rfl
@[simp] theorem t127_z : t127.z = .sl true 0 .any [] := rfl
@[simp] theorem t127_y : t127.y = yLTSlot := rfl
@[simp] theorem t127_kind : t127.kind = .slice 262 := rfl
@[simp] theorem t127_cmp : t127.cmp = false := rfl
/-- []impl.Claim -/
def t128 : TI := ⟨1, 24, .slice none 0 0, .sl true 0 .any [], yLTClaim, .slice 228, false⟩
@[simp] theorem t128_size : t128.size = 1 := rfl
@[simp] theorem t128_bytes : t128.bytes = 24 := rfl
@[simp] theorem t128_z : t128.z = .sl true 0 .any [] := rfl
@[simp] theorem t128_y : t128.y = yLTClaim := rfl
@[simp] theorem t128_kind : t128.kind = .slice 228 := rfl
@[simp] theorem t128_cmp : t128.cmp = false := rfl
/-- []impl.Trial -/
def t129 : TI := ⟨1, 24, .slice none 0 0, .sl true 0 .any [], yLTTrial, .slice 268, false⟩
@[simp] theorem t129_size : t129.size = 1 := rfl
@[simp] theorem t129_bytes : t129.bytes = 24 := rfl
@[simp] theorem t129_z : t129.z = .sl true 0 .any [] := rfl
@[simp] theorem t129_y : t129.y = yLTTrial := rfl
@[simp] theorem t129_kind : t129.kind = .slice 268 := rfl
@[simp] theorem t129_cmp : t129.cmp = false := rfl
/-- []impl.Hand -/
def t130 : TI := ⟨1, 24, .slice none 0 0, .sl true 0 .any [], yLTHand, .slice 272, false⟩
@[simp] theorem t130_size : t130.size = 1 := rfl
@[simp] theorem t130_bytes : t130.bytes = 24 := rfl
@[simp] theorem t130_z : t130.z = .sl true 0 .any [] := rfl
@[simp] theorem t130_y : t130.y = yLTHand := rfl
@[simp] theorem t130_kind : t130.kind = .slice 272 := rfl
@[simp] theorem t130_cmp : t130.cmp = false := rfl
/-- []impl.Entry -/
def t131 : TI := ⟨1, 24, .slice none 0 0, .sl true 0 .any [], yLTEntry, .slice 276, false⟩
@[simp] theorem t131_size : t131.size = 1 := rfl
@[simp] theorem t131_bytes : t131.bytes = 24 := rfl
@[simp] theorem t131_z : t131.z = .sl true 0 .any [] := rfl
@[simp] theorem t131_y : t131.y = yLTEntry := rfl
@[simp] theorem t131_kind : t131.kind = .slice 276 := rfl
@[simp] theorem t131_cmp : t131.cmp = false := rfl
/-- struct { No int; Finds []impl.Find; Secrets []impl.Secret; Slots []impl.Slot; Claims []impl.Claim; Trials []impl.Trial; Chain []impl.Hand; Book []impl.Entry; Now int } -/
def t132 : TI := ⟨9, 184, .agg #[.int .i64 0, .slice none 0 0, .slice none 0 0, .slice none 0 0, .slice none 0 0, .slice none 0 0, .slice none 0 0, .slice none 0 0, .int .i64 0], .agg [.lit (.int .i64 0), .sl true 0 .any [], .sl true 0 .any [], .sl true 0 .any [], .sl true 0 .any [], .sl true 0 .any [], .sl true 0 .any [], .sl true 0 .any [], .lit (.int .i64 0)], yTHouse, .st [(0, 3), (1, 58), (2, 104), (3, 127), (4, 128), (5, 129), (6, 130), (7, 131), (8, 3)], false⟩
@[simp] theorem t132_size : t132.size = 9 := rfl
@[simp] theorem t132_bytes : t132.bytes = 184 := rfl
@[simp] theorem t132_z : t132.z = .agg [.lit (.int .i64 0), .sl true 0 .any [], .sl true 0 .any [], .sl true 0 .any [], .sl true 0 .any [], .sl true 0 .any [], .sl true 0 .any [], .sl true 0 .any [], .lit (.int .i64 0)] := rfl
@[simp] theorem t132_y : t132.y = yTHouse := rfl
@[simp] theorem t132_kind : t132.kind = .st [(0, 3), (1, 58), (2, 104), (3, 127), (4, 128), (5, 129), (6, 130), (7, 131), (8, 3)] := rfl
@[simp] theorem t132_cmp : t132.cmp = false := rfl
/-- impl.House = loop.example/g03007/impl.House -/
def t133 : TI := ⟨9, 184, .agg #[.int .i64 0, .slice none 0 0, .slice none 0 0, .slice none 0 0, .slice none 0 0, .slice none 0 0, .slice none 0 0, .slice none 0 0, .int .i64 0], .agg [.lit (.int .i64 0), .sl true 0 .any [], .sl true 0 .any [], .sl true 0 .any [], .sl true 0 .any [], .sl true 0 .any [], .sl true 0 .any [], .sl true 0 .any [], .lit (.int .i64 0)], yTHouse, .st [(0, 3), (1, 58), (2, 104), (3, 127), (4, 128), (5, 129), (6, 130), (7, 131), (8, 3)], false⟩
@[simp] theorem t133_size : t133.size = 9 := rfl
@[simp] theorem t133_bytes : t133.bytes = 184 := rfl
@[simp] theorem t133_z : t133.z = .agg [.lit (.int .i64 0), .sl true 0 .any [], .sl true 0 .any [], .sl true 0 .any [], .sl true 0 .any [], .sl true 0 .any [], .sl true 0 .any [], .sl true 0 .any [], .lit (.int .i64 0)] := rfl
@[simp] theorem t133_y : t133.y = yTHouse := rfl
@[simp] theorem t133_kind : t133.kind = .st [(0, 3), (1, 58), (2, 104), (3, 127), (4, 128), (5, 129), (6, 130), (7, 131), (8, 3)] := rfl
@[simp] theorem t133_cmp : t133.cmp = false := rfl
/-- func(impl.Report) int -/
def t144 : TI := ⟨1, 8, .nilFunc, .lit .nilFunc, .lit .nilFunc, .func, false⟩
@[simp] theorem t144_size : t144.size = 1 := rfl
@[simp] theorem t144_bytes : t144.bytes = 8 := rfl
@[simp] theorem t144_z : t144.z = .lit .nilFunc := rfl
@[simp] theorem t144_y : t144.y = .lit .nilFunc := rfl
@[simp] theorem t144_kind : t144.kind = .func := rfl
@[simp] theorem t144_cmp : t144.cmp = false := rfl
/-- struct { items []impl.Report; numberOf func(impl.Report) int } -/
def t145 : TI := ⟨2, 32, .agg #[.slice none 0 0, .nilFunc], .agg [.sl true 0 .any [], .lit .nilFunc], .any, .st [(0, 34), (1, 144)], false⟩
@[simp] theorem t145_size : t145.size = 2 := rfl
@[simp] theorem t145_bytes : t145.bytes = 32 := rfl
@[simp] theorem t145_z : t145.z = .agg [.sl true 0 .any [], .lit .nilFunc] := rfl
@[simp] theorem t145_y : t145.y = .any := rfl
@[simp] theorem t145_kind : t145.kind = .st [(0, 34), (1, 144)] := rfl
@[simp] theorem t145_cmp : t145.cmp = false := rfl
/-- impl.sortedList[loop.example/g03007/impl.Report] = loop.example/g03007/impl.sortedList[loop.example/g03007/impl.Report] -/
def t146 : TI := ⟨2, 32, .agg #[.slice none 0 0, .nilFunc], .agg [.sl true 0 .any [], .lit .nilFunc], .any, .st [(0, 34), (1, 144)], false⟩
@[simp] theorem t146_size : t146.size = 2 := rfl
@[simp] theorem t146_bytes : t146.bytes = 32 := rfl
@[simp] theorem t146_z : t146.z = .agg [.sl true 0 .any [], .lit .nilFunc] := rfl
@[simp] theorem t146_y : t146.y = .any := rfl
@[simp] theorem t146_kind : t146.kind = .st [(0, 34), (1, 144)] := rfl
@[simp] theorem t146_cmp : t146.cmp = false := rfl
/-- func(impl.Report, impl.Find) bool -/
def t156 : TI := ⟨1, 8, .nilFunc, .lit .nilFunc, .lit .nilFunc, .func, false⟩
@[simp] theorem t156_size : t156.size = 1 := rfl
@[simp] theorem t156_bytes : t156.bytes = 8 := rfl
@[simp] theorem t156_z : t156.z = .lit .nilFunc := rfl
@[simp] theorem t156_y : t156.y = .lit .nilFunc := rfl
@[simp] theorem t156_kind : t156.kind = .func := rfl
@[simp] theorem t156_cmp : t156.cmp = false := rfl
/-- func(impl.Find) int -/
def t157 : TI := ⟨1, 8, .nilFunc, .lit .nilFunc, .lit .nilFunc, .func, false⟩
@[simp] theorem t157_size : t157.size = 1 := rfl
@[simp] theorem t157_bytes : t157.bytes = 8 := rfl
@[simp] theorem t157_z : t157.z = .lit .nilFunc := rfl
@[simp] theorem t157_y : t157.y = .lit .nilFunc := rfl
@[simp] theorem t157_kind : t157.kind = .func := rfl
@[simp] theorem t157_cmp : t157.cmp = false := rfl
/-- struct { items []impl.Find; numberOf func(impl.Find) int } -/
def t158 : TI := ⟨2, 32, .agg #[.slice none 0 0, .nilFunc], .agg [.sl true 0 .any [], .lit .nilFunc], .any, .st [(0, 58), (1, 157)], false⟩
@[simp] theorem t158_size : t158.size = 2 := rfl
@[simp] theorem t158_bytes : t158.bytes = 32 := rfl
@[simp] theorem t158_z : t158.z = .agg [.sl true 0 .any [], .lit .nilFunc] := rfl
@[simp] theorem t158_y : t158.y = .any := rfl
@[simp] theorem t158_kind : t158.kind = .st [(0, 58), (1, 157)] := rfl
@[simp] theorem t158_cmp : t158.cmp = false := rfl
/-- impl.sortedList[loop.example/g03007/impl.Find] = loop.example/g03007/impl.sortedList[loop.example/g03007/impl.Find] -/
def t159 : TI := ⟨2, 32, .agg #[.slice none 0 0, .nilFunc], .agg [.sl true 0 .any [], .lit .nilFunc], .any, .st [(0, 58), (1, 157)], false⟩
@[simp] theorem t159_size : t159.size = 2 := rfl
@[simp] theorem t159_bytes : t159.bytes = 32 := rfl
@[simp] theorem t159_z : t159.z = .agg [.sl true 0 .any [], .lit .nilFunc] := rfl
@[simp] theorem t159_y : t159.y = .any := rfl
@[simp] theorem t159_kind : t159.kind = .st [(0, 58), (1, 157)] := rfl
@[simp] theorem t159_cmp : t159.cmp = false := rfl
/-- func(impl.Find) bool -/
def t162 : TI := ⟨1, 8, .nilFunc, .lit .nilFunc, .lit .nilFunc, .func, false⟩
@[simp] theorem t162_size : t162.size = 1 := rfl
@[simp] theorem t162_bytes : t162.bytes = 8 := rfl
@[simp] theorem t162_z : t162.z = .lit .nilFunc := rfl
@[simp] theorem t162_y : t162.y = .lit .nilFunc := rfl
@[simp] theorem t162_kind : t162.kind = .func := rfl
@[simp] theorem t162_cmp : t162.cmp = false := rfl
/-- interface { impl.has(int) bool } -/
def t167 : TI := ⟨1, 16, .nilIface, .lit .nilIface, .lit .nilIface, .iface, false⟩
@[simp] theorem t167_size : t167.size = 1 := rfl
@[simp] theorem t167_bytes : t167.bytes = 16 := rfl
@[simp] theorem t167_z : t167.z = .lit .nilIface := rfl
@[simp] theorem t167_y : t167.y = .lit .nilIface := rfl
@[simp] theorem t167_kind : t167.kind = .iface := rfl
@[simp] theorem t167_cmp : t167.cmp = false := rfl
/-- impl.choice = loop.example/g03007/impl.choice -/
def t168 : TI := ⟨1, 16, .nilIface, .lit .nilIface, .lit .nilIface, .iface, false⟩
@[simp] theorem t168_size : t168.size = 1 := rfl
@[simp] theorem t168_bytes : t168.bytes = 16 := rfl
@[simp] theorem t168_z : t168.z = .lit .nilIface := rfl
@[simp] theorem t168_y : t168.y = .lit .nilIface := rfl
@[simp] theorem t168_kind : t168.kind = .iface := rfl
@[simp] theorem t168_cmp : t168.cmp = false := rfl
/-- struct { Who int; Cents int; Seal int } -/
def t170 : TI := ⟨3, 24, .agg #[.int .i64 0, .int .i64 0, .int .i64 0], .agg [.lit (.int .i64 0), .lit (.int .i64 0), .lit (.int .i64 0)], yTBid, .st [(0, 3), (1, 3), (2, 3)], true⟩
@[simp] theorem t170_size : t170.size = 3 := rfl
@[simp] theorem t170_bytes : t170.bytes = 24 := rfl
@[simp] theorem t170_z : t170.z = .agg [.lit (.int .i64 0), .lit (.int .i64 0), .lit (.int .i64 0)] := rfl
@[simp] theorem t170_y : t170.y = yTBid := rfl
@[simp] theorem t170_kind : t170.kind = .st [(0, 3), (1, 3), (2, 3)] := rfl
@[simp] theorem t170_cmp : t170.cmp = true := rfl
/-- impl.Bid = loop.example/g03007/impl.Bid -/
def t171 : TI := ⟨3, 24, .agg #[.int .i64 0, .int .i64 0, .int .i64 0], .agg [.lit (.int .i64 0), .lit (.int .i64 0), .lit (.int .i64 0)], yTBid, .st [(0, 3), (1, 3), (2, 3)], true⟩
@[simp] theorem t171_size : t171.size = 3 := rfl
@[simp] theorem t171_bytes : t171.bytes = 24 := rfl
@[simp] theorem t171_z : t171.z = .agg [.lit (.int .i64 0), .lit (.int .i64 0), .lit (.int .i64 0)] := rfl
@[simp] theorem t171_y : t171.y = yTBid := rfl
@[simp] theorem t171_kind : t171.kind = .st [(0, 3), (1, 3), (2, 3)] := rfl
@[simp] theorem t171_cmp : t171.cmp = true := rfl
/-- laws.Bid = loop.example/g03007/laws.Bid -/
def t173 : TI := ⟨3, 24, .agg #[.int .i64 0, .int .i64 0, .int .i64 0], .agg [.lit (.int .i64 0), .lit (.int .i64 0), .lit (.int .i64 0)], yTBid, .st [(0, 3), (1, 3), (2, 3)], true⟩
@[simp] theorem t173_size : t173.size = 3 := rfl
@[simp] theorem t173_bytes : t173.bytes = 24 := rfl
@[simp] theorem t173_z : t173.z = .agg [.lit (.int .i64 0), .lit (.int .i64 0), .lit (.int .i64 0)] := rfl
@[simp] theorem t173_y : t173.y = yTBid := rfl
@[simp] theorem t173_kind : t173.kind = .st [(0, 3), (1, 3), (2, 3)] := rfl
@[simp] theorem t173_cmp : t173.cmp = true := rfl
/-- []impl.portion -/
def t179 : TI := ⟨1, 24, .slice none 0 0, .sl true 0 .any [], yLTPortion, .slice 183, false⟩
@[simp] theorem t179_size : t179.size = 1 := rfl
@[simp] theorem t179_bytes : t179.bytes = 24 := rfl
@[simp] theorem t179_z : t179.z = .sl true 0 .any [] := rfl
@[simp] theorem t179_y : t179.y = yLTPortion := rfl
@[simp] theorem t179_kind : t179.kind = .slice 183 := rfl
@[simp] theorem t179_cmp : t179.cmp = false := rfl
/-- struct { Who int; Cents int } -/
def t180 : TI := ⟨2, 16, .agg #[.int .i64 0, .int .i64 0], .agg [.lit (.int .i64 0), .lit (.int .i64 0)], yTShare, .st [(0, 3), (1, 3)], true⟩
@[simp] theorem t180_size : t180.size = 2 := rfl
@[simp] theorem t180_bytes : t180.bytes = 16 := rfl
@[simp] theorem t180_z : t180.z = .agg [.lit (.int .i64 0), .lit (.int .i64 0)] := rfl
@[simp] theorem t180_y : t180.y = yTShare := rfl
@[simp] theorem t180_kind : t180.kind = .st [(0, 3), (1, 3)] := rfl
@[simp] theorem t180_cmp : t180.cmp = true := rfl
/-- impl.Share = loop.example/g03007/impl.Share -/
def t181 : TI := ⟨2, 16, .agg #[.int .i64 0, .int .i64 0], .agg [.lit (.int .i64 0), .lit (.int .i64 0)], yTShare, .st [(0, 3), (1, 3)], true⟩
@[simp] theorem t181_size : t181.size = 2 := rfl
@[simp] theorem t181_bytes : t181.bytes = 16 := rfl
@[simp] theorem t181_z : t181.z = .agg [.lit (.int .i64 0), .lit (.int .i64 0)] := rfl
@[simp] theorem t181_y : t181.y = yTShare := rfl
@[simp] theorem t181_kind : t181.kind = .st [(0, 3), (1, 3)] := rfl
@[simp] theorem t181_cmp : t181.cmp = true := rfl
/-- struct { impl.Share; part int; remainder int } -/
def t182 : TI := ⟨4, 32, .agg #[.int .i64 0, .int .i64 0, .int .i64 0, .int .i64 0], .agg [.lit (.int .i64 0), .lit (.int .i64 0), .lit (.int .i64 0), .lit (.int .i64 0)], yTPortion, .st [(0, 181), (2, 3), (3, 3)], true⟩
@[simp] theorem t182_size : t182.size = 4 := rfl
@[simp] theorem t182_bytes : t182.bytes = 32 := rfl
@[simp] theorem t182_z : t182.z = .agg [.lit (.int .i64 0), .lit (.int .i64 0), .lit (.int .i64 0), .lit (.int .i64 0)] := rfl
@[simp] theorem t182_y : t182.y = yTPortion := rfl
@[simp] theorem t182_kind : t182.kind = .st [(0, 181), (2, 3), (3, 3)] := rfl
@[simp] theorem t182_cmp : t182.cmp = true := rfl
/-- impl.portion = loop.example/g03007/impl.portion -/
def t183 : TI := ⟨4, 32, .agg #[.int .i64 0, .int .i64 0, .int .i64 0, .int .i64 0], .agg [.lit (.int .i64 0), .lit (.int .i64 0), .lit (.int .i64 0), .lit (.int .i64 0)], yTPortion, .st [(0, 181), (2, 3), (3, 3)], true⟩
@[simp] theorem t183_size : t183.size = 4 := rfl
@[simp] theorem t183_bytes : t183.bytes = 32 := rfl
@[simp] theorem t183_z : t183.z = .agg [.lit (.int .i64 0), .lit (.int .i64 0), .lit (.int .i64 0), .lit (.int .i64 0)] := rfl
@[simp] theorem t183_y : t183.y = yTPortion := rfl
@[simp] theorem t183_kind : t183.kind = .st [(0, 181), (2, 3), (3, 3)] := rfl
@[simp] theorem t183_cmp : t183.cmp = true := rfl
/-- []laws.Mark -/
def t189 : TI := ⟨1, 24, .slice none 0 0, .sl true 0 .any [], yLTMark, .slice 300, false⟩
@[simp] theorem t189_size : t189.size = 1 := rfl
@[simp] theorem t189_bytes : t189.bytes = 24 := rfl
@[simp] theorem t189_z : t189.z = .sl true 0 .any [] := rfl
@[simp] theorem t189_y : t189.y = yLTMark := rfl
@[simp] theorem t189_kind : t189.kind = .slice 300 := rfl
@[simp] theorem t189_cmp : t189.cmp = false := rfl
/-- struct { Thing int; Marks []laws.Mark; Salt int } -/
def t190 : TI := ⟨3, 40, .agg #[.int .i64 0, .slice none 0 0, .int .i64 0], .agg [.lit (.int .i64 0), .sl true 0 .any [], .lit (.int .i64 0)], yTSecret, .st [(0, 3), (1, 189), (2, 3)], false⟩
@[simp] theorem t190_size : t190.size = 3 := rfl
@[simp] theorem t190_bytes : t190.bytes = 40 := rfl
@[simp] theorem t190_z : t190.z = .agg [.lit (.int .i64 0), .sl true 0 .any [], .lit (.int .i64 0)] := rfl
@[simp] theorem t190_y : t190.y = yTSecret := rfl
@[simp] theorem t190_kind : t190.kind = .st [(0, 3), (1, 189), (2, 3)] := rfl
@[simp] theorem t190_cmp : t190.cmp = false := rfl
/-- laws.Secret = loop.example/g03007/laws.Secret -/
def t191 : TI := ⟨3, 40, .agg #[.int .i64 0, .slice none 0 0, .int .i64 0], .agg [.lit (.int .i64 0), .sl true 0 .any [], .lit (.int .i64 0)], yTSecret, .st [(0, 3), (1, 189), (2, 3)], false⟩
@[simp] theorem t191_size : t191.size = 3 := rfl
@[simp] theorem t191_bytes : t191.bytes = 40 := rfl
@[simp] theorem t191_z : t191.z = .agg [.lit (.int .i64 0), .sl true 0 .any [], .lit (.int .i64 0)] := rfl
@[simp] theorem t191_y : t191.y = yTSecret := rfl
@[simp] theorem t191_kind : t191.kind = .st [(0, 3), (1, 189), (2, 3)] := rfl
@[simp] theorem t191_cmp : t191.cmp = false := rfl
/-- []impl.Mark -/
def t192 : TI := ⟨1, 24, .slice none 0 0, .sl true 0 .any [], yLTMark, .slice 207, false⟩
@[simp] theorem t192_size : t192.size = 1 := rfl
@[simp] theorem t192_bytes : t192.bytes = 24 := rfl
@[simp] theorem t192_z : t192.z = .sl true 0 .any [] := rfl
@[simp] theorem t192_y : t192.y = yLTMark := rfl
@[simp] theorem t192_kind : t192.kind = .slice 207 := rfl
@[simp] theorem t192_cmp : t192.cmp = false := rfl
/-- struct { Thing int; Marks []impl.Mark; Salt int } -/
def t193 : TI := ⟨3, 40, .agg #[.int .i64 0, .slice none 0 0, .int .i64 0], .agg [.lit (.int .i64 0), .sl true 0 .any [], .lit (.int .i64 0)], yTSecret, .st [(0, 3), (1, 192), (2, 3)], false⟩
@[simp] theorem t193_size : t193.size = 3 := rfl
@[simp] theorem t193_bytes : t193.bytes = 40 := rfl
@[simp] theorem t193_z : t193.z = .agg [.lit (.int .i64 0), .sl true 0 .any [], .lit (.int .i64 0)] := rfl
@[simp] theorem t193_y : t193.y = yTSecret := rfl
@[simp] theorem t193_kind : t193.kind = .st [(0, 3), (1, 192), (2, 3)] := rfl
@[simp] theorem t193_cmp : t193.cmp = false := rfl
/-- impl.Secret = loop.example/g03007/impl.Secret -/
def t194 : TI := ⟨3, 40, .agg #[.int .i64 0, .slice none 0 0, .int .i64 0], .agg [.lit (.int .i64 0), .sl true 0 .any [], .lit (.int .i64 0)], yTSecret, .st [(0, 3), (1, 192), (2, 3)], false⟩
@[simp] theorem t194_size : t194.size = 3 := rfl
@[simp] theorem t194_bytes : t194.bytes = 40 := rfl
@[simp] theorem t194_z : t194.z = .agg [.lit (.int .i64 0), .sl true 0 .any [], .lit (.int .i64 0)] := rfl
@[simp] theorem t194_y : t194.y = yTSecret := rfl
@[simp] theorem t194_kind : t194.kind = .st [(0, 3), (1, 192), (2, 3)] := rfl
@[simp] theorem t194_cmp : t194.cmp = false := rfl
/-- func(impl.Secret) int -/
def t197 : TI := ⟨1, 8, .nilFunc, .lit .nilFunc, .lit .nilFunc, .func, false⟩
@[simp] theorem t197_size : t197.size = 1 := rfl
@[simp] theorem t197_bytes : t197.bytes = 8 := rfl
@[simp] theorem t197_z : t197.z = .lit .nilFunc := rfl
@[simp] theorem t197_y : t197.y = .lit .nilFunc := rfl
@[simp] theorem t197_kind : t197.kind = .func := rfl
@[simp] theorem t197_cmp : t197.cmp = false := rfl
/-- struct { items []impl.Secret; numberOf func(impl.Secret) int } -/
def t198 : TI := ⟨2, 32, .agg #[.slice none 0 0, .nilFunc], .agg [.sl true 0 .any [], .lit .nilFunc], .any, .st [(0, 104), (1, 197)], false⟩
@[simp] theorem t198_size : t198.size = 2 := rfl
@[simp] theorem t198_bytes : t198.bytes = 32 := rfl
@[simp] theorem t198_z : t198.z = .agg [.sl true 0 .any [], .lit .nilFunc] := rfl
@[simp] theorem t198_y : t198.y = .any := rfl
@[simp] theorem t198_kind : t198.kind = .st [(0, 104), (1, 197)] := rfl
@[simp] theorem t198_cmp : t198.cmp = false := rfl
/-- impl.sortedList[loop.example/g03007/impl.Secret] = loop.example/g03007/impl.sortedList[loop.example/g03007/impl.Secret] -/
def t199 : TI := ⟨2, 32, .agg #[.slice none 0 0, .nilFunc], .agg [.sl true 0 .any [], .lit .nilFunc], .any, .st [(0, 104), (1, 197)], false⟩
@[simp] theorem t199_size : t199.size = 2 := rfl
@[simp] theorem t199_bytes : t199.bytes = 32 := rfl
@[simp] theorem t199_z : t199.z = .agg [.sl true 0 .any [], .lit .nilFunc] := rfl
@[simp] theorem t199_y : t199.y = .any := rfl
@[simp] theorem t199_kind : t199.kind = .st [(0, 104), (1, 197)] := rfl
@[simp] theorem t199_cmp : t199.cmp = false := rfl
/-- struct { Question int; Answer int } -/
def t206 : TI := ⟨2, 16, .agg #[.int .i64 0, .int .i64 0], .agg [.lit (.int .i64 0), .lit (.int .i64 0)], yTMark, .st [(0, 3), (1, 3)], true⟩
@[simp] theorem t206_size : t206.size = 2 := rfl
@[simp] theorem t206_bytes : t206.bytes = 16 := rfl
@[simp] theorem t206_z : t206.z = .agg [.lit (.int .i64 0), .lit (.int .i64 0)] := rfl
@[simp] theorem t206_y : t206.y = yTMark := rfl
@[simp] theorem t206_kind : t206.kind = .st [(0, 3), (1, 3)] := rfl
@[simp] theorem t206_cmp : t206.cmp = true := rfl
/-- impl.Mark = loop.example/g03007/impl.Mark -/
def t207 : TI := ⟨2, 16, .agg #[.int .i64 0, .int .i64 0], .agg [.lit (.int .i64 0), .lit (.int .i64 0)], yTMark, .st [(0, 3), (1, 3)], true⟩
@[simp] theorem t207_size : t207.size = 2 := rfl
@[simp] theorem t207_bytes : t207.bytes = 16 := rfl
@[simp] theorem t207_z : t207.z = .agg [.lit (.int .i64 0), .lit (.int .i64 0)] := rfl
@[simp] theorem t207_y : t207.y = yTMark := rfl
@[simp] theorem t207_kind : t207.kind = .st [(0, 3), (1, 3)] := rfl
@[simp] theorem t207_cmp : t207.cmp = true := rfl
/-- struct { Kind int; Find laws.Find; Marks []laws.Mark; Id int; Who int; N int; Bids []laws.Bid } -/
def t209 : TI := ⟨14, 144, .agg #[.int .i64 0, .int .i64 0, .int .i64 0, .int .i64 0, .int .i64 0, .int .i64 0, .int .i64 0, .int .i64 0, .int .i64 0, .slice none 0 0, .int .i64 0, .int .i64 0, .int .i64 0, .slice none 0 0], .agg [.lit (.int .i64 0), .lit (.int .i64 0), .lit (.int .i64 0), .lit (.int .i64 0), .lit (.int .i64 0), .lit (.int .i64 0), .lit (.int .i64 0), .lit (.int .i64 0), .lit (.int .i64 0), .sl true 0 .any [], .lit (.int .i64 0), .lit (.int .i64 0), .lit (.int .i64 0), .sl true 0 .any []], yTEvent, .st [(0, 3), (1, 68), (9, 189), (10, 3), (11, 3), (12, 3), (13, 76)], false⟩
@[simp] theorem t209_size : t209.size = 14 := rfl
@[simp] theorem t209_bytes : t209.bytes = 144 := rfl
@[simp] theorem t209_z : t209.z = .agg [.lit (.int .i64 0), .lit (.int .i64 0), .lit (.int .i64 0), .lit (.int .i64 0), .lit (.int .i64 0), .lit (.int .i64 0), .lit (.int .i64 0), .lit (.int .i64 0), .lit (.int .i64 0), .sl true 0 .any [], .lit (.int .i64 0), .lit (.int .i64 0), .lit (.int .i64 0), .sl true 0 .any []] := rfl
@[simp] theorem t209_y : t209.y = yTEvent := rfl
@[simp] theorem t209_kind : t209.kind = .st [(0, 3), (1, 68), (9, 189), (10, 3), (11, 3), (12, 3), (13, 76)] := rfl
@[simp] theorem t209_cmp : t209.cmp = false := rfl
/-- laws.Event = loop.example/g03007/laws.Event -/
def t210 : TI := ⟨14, 144, .agg #[.int .i64 0, .int .i64 0, .int .i64 0, .int .i64 0, .int .i64 0, .int .i64 0, .int .i64 0, .int .i64 0, .int .i64 0, .slice none 0 0, .int .i64 0, .int .i64 0, .int .i64 0, .slice none 0 0], .agg [.lit (.int .i64 0), .lit (.int .i64 0), .lit (.int .i64 0), .lit (.int .i64 0), .lit (.int .i64 0), .lit (.int .i64 0), .lit (.int .i64 0), .lit (.int .i64 0), .lit (.int .i64 0), .sl true 0 .any [], .lit (.int .i64 0), .lit (.int .i64 0), .lit (.int .i64 0), .sl true 0 .any []], yTEvent, .st [(0, 3), (1, 68), (9, 189), (10, 3), (11, 3), (12, 3), (13, 76)], false⟩
@[simp] theorem t210_size : t210.size = 14 := rfl
@[simp] theorem t210_bytes : t210.bytes = 144 := rfl
@[simp] theorem t210_z : t210.z = .agg [.lit (.int .i64 0), .lit (.int .i64 0), .lit (.int .i64 0), .lit (.int .i64 0), .lit (.int .i64 0), .lit (.int .i64 0), .lit (.int .i64 0), .lit (.int .i64 0), .lit (.int .i64 0), .sl true 0 .any [], .lit (.int .i64 0), .lit (.int .i64 0), .lit (.int .i64 0), .sl true 0 .any []] := rfl
@[simp] theorem t210_y : t210.y = yTEvent := rfl
@[simp] theorem t210_kind : t210.kind = .st [(0, 3), (1, 68), (9, 189), (10, 3), (11, 3), (12, 3), (13, 76)] := rfl
@[simp] theorem t210_cmp : t210.cmp = false := rfl
/-- struct { Kind int; Find impl.Find; Marks []impl.Mark; Id int; Who int; N int; Bids []impl.Bid } -/
def t211 : TI := ⟨14, 144, .agg #[.int .i64 0, .int .i64 0, .int .i64 0, .int .i64 0, .int .i64 0, .int .i64 0, .int .i64 0, .int .i64 0, .int .i64 0, .slice none 0 0, .int .i64 0, .int .i64 0, .int .i64 0, .slice none 0 0], .agg [.lit (.int .i64 0), .lit (.int .i64 0), .lit (.int .i64 0), .lit (.int .i64 0), .lit (.int .i64 0), .lit (.int .i64 0), .lit (.int .i64 0), .lit (.int .i64 0), .lit (.int .i64 0), .sl true 0 .any [], .lit (.int .i64 0), .lit (.int .i64 0), .lit (.int .i64 0), .sl true 0 .any []], yTEvent, .st [(0, 3), (1, 72), (9, 192), (10, 3), (11, 3), (12, 3), (13, 78)], false⟩
@[simp] theorem t211_size : t211.size = 14 := rfl
@[simp] theorem t211_bytes : t211.bytes = 144 := rfl
@[simp] theorem t211_z : t211.z = .agg [.lit (.int .i64 0), .lit (.int .i64 0), .lit (.int .i64 0), .lit (.int .i64 0), .lit (.int .i64 0), .lit (.int .i64 0), .lit (.int .i64 0), .lit (.int .i64 0), .lit (.int .i64 0), .sl true 0 .any [], .lit (.int .i64 0), .lit (.int .i64 0), .lit (.int .i64 0), .sl true 0 .any []] := rfl
@[simp] theorem t211_y : t211.y = yTEvent := rfl
@[simp] theorem t211_kind : t211.kind = .st [(0, 3), (1, 72), (9, 192), (10, 3), (11, 3), (12, 3), (13, 78)] := rfl
@[simp] theorem t211_cmp : t211.cmp = false := rfl
/-- impl.Event = loop.example/g03007/impl.Event -/
def t212 : TI := ⟨14, 144, .agg #[.int .i64 0, .int .i64 0, .int .i64 0, .int .i64 0, .int .i64 0, .int .i64 0, .int .i64 0, .int .i64 0, .int .i64 0, .slice none 0 0, .int .i64 0, .int .i64 0, .int .i64 0, .slice none 0 0], .agg [.lit (.int .i64 0), .lit (.int .i64 0), .lit (.int .i64 0), .lit (.int .i64 0), .lit (.int .i64 0), .lit (.int .i64 0), .lit (.int .i64 0), .lit (.int .i64 0), .lit (.int .i64 0), .sl true 0 .any [], .lit (.int .i64 0), .lit (.int .i64 0), .lit (.int .i64 0), .sl true 0 .any []], yTEvent, .st [(0, 3), (1, 72), (9, 192), (10, 3), (11, 3), (12, 3), (13, 78)], false⟩
@[simp] theorem t212_size : t212.size = 14 := rfl
@[simp] theorem t212_bytes : t212.bytes = 144 := rfl
@[simp] theorem t212_z : t212.z = .agg [.lit (.int .i64 0), .lit (.int .i64 0), .lit (.int .i64 0), .lit (.int .i64 0), .lit (.int .i64 0), .lit (.int .i64 0), .lit (.int .i64 0), .lit (.int .i64 0), .lit (.int .i64 0), .sl true 0 .any [], .lit (.int .i64 0), .lit (.int .i64 0), .lit (.int .i64 0), .sl true 0 .any []] := rfl
@[simp] theorem t212_y : t212.y = yTEvent := rfl
@[simp] theorem t212_kind : t212.kind = .st [(0, 3), (1, 72), (9, 192), (10, 3), (11, 3), (12, 3), (13, 78)] := rfl
@[simp] theorem t212_cmp : t212.cmp = false := rfl
/-- struct { number int; count int } -/
def t218 : TI := ⟨2, 16, .agg #[.int .i64 0, .int .i64 0], .agg [.lit (.int .i64 0), .lit (.int .i64 0)], yTPeak, .st [(0, 3), (1, 3)], true⟩
@[simp] theorem t218_size : t218.size = 2 := rfl
@[simp] theorem t218_bytes : t218.bytes = 16 := rfl
@[simp] theorem t218_z : t218.z = .agg [.lit (.int .i64 0), .lit (.int .i64 0)] := rfl
@[simp] theorem t218_y : t218.y = yTPeak := rfl
@[simp] theorem t218_kind : t218.kind = .st [(0, 3), (1, 3)] := rfl
@[simp] theorem t218_cmp : t218.cmp = true := rfl
/-- impl.peak = loop.example/g03007/impl.peak -/
def t219 : TI := ⟨2, 16, .agg #[.int .i64 0, .int .i64 0], .agg [.lit (.int .i64 0), .lit (.int .i64 0)], yTPeak, .st [(0, 3), (1, 3)], true⟩
@[simp] theorem t219_size : t219.size = 2 := rfl
@[simp] theorem t219_bytes : t219.bytes = 16 := rfl
@[simp] theorem t219_z : t219.z = .agg [.lit (.int .i64 0), .lit (.int .i64 0)] := rfl
@[simp] theorem t219_y : t219.y = yTPeak := rfl
@[simp] theorem t219_kind : t219.kind = .st [(0, 3), (1, 3)] := rfl
@[simp] theorem t219_cmp : t219.cmp = true := rfl
/-- struct { Id int; Who int; Thing int; At int; State int } -/
def t227 : TI := ⟨5, 40, .agg #[.int .i64 0, .int .i64 0, .int .i64 0, .int .i64 0, .int .i64 0], .agg [.lit (.int .i64 0), .lit (.int .i64 0), .lit (.int .i64 0), .lit (.int .i64 0), .lit (.int .i64 0)], yTClaim, .st [(0, 3), (1, 3), (2, 3), (3, 3), (4, 3)], true⟩
@[simp] theorem t227_size : t227.size = 5 := rfl
@[simp] theorem t227_bytes : t227.bytes = 40 := rfl
@[simp] theorem t227_z : t227.z = .agg [.lit (.int .i64 0), .lit (.int .i64 0), .lit (.int .i64 0), .lit (.int .i64 0), .lit (.int .i64 0)] := rfl
@[simp] theorem t227_y : t227.y = yTClaim := rfl
@[simp] theorem t227_kind : t227.kind = .st [(0, 3), (1, 3), (2, 3), (3, 3), (4, 3)] := rfl
@[simp] theorem t227_cmp : t227.cmp = true := rfl
/-- impl.Claim = loop.example/g03007/impl.Claim -/
def t228 : TI := ⟨5, 40, .agg #[.int .i64 0, .int .i64 0, .int .i64 0, .int .i64 0, .int .i64 0], .agg [.lit (.int .i64 0), .lit (.int .i64 0), .lit (.int .i64 0), .lit (.int .i64 0), .lit (.int .i64 0)], yTClaim, .st [(0, 3), (1, 3), (2, 3), (3, 3), (4, 3)], true⟩
@[simp] theorem t228_size : t228.size = 5 := rfl
@[simp] theorem t228_bytes : t228.bytes = 40 := rfl
@[simp] theorem t228_z : t228.z = .agg [.lit (.int .i64 0), .lit (.int .i64 0), .lit (.int .i64 0), .lit (.int .i64 0), .lit (.int .i64 0)] := rfl
@[simp] theorem t228_y : t228.y = yTClaim := rfl
@[simp] theorem t228_kind : t228.kind = .st [(0, 3), (1, 3), (2, 3), (3, 3), (4, 3)] := rfl
@[simp] theorem t228_cmp : t228.cmp = true := rfl
/-- impl.only = loop.example/g03007/impl.only -/
def t248 : TI := ⟨1, 24, .slice none 0 0, .sl true 0 .any [], yLI, .slice 3, false⟩
@[simp] theorem t248_size : t248.size = 1 := rfl
@[simp] theorem t248_bytes : t248.bytes = 24 := rfl
@[simp] theorem t248_z : t248.z = .sl true 0 .any [] := rfl
@[simp] theorem t248_y : t248.y = yLI := rfl
@[simp] theorem t248_kind : t248.kind = .slice 3 := rfl
@[simp] theorem t248_cmp : t248.cmp = false := rfl
/-- struct {} -/
def t250 : TI := ⟨0, 0, .agg #[], .agg [], .any, .st [], false⟩
@[simp] theorem t250_size : t250.size = 0 := rfl
@[simp] theorem t250_bytes : t250.bytes = 0 := rfl
@[simp] theorem t250_z : t250.z = .agg [] := rfl
@[simp] theorem t250_y : t250.y = .any := rfl
@[simp] theorem t250_kind : t250.kind = .st [] := rfl
@[simp] theorem t250_cmp : t250.cmp = false := rfl
/-- impl.everything = loop.example/g03007/impl.everything -/
def t251 : TI := ⟨0, 0, .agg #[], .agg [], .any, .st [], false⟩
@[simp] theorem t251_size : t251.size = 0 := rfl
@[simp] theorem t251_bytes : t251.bytes = 0 := rfl
@[simp] theorem t251_z : t251.z = .agg [] := rfl
@[simp] theorem t251_y : t251.y = .any := rfl
@[simp] theorem t251_kind : t251.kind = .st [] := rfl
@[simp] theorem t251_cmp : t251.cmp = false := rfl
/-- *impl.portion -/
def t255 : TI := ⟨1, 8, .pointer none, .lit (.pointer none), .lit (.pointer none), .ptr 183, false⟩
@[simp] theorem t255_size : t255.size = 1 := rfl
@[simp] theorem t255_bytes : t255.bytes = 8 := rfl
@[simp] theorem t255_z : t255.z = .lit (.pointer none) := rfl
@[simp] theorem t255_y : t255.y = .lit (.pointer none) := rfl
@[simp] theorem t255_kind : t255.kind = .ptr 183 := rfl
@[simp] theorem t255_cmp : t255.cmp = false := rfl
/-- []string -/
def t256 : TI := ⟨1, 24, .slice none 0 0, .sl true 0 .any [], yLS, .slice 9, false⟩
@[simp] theorem t256_size : t256.size = 1 := rfl
@[simp] theorem t256_bytes : t256.bytes = 24 := rfl
@[simp] theorem t256_z : t256.z = .sl true 0 .any [] := rfl
@[simp] theorem t256_y : t256.y = yLS := rfl
@[simp] theorem t256_kind : t256.kind = .slice 9 := rfl
@[simp] theorem t256_cmp : t256.cmp = false := rfl
/-- *impl.peak -/
def t260 : TI := ⟨1, 8, .pointer none, .lit (.pointer none), .lit (.pointer none), .ptr 219, false⟩
@[simp] theorem t260_size : t260.size = 1 := rfl
@[simp] theorem t260_bytes : t260.bytes = 8 := rfl
@[simp] theorem t260_z : t260.z = .lit (.pointer none) := rfl
@[simp] theorem t260_y : t260.y = .lit (.pointer none) := rfl
@[simp] theorem t260_kind : t260.kind = .ptr 219 := rfl
@[simp] theorem t260_cmp : t260.cmp = false := rfl
/-- struct { Id int; Size int; Thing int } -/
def t261 : TI := ⟨3, 24, .agg #[.int .i64 0, .int .i64 0, .int .i64 0], .agg [.lit (.int .i64 0), .lit (.int .i64 0), .lit (.int .i64 0)], yTSlot, .st [(0, 3), (1, 3), (2, 3)], true⟩
@[simp] theorem t261_size : t261.size = 3 := rfl
@[simp] theorem t261_bytes : t261.bytes = 24 := rfl
@[simp] theorem t261_z : t261.z = .agg [.lit (.int .i64 0), .lit (.int .i64 0), .lit (.int .i64 0)] := rfl
@[simp] theorem t261_y : t261.y = yTSlot := rfl
@[simp] theorem t261_kind : t261.kind = .st [(0, 3), (1, 3), (2, 3)] := rfl
@[simp] theorem t261_cmp : t261.cmp = true := rfl
/-- impl.Slot = loop.example/g03007/impl.Slot -/
def t262 : TI := ⟨3, 24, .agg #[.int .i64 0, .int .i64 0, .int .i64 0], .agg [.lit (.int .i64 0), .lit (.int .i64 0), .lit (.int .i64 0)], yTSlot, .st [(0, 3), (1, 3), (2, 3)], true⟩
@[simp] theorem t262_size : t262.size = 3 := rfl
@[simp] theorem t262_bytes : t262.bytes = 24 := rfl
@[simp] theorem t262_z : t262.z = .agg [.lit (.int .i64 0), .lit (.int .i64 0), .lit (.int .i64 0)] := rfl
@[simp] theorem t262_y : t262.y = yTSlot := rfl
@[simp] theorem t262_kind : t262.kind = .st [(0, 3), (1, 3), (2, 3)] := rfl
@[simp] theorem t262_cmp : t262.cmp = true := rfl
/-- laws.Slot = loop.example/g03007/laws.Slot -/
def t264 : TI := ⟨3, 24, .agg #[.int .i64 0, .int .i64 0, .int .i64 0], .agg [.lit (.int .i64 0), .lit (.int .i64 0), .lit (.int .i64 0)], yTSlot, .st [(0, 3), (1, 3), (2, 3)], true⟩
@[simp] theorem t264_size : t264.size = 3 := rfl
@[simp] theorem t264_bytes : t264.bytes = 24 := rfl
@[simp] theorem t264_z : t264.z = .agg [.lit (.int .i64 0), .lit (.int .i64 0), .lit (.int .i64 0)] := rfl
@[simp] theorem t264_y : t264.y = yTSlot := rfl
@[simp] theorem t264_kind : t264.kind = .st [(0, 3), (1, 3), (2, 3)] := rfl
@[simp] theorem t264_cmp : t264.cmp = true := rfl
/-- laws.Claim = loop.example/g03007/laws.Claim -/
def t266 : TI := ⟨5, 40, .agg #[.int .i64 0, .int .i64 0, .int .i64 0, .int .i64 0, .int .i64 0], .agg [.lit (.int .i64 0), .lit (.int .i64 0), .lit (.int .i64 0), .lit (.int .i64 0), .lit (.int .i64 0)], yTClaim, .st [(0, 3), (1, 3), (2, 3), (3, 3), (4, 3)], true⟩
@[simp] theorem t266_size : t266.size = 5 := rfl
@[simp] theorem t266_bytes : t266.bytes = 40 := rfl
@[simp] theorem t266_z : t266.z = .agg [.lit (.int .i64 0), .lit (.int .i64 0), .lit (.int .i64 0), .lit (.int .i64 0), .lit (.int .i64 0)] := rfl
@[simp] theorem t266_y : t266.y = yTClaim := rfl
@[simp] theorem t266_kind : t266.kind = .st [(0, 3), (1, 3), (2, 3), (3, 3), (4, 3)] := rfl
@[simp] theorem t266_cmp : t266.cmp = true := rfl
/-- struct { Claim int; Asked int; Right int; Wrong int } -/
def t267 : TI := ⟨4, 32, .agg #[.int .i64 0, .int .i64 0, .int .i64 0, .int .i64 0], .agg [.lit (.int .i64 0), .lit (.int .i64 0), .lit (.int .i64 0), .lit (.int .i64 0)], yTTrial, .st [(0, 3), (1, 3), (2, 3), (3, 3)], true⟩
@[simp] theorem t267_size : t267.size = 4 := rfl
@[simp] theorem t267_bytes : t267.bytes = 32 := rfl
@[simp] theorem t267_z : t267.z = .agg [.lit (.int .i64 0), .lit (.int .i64 0), .lit (.int .i64 0), .lit (.int .i64 0)] := rfl
@[simp] theorem t267_y : t267.y = yTTrial := rfl
@[simp] theorem t267_kind : t267.kind = .st [(0, 3), (1, 3), (2, 3), (3, 3)] := rfl
@[simp] theorem t267_cmp : t267.cmp = true := rfl
/-- impl.Trial = loop.example/g03007/impl.Trial -/
def t268 : TI := ⟨4, 32, .agg #[.int .i64 0, .int .i64 0, .int .i64 0, .int .i64 0], .agg [.lit (.int .i64 0), .lit (.int .i64 0), .lit (.int .i64 0), .lit (.int .i64 0)], yTTrial, .st [(0, 3), (1, 3), (2, 3), (3, 3)], true⟩
@[simp] theorem t268_size : t268.size = 4 := rfl
@[simp] theorem t268_bytes : t268.bytes = 32 := rfl
@[simp] theorem t268_z : t268.z = .agg [.lit (.int .i64 0), .lit (.int .i64 0), .lit (.int .i64 0), .lit (.int .i64 0)] := rfl
@[simp] theorem t268_y : t268.y = yTTrial := rfl
@[simp] theorem t268_kind : t268.kind = .st [(0, 3), (1, 3), (2, 3), (3, 3)] := rfl
@[simp] theorem t268_cmp : t268.cmp = true := rfl
/-- laws.Trial = loop.example/g03007/laws.Trial -/
def t270 : TI := ⟨4, 32, .agg #[.int .i64 0, .int .i64 0, .int .i64 0, .int .i64 0], .agg [.lit (.int .i64 0), .lit (.int .i64 0), .lit (.int .i64 0), .lit (.int .i64 0)], yTTrial, .st [(0, 3), (1, 3), (2, 3), (3, 3)], true⟩
@[simp] theorem t270_size : t270.size = 4 := rfl
@[simp] theorem t270_bytes : t270.bytes = 32 := rfl
@[simp] theorem t270_z : t270.z = .agg [.lit (.int .i64 0), .lit (.int .i64 0), .lit (.int .i64 0), .lit (.int .i64 0)] := rfl
@[simp] theorem t270_y : t270.y = yTTrial := rfl
@[simp] theorem t270_kind : t270.kind = .st [(0, 3), (1, 3), (2, 3), (3, 3)] := rfl
@[simp] theorem t270_cmp : t270.cmp = true := rfl
/-- struct { Thing int; Holder int; Who int; At int; Seal int } -/
def t271 : TI := ⟨5, 40, .agg #[.int .i64 0, .int .i64 0, .int .i64 0, .int .i64 0, .int .i64 0], .agg [.lit (.int .i64 0), .lit (.int .i64 0), .lit (.int .i64 0), .lit (.int .i64 0), .lit (.int .i64 0)], yTHand, .st [(0, 3), (1, 3), (2, 3), (3, 3), (4, 3)], true⟩
@[simp] theorem t271_size : t271.size = 5 := rfl
@[simp] theorem t271_bytes : t271.bytes = 40 := rfl
@[simp] theorem t271_z : t271.z = .agg [.lit (.int .i64 0), .lit (.int .i64 0), .lit (.int .i64 0), .lit (.int .i64 0), .lit (.int .i64 0)] := rfl
@[simp] theorem t271_y : t271.y = yTHand := rfl
@[simp] theorem t271_kind : t271.kind = .st [(0, 3), (1, 3), (2, 3), (3, 3), (4, 3)] := rfl
@[simp] theorem t271_cmp : t271.cmp = true := rfl
/-- impl.Hand = loop.example/g03007/impl.Hand -/
def t272 : TI := ⟨5, 40, .agg #[.int .i64 0, .int .i64 0, .int .i64 0, .int .i64 0, .int .i64 0], .agg [.lit (.int .i64 0), .lit (.int .i64 0), .lit (.int .i64 0), .lit (.int .i64 0), .lit (.int .i64 0)], yTHand, .st [(0, 3), (1, 3), (2, 3), (3, 3), (4, 3)], true⟩
@[simp] theorem t272_size : t272.size = 5 := rfl
@[simp] theorem t272_bytes : t272.bytes = 40 := rfl
@[simp] theorem t272_z : t272.z = .agg [.lit (.int .i64 0), .lit (.int .i64 0), .lit (.int .i64 0), .lit (.int .i64 0), .lit (.int .i64 0)] := rfl
@[simp] theorem t272_y : t272.y = yTHand := rfl
@[simp] theorem t272_kind : t272.kind = .st [(0, 3), (1, 3), (2, 3), (3, 3), (4, 3)] := rfl
@[simp] theorem t272_cmp : t272.cmp = true := rfl
/-- laws.Hand = loop.example/g03007/laws.Hand -/
def t274 : TI := ⟨5, 40, .agg #[.int .i64 0, .int .i64 0, .int .i64 0, .int .i64 0, .int .i64 0], .agg [.lit (.int .i64 0), .lit (.int .i64 0), .lit (.int .i64 0), .lit (.int .i64 0), .lit (.int .i64 0)], yTHand, .st [(0, 3), (1, 3), (2, 3), (3, 3), (4, 3)], true⟩
@[simp] theorem t274_size : t274.size = 5 := rfl
@[simp] theorem t274_bytes : t274.bytes = 40 := rfl
@[simp] theorem t274_z : t274.z = .agg [.lit (.int .i64 0), .lit (.int .i64 0), .lit (.int .i64 0), .lit (.int .i64 0), .lit (.int .i64 0)] := rfl
@[simp] theorem t274_y : t274.y = yTHand := rfl
@[simp] theorem t274_kind : t274.kind = .st [(0, 3), (1, 3), (2, 3), (3, 3), (4, 3)] := rfl
@[simp] theorem t274_cmp : t274.cmp = true := rfl
/-- struct { From int; To int; Cents int; At int } -/
def t275 : TI := ⟨4, 32, .agg #[.int .i64 0, .int .i64 0, .int .i64 0, .int .i64 0], .agg [.lit (.int .i64 0), .lit (.int .i64 0), .lit (.int .i64 0), .lit (.int .i64 0)], yTEntry, .st [(0, 3), (1, 3), (2, 3), (3, 3)], true⟩
@[simp] theorem t275_size : t275.size = 4 := rfl
@[simp] theorem t275_bytes : t275.bytes = 32 := rfl
@[simp] theorem t275_z : t275.z = .agg [.lit (.int .i64 0), .lit (.int .i64 0), .lit (.int .i64 0), .lit (.int .i64 0)] := rfl
@[simp] theorem t275_y : t275.y = yTEntry := rfl
@[simp] theorem t275_kind : t275.kind = .st [(0, 3), (1, 3), (2, 3), (3, 3)] := rfl
@[simp] theorem t275_cmp : t275.cmp = true := rfl
/-- impl.Entry = loop.example/g03007/impl.Entry -/
def t276 : TI := ⟨4, 32, .agg #[.int .i64 0, .int .i64 0, .int .i64 0, .int .i64 0], .agg [.lit (.int .i64 0), .lit (.int .i64 0), .lit (.int .i64 0), .lit (.int .i64 0)], yTEntry, .st [(0, 3), (1, 3), (2, 3), (3, 3)], true⟩
@[simp] theorem t276_size : t276.size = 4 := rfl
@[simp] theorem t276_bytes : t276.bytes = 32 := rfl
@[simp] theorem t276_z : t276.z = .agg [.lit (.int .i64 0), .lit (.int .i64 0), .lit (.int .i64 0), .lit (.int .i64 0)] := rfl
@[simp] theorem t276_y : t276.y = yTEntry := rfl
@[simp] theorem t276_kind : t276.kind = .st [(0, 3), (1, 3), (2, 3), (3, 3)] := rfl
@[simp] theorem t276_cmp : t276.cmp = true := rfl
/-- laws.Entry = loop.example/g03007/laws.Entry -/
def t278 : TI := ⟨4, 32, .agg #[.int .i64 0, .int .i64 0, .int .i64 0, .int .i64 0], .agg [.lit (.int .i64 0), .lit (.int .i64 0), .lit (.int .i64 0), .lit (.int .i64 0)], yTEntry, .st [(0, 3), (1, 3), (2, 3), (3, 3)], true⟩
@[simp] theorem t278_size : t278.size = 4 := rfl
@[simp] theorem t278_bytes : t278.bytes = 32 := rfl
@[simp] theorem t278_z : t278.z = .agg [.lit (.int .i64 0), .lit (.int .i64 0), .lit (.int .i64 0), .lit (.int .i64 0)] := rfl
@[simp] theorem t278_y : t278.y = yTEntry := rfl
@[simp] theorem t278_kind : t278.kind = .st [(0, 3), (1, 3), (2, 3), (3, 3)] := rfl
@[simp] theorem t278_cmp : t278.cmp = true := rfl
/-- []impl.reportOption -/
def t286 : TI := ⟨1, 24, .slice none 0 0, .sl true 0 .any [], .any, .slice 288, false⟩
@[simp] theorem t286_size : t286.size = 1 := rfl
@[simp] theorem t286_bytes : t286.bytes = 24 := rfl
@[simp] theorem t286_z : t286.z = .sl true 0 .any [] := rfl
@[simp] theorem t286_y : t286.y = .any := rfl
@[simp] theorem t286_kind : t286.kind = .slice 288 := rfl
@[simp] theorem t286_cmp : t286.cmp = false := rfl
/-- impl.reportOption = loop.example/g03007/impl.reportOption -/
def t288 : TI := ⟨1, 8, .nilFunc, .lit .nilFunc, .lit .nilFunc, .func, false⟩
@[simp] theorem t288_size : t288.size = 1 := rfl
@[simp] theorem t288_bytes : t288.bytes = 8 := rfl
@[simp] theorem t288_z : t288.z = .lit .nilFunc := rfl
@[simp] theorem t288_y : t288.y = .lit .nilFunc := rfl
@[simp] theorem t288_kind : t288.kind = .func := rfl
@[simp] theorem t288_cmp : t288.cmp = false := rfl
/-- *impl.Report -/
def t290 : TI := ⟨1, 8, .pointer none, .lit (.pointer none), .lit (.pointer none), .ptr 50, false⟩
@[simp] theorem t290_size : t290.size = 1 := rfl
@[simp] theorem t290_bytes : t290.bytes = 8 := rfl
@[simp] theorem t290_z : t290.z = .lit (.pointer none) := rfl
@[simp] theorem t290_y : t290.y = .lit (.pointer none) := rfl
@[simp] theorem t290_kind : t290.kind = .ptr 50 := rfl
@[simp] theorem t290_cmp : t290.cmp = false := rfl
/-- [4]func(impl.Find) bool -/
def t292 : TI := ⟨4, 32, .agg #[.nilFunc, .nilFunc, .nilFunc, .nilFunc], .agg [.lit .nilFunc, .lit .nilFunc, .lit .nilFunc, .lit .nilFunc], .any, .arr 4 162, false⟩
@[simp] theorem t292_size : t292.size = 4 := rfl
@[simp] theorem t292_bytes : t292.bytes = 32 := rfl
@[simp] theorem t292_z : t292.z = .agg [.lit .nilFunc, .lit .nilFunc, .lit .nilFunc, .lit .nilFunc] := rfl
@[simp] theorem t292_y : t292.y = .any := rfl
@[simp] theorem t292_kind : t292.kind = .arr 4 162 := rfl
@[simp] theorem t292_cmp : t292.cmp = false := rfl
/-- []impl.matchCheck -/
def t294 : TI := ⟨1, 24, .slice none 0 0, .sl true 0 .any [], .any, .slice 297, false⟩
@[simp] theorem t294_size : t294.size = 1 := rfl
@[simp] theorem t294_bytes : t294.bytes = 24 := rfl
@[simp] theorem t294_z : t294.z = .sl true 0 .any [] := rfl
@[simp] theorem t294_y : t294.y = .any := rfl
@[simp] theorem t294_kind : t294.kind = .slice 297 := rfl
@[simp] theorem t294_cmp : t294.cmp = false := rfl
/-- struct { name string; isHeld func(impl.Report, impl.Find) bool } -/
def t296 : TI := ⟨2, 24, .agg #[.string ⟨#[]⟩, .nilFunc], .agg [.lit (.string ⟨#[]⟩), .lit .nilFunc], .any, .st [(0, 9), (1, 156)], false⟩
@[simp] theorem t296_size : t296.size = 2 := rfl
@[simp] theorem t296_bytes : t296.bytes = 24 := rfl
@[simp] theorem t296_z : t296.z = .agg [.lit (.string ⟨#[]⟩), .lit .nilFunc] := rfl
@[simp] theorem t296_y : t296.y = .any := rfl
@[simp] theorem t296_kind : t296.kind = .st [(0, 9), (1, 156)] := rfl
@[simp] theorem t296_cmp : t296.cmp = false := rfl
/-- impl.matchCheck = loop.example/g03007/impl.matchCheck -/
def t297 : TI := ⟨2, 24, .agg #[.string ⟨#[]⟩, .nilFunc], .agg [.lit (.string ⟨#[]⟩), .lit .nilFunc], .any, .st [(0, 9), (1, 156)], false⟩
@[simp] theorem t297_size : t297.size = 2 := rfl
@[simp] theorem t297_bytes : t297.bytes = 24 := rfl
@[simp] theorem t297_z : t297.z = .agg [.lit (.string ⟨#[]⟩), .lit .nilFunc] := rfl
@[simp] theorem t297_y : t297.y = .any := rfl
@[simp] theorem t297_kind : t297.kind = .st [(0, 9), (1, 156)] := rfl
@[simp] theorem t297_cmp : t297.cmp = false := rfl
/-- laws.Mark = loop.example/g03007/laws.Mark -/
def t300 : TI := ⟨2, 16, .agg #[.int .i64 0, .int .i64 0], .agg [.lit (.int .i64 0), .lit (.int .i64 0)], yTMark, .st [(0, 3), (1, 3)], true⟩
@[simp] theorem t300_size : t300.size = 2 := rfl
@[simp] theorem t300_bytes : t300.bytes = 16 := rfl
@[simp] theorem t300_z : t300.z = .agg [.lit (.int .i64 0), .lit (.int .i64 0)] := rfl
@[simp] theorem t300_y : t300.y = yTMark := rfl
@[simp] theorem t300_kind : t300.kind = .st [(0, 3), (1, 3)] := rfl
@[simp] theorem t300_cmp : t300.cmp = true := rfl
/-- func(impl.Mark) int -/
def t301 : TI := ⟨1, 8, .nilFunc, .lit .nilFunc, .lit .nilFunc, .func, false⟩
@[simp] theorem t301_size : t301.size = 1 := rfl
@[simp] theorem t301_bytes : t301.bytes = 8 := rfl
@[simp] theorem t301_z : t301.z = .lit .nilFunc := rfl
@[simp] theorem t301_y : t301.y = .lit .nilFunc := rfl
@[simp] theorem t301_kind : t301.kind = .func := rfl
@[simp] theorem t301_cmp : t301.cmp = false := rfl
/-- struct { items []impl.Mark; numberOf func(impl.Mark) int } -/
def t302 : TI := ⟨2, 32, .agg #[.slice none 0 0, .nilFunc], .agg [.sl true 0 .any [], .lit .nilFunc], .any, .st [(0, 192), (1, 301)], false⟩
@[simp] theorem t302_size : t302.size = 2 := rfl
@[simp] theorem t302_bytes : t302.bytes = 32 := rfl
@[simp] theorem t302_z : t302.z = .agg [.sl true 0 .any [], .lit .nilFunc] := rfl
@[simp] theorem t302_y : t302.y = .any := rfl
@[simp] theorem t302_kind : t302.kind = .st [(0, 192), (1, 301)] := rfl
@[simp] theorem t302_cmp : t302.cmp = false := rfl
/-- impl.sortedList[loop.example/g03007/impl.Mark] = loop.example/g03007/impl.sortedList[loop.example/g03007/impl.Mark] -/
def t303 : TI := ⟨2, 32, .agg #[.slice none 0 0, .nilFunc], .agg [.sl true 0 .any [], .lit .nilFunc], .any, .st [(0, 192), (1, 301)], false⟩
@[simp] theorem t303_size : t303.size = 2 := rfl
@[simp] theorem t303_bytes : t303.bytes = 32 := rfl
@[simp] theorem t303_z : t303.z = .agg [.sl true 0 .any [], .lit .nilFunc] := rfl
@[simp] theorem t303_y : t303.y = .any := rfl
@[simp] theorem t303_kind : t303.kind = .st [(0, 192), (1, 301)] := rfl
@[simp] theorem t303_cmp : t303.cmp = false := rfl
/-- uint32 -/
def t318 : TI := ⟨1, 4, .int .u32 0, .lit (.int .u32 0), .lit (.int .u32 0), .int .u32, false⟩
@[simp] theorem t318_size : t318.size = 1 := rfl
@[simp] theorem t318_bytes : t318.bytes = 4 := rfl
@[simp] theorem t318_z : t318.z = .lit (.int .u32 0) := rfl
@[simp] theorem t318_y : t318.y = .lit (.int .u32 0) := rfl
@[simp] theorem t318_kind : t318.kind = .int .u32 := rfl
@[simp] theorem t318_cmp : t318.cmp = false := rfl
/-- func(unsafe.Pointer, unsafe.Pointer) bool -/
def t321 : TI := ⟨1, 8, .nilFunc, .lit .nilFunc, .lit .nilFunc, .func, false⟩
@[simp] theorem t321_size : t321.size = 1 := rfl
@[simp] theorem t321_bytes : t321.bytes = 8 := rfl
@[simp] theorem t321_z : t321.z = .lit .nilFunc := rfl
@[simp] theorem t321_y : t321.y = .lit .nilFunc := rfl
@[simp] theorem t321_kind : t321.kind = .func := rfl
@[simp] theorem t321_cmp : t321.cmp = false := rfl
/-- *uint8 -/
def t322 : TI := ⟨1, 8, .pointer none, .lit (.pointer none), .lit (.pointer none), .ptr 5, false⟩
@[simp] theorem t322_size : t322.size = 1 := rfl
@[simp] theorem t322_bytes : t322.bytes = 8 := rfl
@[simp] theorem t322_z : t322.z = .lit (.pointer none) := rfl
@[simp] theorem t322_y : t322.y = .lit (.pointer none) := rfl
@[simp] theorem t322_kind : t322.kind = .ptr 5 := rfl
@[simp] theorem t322_cmp : t322.cmp = false := rfl
/-- struct { Size_ uintptr; PtrBytes uintptr; Hash uint32; TFlag abi.TFlag; Align_ uint8; FieldAlign_ uint8; Kind_ abi.Kind; Equal func(unsafe.Pointer, unsafe.Pointer) bool; GCData *uint8; Str abi.NameOff; PtrToThis abi.TypeOff } -/
def t325 : TI := ⟨11, 48, .agg #[.int .u64 0, .int .u64 0, .int .u32 0, .int .u8 0, .int .u8 0, .int .u8 0, .int .u8 0, .nilFunc, .pointer none, .int .i32 0, .int .i32 0], .agg [.lit (.int .u64 0), .lit (.int .u64 0), .lit (.int .u32 0), .lit (.int .u8 0), .lit (.int .u8 0), .lit (.int .u8 0), .lit (.int .u8 0), .lit .nilFunc, .lit (.pointer none), .lit (.int .i32 0), .lit (.int .i32 0)], .any, .st [(0, 12), (1, 12), (2, 318), (3, 319), (4, 5), (5, 5), (6, 320), (7, 321), (8, 322), (9, 323), (10, 324)], false⟩
@[simp] theorem t325_size : t325.size = 11 := rfl
@[simp] theorem t325_bytes : t325.bytes = 48 := rfl
@[simp] theorem t325_z : t325.z = .agg [.lit (.int .u64 0), .lit (.int .u64 0), .lit (.int .u32 0), .lit (.int .u8 0), .lit (.int .u8 0), .lit (.int .u8 0), .lit (.int .u8 0), .lit .nilFunc, .lit (.pointer none), .lit (.int .i32 0), .lit (.int .i32 0)] := rfl
@[simp] theorem t325_y : t325.y = .any := rfl
@[simp] theorem t325_kind : t325.kind = .st [(0, 12), (1, 12), (2, 318), (3, 319), (4, 5), (5, 5), (6, 320), (7, 321), (8, 322), (9, 323), (10, 324)] := rfl
@[simp] theorem t325_cmp : t325.cmp = false := rfl
/-- struct { kind int; colour int; size int; place int } -/
def t340 : TI := ⟨4, 32, .agg #[.int .i64 0, .int .i64 0, .int .i64 0, .int .i64 0], .agg [.lit (.int .i64 0), .lit (.int .i64 0), .lit (.int .i64 0), .lit (.int .i64 0)], yTLikeness, .st [(0, 3), (1, 3), (2, 3), (3, 3)], true⟩
@[simp] theorem t340_size : t340.size = 4 := rfl
@[simp] theorem t340_bytes : t340.bytes = 32 := rfl
@[simp] theorem t340_z : t340.z = .agg [.lit (.int .i64 0), .lit (.int .i64 0), .lit (.int .i64 0), .lit (.int .i64 0)] := rfl
@[simp] theorem t340_y : t340.y = yTLikeness := rfl
@[simp] theorem t340_kind : t340.kind = .st [(0, 3), (1, 3), (2, 3), (3, 3)] := rfl
@[simp] theorem t340_cmp : t340.cmp = true := rfl
/-- impl.likeness = loop.example/g03007/impl.likeness -/
def t341 : TI := ⟨4, 32, .agg #[.int .i64 0, .int .i64 0, .int .i64 0, .int .i64 0], .agg [.lit (.int .i64 0), .lit (.int .i64 0), .lit (.int .i64 0), .lit (.int .i64 0)], yTLikeness, .st [(0, 3), (1, 3), (2, 3), (3, 3)], true⟩
@[simp] theorem t341_size : t341.size = 4 := rfl
@[simp] theorem t341_bytes : t341.bytes = 32 := rfl
@[simp] theorem t341_z : t341.z = .agg [.lit (.int .i64 0), .lit (.int .i64 0), .lit (.int .i64 0), .lit (.int .i64 0)] := rfl
@[simp] theorem t341_y : t341.y = yTLikeness := rfl
@[simp] theorem t341_kind : t341.kind = .st [(0, 3), (1, 3), (2, 3), (3, 3)] := rfl
@[simp] theorem t341_cmp : t341.cmp = true := rfl
theorem t2_ok : t2.ok Try.prog 2 := ⟨by kernel_rfl, by kernel_rfl, by kernel_rfl, Try.underlying2, (fun h => by cases h), ⟨rfl, rfl, rfl, rfl, fun F h β => by simp [t2, Rep, Reps]⟩⟩
theorem t3_ok : t3.ok Try.prog 3 := ⟨by kernel_rfl, by kernel_rfl, by kernel_rfl, Try.underlying3, (fun h => by cases h), ⟨rfl, rfl, rfl, rfl, fun F h β => by simp [t3, Rep, Reps]⟩⟩
theorem t4_ok : t4.ok Try.prog 4 := ⟨by kernel_rfl, by kernel_rfl, by kernel_rfl, Try.underlying4, (fun h => by cases h), ⟨rfl, rfl, rfl, rfl, fun F h β => by simp [t4, Rep, Reps]⟩⟩
theorem t5_ok : t5.ok Try.prog 5 := ⟨by kernel_rfl, by kernel_rfl, by kernel_rfl, Try.underlying5, (fun h => by cases h), ⟨rfl, rfl, rfl, rfl, fun F h β => by simp [t5, Rep, Reps]⟩⟩
theorem t9_ok : t9.ok Try.prog 9 := ⟨by kernel_rfl, by kernel_rfl, by kernel_rfl, Try.underlying9, (fun h => by cases h), ⟨rfl, rfl, rfl, rfl, fun F h β => by simp [t9, Rep, Reps]⟩⟩
theorem t12_ok : t12.ok Try.prog 12 := ⟨by kernel_rfl, by kernel_rfl, by kernel_rfl, Try.underlying12, (fun h => by cases h), ⟨rfl, rfl, rfl, rfl, fun F h β => by simp [t12, Rep, Reps]⟩⟩
theorem t20_ok : t20.ok Try.prog 20 := ⟨by kernel_rfl, by kernel_rfl, by kernel_rfl, ⟨_, Try.underlying20⟩, (fun h => by cases h), ⟨rfl, rfl, rfl, rfl, fun F h β => by simp [t20, Rep, Reps]⟩⟩
theorem t21_ok : t21.ok Try.prog 21 := ⟨by kernel_rfl, by kernel_rfl, by kernel_rfl, Try.underlying21, (fun h => by cases h), ⟨rfl, rfl, rfl, rfl, fun F h β => by simp [t21, Rep, Reps]⟩⟩
theorem t25_ok : t25.ok Try.prog 25 := ⟨by kernel_rfl, by kernel_rfl, by kernel_rfl, Try.underlying25, (fun h => by cases h), ⟨rfl, rfl, rfl, rfl, fun F h β => by simp [t25, Rep, Reps]⟩⟩
theorem t31_ok : t31.ok Try.prog 31 := ⟨by kernel_rfl, by kernel_rfl, by kernel_rfl, Try.underlying31, (fun h => by cases h), ⟨rfl, rfl, rfl, rfl, fun F h β => by simp [t31, Rep, Reps]⟩⟩
theorem t34_ok : t34.ok Try.prog 34 := ⟨by kernel_rfl, by kernel_rfl, by kernel_rfl, Try.underlying34, (fun h => by cases h), ⟨rfl, rfl, rfl, rfl, fun F h β => by simp [t34, Rep, Reps]⟩⟩
theorem t40_ok : t40.ok Try.prog 40 := ⟨by kernel_rfl, by kernel_rfl, by kernel_rfl, Try.underlying40, (fun h => by cases h), ⟨rfl, rfl, rfl, rfl, fun F h β => by simp [t40, Rep, Reps]⟩⟩
theorem t41_ok : t41.ok Try.prog 41 := ⟨by kernel_rfl, by kernel_rfl, by kernel_rfl, ⟨_, Try.underlying41, rfl⟩, (fun _ => eqInts_of (by kernel_rfl) (by kernel_rfl) (by kernel_rfl)), ⟨rfl, rfl, rfl, rfl, fun F h β => by simp [t41, Rep, Reps]⟩⟩
theorem t42_ok : t42.ok Try.prog 42 := ⟨by kernel_rfl, by kernel_rfl, by kernel_rfl, ⟨_, Try.underlying42, rfl⟩, (fun _ => eqInts_of (by kernel_rfl) (by kernel_rfl) (by kernel_rfl)), ⟨rfl, rfl, rfl, rfl, fun F h β => by simp [t42, Rep, Reps]⟩⟩
theorem t43_ok : t43.ok Try.prog 43 := ⟨by kernel_rfl, by kernel_rfl, by kernel_rfl, ⟨_, Try.underlying43, rfl⟩, (fun h => by cases h), ⟨rfl, rfl, rfl, rfl, fun F h β => by
    show Rep F h β t43.z t43.zero
    simp only [t43, Rep, Reps]
    exact ⟨_, rfl, _, _, rfl, (by trivial), _, _, rfl, (by trivial), _, _, rfl, (.inl ⟨by trivial, none, 0, by trivial, by intros; rfl⟩), _, _, rfl, (by trivial), _, _, rfl, (by trivial), _, _, rfl, (.inl ⟨by trivial, none, 0, by trivial, by intros; rfl⟩), _, _, rfl, (by trivial), _, _, rfl, (by trivial), rfl⟩⟩⟩
theorem t44_ok : t44.ok Try.prog 44 := ⟨by kernel_rfl, by kernel_rfl, by kernel_rfl, ⟨_, Try.underlying44, rfl⟩, (fun h => by cases h), ⟨rfl, rfl, rfl, rfl, fun F h β => by
    show Rep F h β t44.z t44.zero
    simp only [t44, Rep, Reps]
    exact ⟨_, rfl, _, _, rfl, (by trivial), _, _, rfl, (by trivial), _, _, rfl, (.inl ⟨by trivial, none, 0, by trivial, by intros; rfl⟩), _, _, rfl, (by trivial), _, _, rfl, (by trivial), _, _, rfl, (.inl ⟨by trivial, none, 0, by trivial, by intros; rfl⟩), _, _, rfl, (by trivial), _, _, rfl, (by trivial), rfl⟩⟩⟩
theorem t48_ok : t48.ok Try.prog 48 := ⟨by kernel_rfl, by kernel_rfl, by kernel_rfl, ⟨_, Try.underlying48, rfl⟩, (fun _ => eqInts_of (by kernel_rfl) (by kernel_rfl) (by kernel_rfl)), ⟨rfl, rfl, rfl, rfl, fun F h β => by simp [t48, Rep, Reps]⟩⟩
theorem t49_ok : t49.ok Try.prog 49 := ⟨by kernel_rfl, by kernel_rfl, by kernel_rfl, ⟨_, Try.underlying49, rfl⟩, (fun h => by cases h), ⟨rfl, rfl, rfl, rfl, fun F h β => by
    show Rep F h β t49.z t49.zero
    simp only [t49, Rep, Reps]
    exact ⟨_, rfl, _, _, rfl, (by trivial), _, _, rfl, (by trivial), _, _, rfl, (.inl ⟨by trivial, none, 0, by trivial, by intros; rfl⟩), _, _, rfl, (by trivial), _, _, rfl, (by trivial), _, _, rfl, (.inl ⟨by trivial, none, 0, by trivial, by intros; rfl⟩), _, _, rfl, (by trivial), _, _, rfl, (by trivial), rfl⟩⟩⟩
theorem t50_ok : t50.ok Try.prog 50 := ⟨by kernel_rfl, by kernel_rfl, by kernel_rfl, ⟨_, Try.underlying50, rfl⟩, (fun h => by cases h), ⟨rfl, rfl, rfl, rfl, fun F h β => by
    show Rep F h β t50.z t50.zero
    simp only [t50, Rep, Reps]
    exact ⟨_, rfl, _, _, rfl, (by trivial), _, _, rfl, (by trivial), _, _, rfl, (.inl ⟨by trivial, none, 0, by trivial, by intros; rfl⟩), _, _, rfl, (by trivial), _, _, rfl, (by trivial), _, _, rfl, (.inl ⟨by trivial, none, 0, by trivial, by intros; rfl⟩), _, _, rfl, (by trivial), _, _, rfl, (by trivial), rfl⟩⟩⟩
theorem t55_ok : t55.ok Try.prog 55 := ⟨by kernel_rfl, by kernel_rfl, by kernel_rfl, Try.underlying55, (fun h => by cases h), ⟨rfl, rfl, rfl, rfl, fun F h β => by simp [t55, Rep, Reps]⟩⟩
theorem t58_ok : t58.ok Try.prog 58 := ⟨by kernel_rfl, by kernel_rfl, by kernel_rfl, Try.underlying58, (fun h => by cases h), ⟨rfl, rfl, rfl, rfl, fun F h β => by simp [t58, Rep, Reps]⟩⟩
theorem t65_ok : t65.ok Try.prog 65 := ⟨by kernel_rfl, by kernel_rfl, by kernel_rfl, ⟨_, Try.underlying65, rfl⟩, (fun _ => eqInts_of (by kernel_rfl) (by kernel_rfl) (by kernel_rfl)), ⟨rfl, rfl, rfl, rfl, fun F h β => by simp [t65, Rep, Reps]⟩⟩
theorem t66_ok : t66.ok Try.prog 66 := ⟨by kernel_rfl, by kernel_rfl, by kernel_rfl, ⟨_, Try.underlying66, rfl⟩, (fun _ => eqInts_of (by kernel_rfl) (by kernel_rfl) (by kernel_rfl)), ⟨rfl, rfl, rfl, rfl, fun F h β => by simp [t66, Rep, Reps]⟩⟩
theorem t67_ok : t67.ok Try.prog 67 := ⟨by kernel_rfl, by kernel_rfl, by kernel_rfl, ⟨_, Try.underlying67, rfl⟩, (fun _ => eqInts_of (by kernel_rfl) (by kernel_rfl) (by kernel_rfl)), ⟨rfl, rfl, rfl, rfl, fun F h β => by simp [t67, Rep, Reps]⟩⟩
theorem t68_ok : t68.ok Try.prog 68 := ⟨by kernel_rfl, by kernel_rfl, by kernel_rfl, ⟨_, Try.underlying68, rfl⟩, (fun _ => eqInts_of (by kernel_rfl) (by kernel_rfl) (by kernel_rfl)), ⟨rfl, rfl, rfl, rfl, fun F h β => by simp [t68, Rep, Reps]⟩⟩
theorem t70_ok : t70.ok Try.prog 70 := ⟨by kernel_rfl, by kernel_rfl, by kernel_rfl, ⟨_, Try.underlying70, rfl⟩, (fun _ => eqInts_of (by kernel_rfl) (by kernel_rfl) (by kernel_rfl)), ⟨rfl, rfl, rfl, rfl, fun F h β => by simp [t70, Rep, Reps]⟩⟩
theorem t71_ok : t71.ok Try.prog 71 := ⟨by kernel_rfl, by kernel_rfl, by kernel_rfl, ⟨_, Try.underlying71, rfl⟩, (fun _ => eqInts_of (by kernel_rfl) (by kernel_rfl) (by kernel_rfl)), ⟨rfl, rfl, rfl, rfl, fun F h β => by simp [t71, Rep, Reps]⟩⟩
theorem t72_ok : t72.ok Try.prog 72 := ⟨by kernel_rfl, by kernel_rfl, by kernel_rfl, ⟨_, Try.underlying72, rfl⟩, (fun _ => eqInts_of (by kernel_rfl) (by kernel_rfl) (by kernel_rfl)), ⟨rfl, rfl, rfl, rfl, fun F h β => by simp [t72, Rep, Reps]⟩⟩
theorem t76_ok : t76.ok Try.prog 76 := ⟨by kernel_rfl, by kernel_rfl, by kernel_rfl, Try.underlying76, (fun h => by cases h), ⟨rfl, rfl, rfl, rfl, fun F h β => by simp [t76, Rep, Reps]⟩⟩
theorem t78_ok : t78.ok Try.prog 78 := ⟨by kernel_rfl, by kernel_rfl, by kernel_rfl, Try.underlying78, (fun h => by cases h), ⟨rfl, rfl, rfl, rfl, fun F h β => by simp [t78, Rep, Reps]⟩⟩
theorem t87_ok : t87.ok Try.prog 87 := ⟨by kernel_rfl, by kernel_rfl, by kernel_rfl, Try.underlying87, (fun h => by cases h), ⟨rfl, rfl, rfl, rfl, fun F h β => by simp [t87, Rep, Reps]⟩⟩
theorem t92_ok : t92.ok Try.prog 92 := ⟨by kernel_rfl, by kernel_rfl, by kernel_rfl, ⟨_, Try.underlying92, rfl⟩, (fun h => by cases h), ⟨rfl, rfl, rfl, rfl, fun F h β => by
    show Rep F h β t92.z t92.zero
    simp only [t92, Rep, Reps]
    exact ⟨_, rfl, _, _, rfl, (by trivial), _, _, rfl, (by trivial), _, _, rfl, (.inl ⟨by trivial, none, 0, by trivial, by intros; rfl⟩), _, _, rfl, (by trivial), rfl⟩⟩⟩
theorem t93_ok : t93.ok Try.prog 93 := ⟨by kernel_rfl, by kernel_rfl, by kernel_rfl, ⟨_, Try.underlying93, rfl⟩, (fun h => by cases h), ⟨rfl, rfl, rfl, rfl, fun F h β => by
    show Rep F h β t93.z t93.zero
    simp only [t93, Rep, Reps]
    exact ⟨_, rfl, _, _, rfl, (by trivial), _, _, rfl, (by trivial), _, _, rfl, (.inl ⟨by trivial, none, 0, by trivial, by intros; rfl⟩), _, _, rfl, (by trivial), rfl⟩⟩⟩
theorem t96_ok : t96.ok Try.prog 96 := ⟨by kernel_rfl, by kernel_rfl, by kernel_rfl, ⟨_, Try.underlying96, rfl⟩, (fun h => by cases h), ⟨rfl, rfl, rfl, rfl, fun F h β => by
    show Rep F h β t96.z t96.zero
    simp only [t96, Rep, Reps]
    exact ⟨_, rfl, _, _, rfl, (by trivial), _, _, rfl, (by trivial), _, _, rfl, (.inl ⟨by trivial, none, 0, by trivial, by intros; rfl⟩), _, _, rfl, (by trivial), rfl⟩⟩⟩
theorem t101_ok : t101.ok Try.prog 101 := ⟨by kernel_rfl, by kernel_rfl, by kernel_rfl, Try.underlying101, (fun h => by cases h), ⟨rfl, rfl, rfl, rfl, fun F h β => by simp [t101, Rep, Reps]⟩⟩
theorem t104_ok : t104.ok Try.prog 104 := ⟨by kernel_rfl, by kernel_rfl, by kernel_rfl, Try.underlying104, (fun h => by cases h), ⟨rfl, rfl, rfl, rfl, fun F h β => by simp [t104, Rep, Reps]⟩⟩
theorem t109_ok : t109.ok Try.prog 109 := ⟨by kernel_rfl, by kernel_rfl, by kernel_rfl, Try.underlying109, (fun h => by cases h), ⟨rfl, rfl, rfl, rfl, fun F h β => by simp [t109, Rep, Reps]⟩⟩
theorem t112_ok : t112.ok Try.prog 112 := ⟨by kernel_rfl, by kernel_rfl, by kernel_rfl, Try.underlying112, (fun h => by cases h), ⟨rfl, rfl, rfl, rfl, fun F h β => by simp [t112, Rep, Reps]⟩⟩
theorem t118_ok : t118.ok Try.prog 118 := ⟨by kernel_rfl, by kernel_rfl, by kernel_rfl, Try.underlying118, (fun h => by cases h), ⟨rfl, rfl, rfl, rfl, fun F h β => by simp [t118, Rep, Reps]⟩⟩
theorem t119_ok : t119.ok Try.prog 119 := ⟨by kernel_rfl, by kernel_rfl, by kernel_rfl, Try.underlying119, (fun h => by cases h), ⟨rfl, rfl, rfl, rfl, fun F h β => by simp [t119, Rep, Reps]⟩⟩
theorem t120_ok : t120.ok Try.prog 120 := ⟨by kernel_rfl, by kernel_rfl, by kernel_rfl, Try.underlying120, (fun h => by cases h), ⟨rfl, rfl, rfl, rfl, fun F h β => by simp [t120, Rep, Reps]⟩⟩
theorem t121_ok : t121.ok Try.prog 121 := ⟨by kernel_rfl, by kernel_rfl, by kernel_rfl, Try.underlying121, (fun h => by cases h), ⟨rfl, rfl, rfl, rfl, fun F h β => by simp [t121, Rep, Reps]⟩⟩
theorem t122_ok : t122.ok Try.prog 122 := ⟨by kernel_rfl, by kernel_rfl, by kernel_rfl, Try.underlying122, (fun h => by cases h), ⟨rfl, rfl, rfl, rfl, fun F h β => by simp [t122, Rep, Reps]⟩⟩
theorem t123_ok : t123.ok Try.prog 123 := ⟨by kernel_rfl, by kernel_rfl, by kernel_rfl, ⟨_, Try.underlying123, rfl⟩, (fun h => by cases h), ⟨rfl, rfl, rfl, rfl, fun F h β => by
    show Rep F h β t123.z t123.zero
    simp only [t123, Rep, Reps]
    exact ⟨_, rfl, _, _, rfl, (by trivial), _, _, rfl, (.inl ⟨by trivial, none, 0, by trivial, by intros; rfl⟩), _, _, rfl, (.inl ⟨by trivial, none, 0, by trivial, by intros; rfl⟩), _, _, rfl, (.inl ⟨by trivial, none, 0, by trivial, by intros; rfl⟩), _, _, rfl, (.inl ⟨by trivial, none, 0, by trivial, by intros; rfl⟩), _, _, rfl, (.inl ⟨by trivial, none, 0, by trivial, by intros; rfl⟩), _, _, rfl, (.inl ⟨by trivial, none, 0, by trivial, by intros; rfl⟩), _, _, rfl, (.inl ⟨by trivial, none, 0, by trivial, by intros; rfl⟩), _, _, rfl, (by trivial), rfl⟩⟩⟩
theorem t124_ok : t124.ok Try.prog 124 := ⟨by kernel_rfl, by kernel_rfl, by kernel_rfl, ⟨_, Try.underlying124, rfl⟩, (fun h => by cases h), ⟨rfl, rfl, rfl, rfl, fun F h β => by
    show Rep F h β t124.z t124.zero
    simp only [t124, Rep, Reps]
    exact ⟨_, rfl, _, _, rfl, (by trivial), _, _, rfl, (.inl ⟨by trivial, none, 0, by trivial, by intros; rfl⟩), _, _, rfl, (.inl ⟨by trivial, none, 0, by trivial, by intros; rfl⟩), _, _, rfl, (.inl ⟨by trivial, none, 0, by trivial, by intros; rfl⟩), _, _, rfl, (.inl ⟨by trivial, none, 0, by trivial, by intros; rfl⟩), _, _, rfl, (.inl ⟨by trivial, none, 0, by trivial, by intros; rfl⟩), _, _, rfl, (.inl ⟨by trivial, none, 0, by trivial, by intros; rfl⟩), _, _, rfl, (.inl ⟨by trivial, none, 0, by trivial, by intros; rfl⟩), _, _, rfl, (by trivial), rfl⟩⟩⟩
theorem t127_ok : t127.ok Try.prog 127 := ⟨by kernel_rfl, by kernel_rfl, by kernel_rfl, Try.underlying127, (fun h => by cases h), ⟨rfl, rfl, rfl, rfl, fun F h β => by simp [t127, Rep, Reps]⟩⟩
theorem t128_ok : t128.ok Try.prog 128 := ⟨by kernel_rfl, by kernel_rfl, by kernel_rfl, Try.underlying128, (fun h => by cases h), ⟨rfl, rfl, rfl, rfl, fun F h β => by simp [t128, Rep, Reps]⟩⟩
theorem t129_ok : t129.ok Try.prog 129 := ⟨by kernel_rfl, by kernel_rfl, by kernel_rfl, Try.underlying129, (fun h => by cases h), ⟨rfl, rfl, rfl, rfl, fun F h β => by simp [t129, Rep, Reps]⟩⟩
theorem t130_ok : t130.ok Try.prog 130 := ⟨by kernel_rfl, by kernel_rfl, by kernel_rfl, Try.underlying130, (fun h => by cases h), ⟨rfl, rfl, rfl, rfl, fun F h β => by simp [t130, Rep, Reps]⟩⟩
theorem t131_ok : t131.ok Try.prog 131 := ⟨by kernel_rfl, by kernel_rfl, by kernel_rfl, Try.underlying131, (fun h => by cases h), ⟨rfl, rfl, rfl, rfl, fun F h β => by simp [t131, Rep, Reps]⟩⟩
theorem t132_ok : t132.ok Try.prog 132 := ⟨by kernel_rfl, by kernel_rfl, by kernel_rfl, ⟨_, Try.underlying132, rfl⟩, (fun h => by cases h), ⟨rfl, rfl, rfl, rfl, fun F h β => by
    show Rep F h β t132.z t132.zero
    simp only [t132, Rep, Reps]
    exact ⟨_, rfl, _, _, rfl, (by trivial), _, _, rfl, (.inl ⟨by trivial, none, 0, by trivial, by intros; rfl⟩), _, _, rfl, (.inl ⟨by trivial, none, 0, by trivial, by intros; rfl⟩), _, _, rfl, (.inl ⟨by trivial, none, 0, by trivial, by intros; rfl⟩), _, _, rfl, (.inl ⟨by trivial, none, 0, by trivial, by intros; rfl⟩), _, _, rfl, (.inl ⟨by trivial, none, 0, by trivial, by intros; rfl⟩), _, _, rfl, (.inl ⟨by trivial, none, 0, by trivial, by intros; rfl⟩), _, _, rfl, (.inl ⟨by trivial, none, 0, by trivial, by intros; rfl⟩), _, _, rfl, (by trivial), rfl⟩⟩⟩
theorem t133_ok : t133.ok Try.prog 133 := ⟨by kernel_rfl, by kernel_rfl, by kernel_rfl, ⟨_, Try.underlying133, rfl⟩, (fun h => by cases h), ⟨rfl, rfl, rfl, rfl, fun F h β => by
    show Rep F h β t133.z t133.zero
    simp only [t133, Rep, Reps]
    exact ⟨_, rfl, _, _, rfl, (by trivial), _, _, rfl, (.inl ⟨by trivial, none, 0, by trivial, by intros; rfl⟩), _, _, rfl, (.inl ⟨by trivial, none, 0, by trivial, by intros; rfl⟩), _, _, rfl, (.inl ⟨by trivial, none, 0, by trivial, by intros; rfl⟩), _, _, rfl, (.inl ⟨by trivial, none, 0, by trivial, by intros; rfl⟩), _, _, rfl, (.inl ⟨by trivial, none, 0, by trivial, by intros; rfl⟩), _, _, rfl, (.inl ⟨by trivial, none, 0, by trivial, by intros; rfl⟩), _, _, rfl, (.inl ⟨by trivial, none, 0, by trivial, by intros; rfl⟩), _, _, rfl, (by trivial), rfl⟩⟩⟩
theorem t144_ok : t144.ok Try.prog 144 := ⟨by kernel_rfl, by kernel_rfl, by kernel_rfl, ⟨_, _, _, Try.underlying144⟩, (fun h => by cases h), ⟨rfl, rfl, rfl, rfl, fun F h β => by simp [t144, Rep, Reps]⟩⟩
theorem t145_ok : t145.ok Try.prog 145 := ⟨by kernel_rfl, by kernel_rfl, by kernel_rfl, ⟨_, Try.underlying145, rfl⟩, (fun h => by cases h), ⟨rfl, rfl, rfl, rfl, fun F h β => by
    show Rep F h β t145.z t145.zero
    simp only [t145, Rep, Reps]
    exact ⟨_, rfl, _, _, rfl, (.inl ⟨by trivial, none, 0, by trivial, by intros; rfl⟩), _, _, rfl, (by trivial), rfl⟩⟩⟩
theorem t146_ok : t146.ok Try.prog 146 := ⟨by kernel_rfl, by kernel_rfl, by kernel_rfl, ⟨_, Try.underlying146, rfl⟩, (fun h => by cases h), ⟨rfl, rfl, rfl, rfl, fun F h β => by
    show Rep F h β t146.z t146.zero
    simp only [t146, Rep, Reps]
    exact ⟨_, rfl, _, _, rfl, (.inl ⟨by trivial, none, 0, by trivial, by intros; rfl⟩), _, _, rfl, (by trivial), rfl⟩⟩⟩
theorem t156_ok : t156.ok Try.prog 156 := ⟨by kernel_rfl, by kernel_rfl, by kernel_rfl, ⟨_, _, _, Try.underlying156⟩, (fun h => by cases h), ⟨rfl, rfl, rfl, rfl, fun F h β => by simp [t156, Rep, Reps]⟩⟩
theorem t157_ok : t157.ok Try.prog 157 := ⟨by kernel_rfl, by kernel_rfl, by kernel_rfl, ⟨_, _, _, Try.underlying157⟩, (fun h => by cases h), ⟨rfl, rfl, rfl, rfl, fun F h β => by simp [t157, Rep, Reps]⟩⟩
theorem t158_ok : t158.ok Try.prog 158 := ⟨by kernel_rfl, by kernel_rfl, by kernel_rfl, ⟨_, Try.underlying158, rfl⟩, (fun h => by cases h), ⟨rfl, rfl, rfl, rfl, fun F h β => by
    show Rep F h β t158.z t158.zero
    simp only [t158, Rep, Reps]
    exact ⟨_, rfl, _, _, rfl, (.inl ⟨by trivial, none, 0, by trivial, by intros; rfl⟩), _, _, rfl, (by trivial), rfl⟩⟩⟩
theorem t159_ok : t159.ok Try.prog 159 := ⟨by kernel_rfl, by kernel_rfl, by kernel_rfl, ⟨_, Try.underlying159, rfl⟩, (fun h => by cases h), ⟨rfl, rfl, rfl, rfl, fun F h β => by
    show Rep F h β t159.z t159.zero
    simp only [t159, Rep, Reps]
    exact ⟨_, rfl, _, _, rfl, (.inl ⟨by trivial, none, 0, by trivial, by intros; rfl⟩), _, _, rfl, (by trivial), rfl⟩⟩⟩
theorem t162_ok : t162.ok Try.prog 162 := ⟨by kernel_rfl, by kernel_rfl, by kernel_rfl, ⟨_, _, _, Try.underlying162⟩, (fun h => by cases h), ⟨rfl, rfl, rfl, rfl, fun F h β => by simp [t162, Rep, Reps]⟩⟩
theorem t167_ok : t167.ok Try.prog 167 := ⟨by kernel_rfl, by kernel_rfl, by kernel_rfl, ⟨_, Try.underlying167⟩, (fun h => by cases h), ⟨rfl, rfl, rfl, rfl, fun F h β => by simp [t167, Rep, Reps]⟩⟩
theorem t168_ok : t168.ok Try.prog 168 := ⟨by kernel_rfl, by kernel_rfl, by kernel_rfl, ⟨_, Try.underlying168⟩, (fun h => by cases h), ⟨rfl, rfl, rfl, rfl, fun F h β => by simp [t168, Rep, Reps]⟩⟩
theorem t170_ok : t170.ok Try.prog 170 := ⟨by kernel_rfl, by kernel_rfl, by kernel_rfl, ⟨_, Try.underlying170, rfl⟩, (fun _ => eqInts_of (by kernel_rfl) (by kernel_rfl) (by kernel_rfl)), ⟨rfl, rfl, rfl, rfl, fun F h β => by simp [t170, Rep, Reps]⟩⟩
theorem t171_ok : t171.ok Try.prog 171 := ⟨by kernel_rfl, by kernel_rfl, by kernel_rfl, ⟨_, Try.underlying171, rfl⟩, (fun _ => eqInts_of (by kernel_rfl) (by kernel_rfl) (by kernel_rfl)), ⟨rfl, rfl, rfl, rfl, fun F h β => by simp [t171, Rep, Reps]⟩⟩
theorem t173_ok : t173.ok Try.prog 173 := ⟨by kernel_rfl, by kernel_rfl, by kernel_rfl, ⟨_, Try.underlying173, rfl⟩, (fun _ => eqInts_of (by kernel_rfl) (by kernel_rfl) (by kernel_rfl)), ⟨rfl, rfl, rfl, rfl, fun F h β => by simp [t173, Rep, Reps]⟩⟩
theorem t179_ok : t179.ok Try.prog 179 := ⟨by kernel_rfl, by kernel_rfl, by kernel_rfl, Try.underlying179, (fun h => by cases h), ⟨rfl, rfl, rfl, rfl, fun F h β => by simp [t179, Rep, Reps]⟩⟩
theorem t180_ok : t180.ok Try.prog 180 := ⟨by kernel_rfl, by kernel_rfl, by kernel_rfl, ⟨_, Try.underlying180, rfl⟩, (fun _ => eqInts_of (by kernel_rfl) (by kernel_rfl) (by kernel_rfl)), ⟨rfl, rfl, rfl, rfl, fun F h β => by simp [t180, Rep, Reps]⟩⟩
theorem t181_ok : t181.ok Try.prog 181 := ⟨by kernel_rfl, by kernel_rfl, by kernel_rfl, ⟨_, Try.underlying181, rfl⟩, (fun _ => eqInts_of (by kernel_rfl) (by kernel_rfl) (by kernel_rfl)), ⟨rfl, rfl, rfl, rfl, fun F h β => by simp [t181, Rep, Reps]⟩⟩
theorem t182_ok : t182.ok Try.prog 182 := ⟨by kernel_rfl, by kernel_rfl, by kernel_rfl, ⟨_, Try.underlying182, rfl⟩, (fun _ => eqInts_of (by kernel_rfl) (by kernel_rfl) (by kernel_rfl)), ⟨rfl, rfl, rfl, rfl, fun F h β => by simp [t182, Rep, Reps]⟩⟩
theorem t183_ok : t183.ok Try.prog 183 := ⟨by kernel_rfl, by kernel_rfl, by kernel_rfl, ⟨_, Try.underlying183, rfl⟩, (fun _ => eqInts_of (by kernel_rfl) (by kernel_rfl) (by kernel_rfl)), ⟨rfl, rfl, rfl, rfl, fun F h β => by simp [t183, Rep, Reps]⟩⟩
theorem t189_ok : t189.ok Try.prog 189 := ⟨by kernel_rfl, by kernel_rfl, by kernel_rfl, Try.underlying189, (fun h => by cases h), ⟨rfl, rfl, rfl, rfl, fun F h β => by simp [t189, Rep, Reps]⟩⟩
theorem t190_ok : t190.ok Try.prog 190 := ⟨by kernel_rfl, by kernel_rfl, by kernel_rfl, ⟨_, Try.underlying190, rfl⟩, (fun h => by cases h), ⟨rfl, rfl, rfl, rfl, fun F h β => by
    show Rep F h β t190.z t190.zero
    simp only [t190, Rep, Reps]
    exact ⟨_, rfl, _, _, rfl, (by trivial), _, _, rfl, (.inl ⟨by trivial, none, 0, by trivial, by intros; rfl⟩), _, _, rfl, (by trivial), rfl⟩⟩⟩
theorem t191_ok : t191.ok Try.prog 191 := ⟨by kernel_rfl, by kernel_rfl, by kernel_rfl, ⟨_, Try.underlying191, rfl⟩, (fun h => by cases h), ⟨rfl, rfl, rfl, rfl, fun F h β => by
    show Rep F h β t191.z t191.zero
    simp only [t191, Rep, Reps]
    exact ⟨_, rfl, _, _, rfl, (by trivial), _, _, rfl, (.inl ⟨by trivial, none, 0, by trivial, by intros; rfl⟩), _, _, rfl, (by trivial), rfl⟩⟩⟩
theorem t192_ok : t192.ok Try.prog 192 := ⟨by kernel_rfl, by kernel_rfl, by kernel_rfl, Try.underlying192, (fun h => by cases h), ⟨rfl, rfl, rfl, rfl, fun F h β => by simp [t192, Rep, Reps]⟩⟩
theorem t193_ok : t193.ok Try.prog 193 := ⟨by kernel_rfl, by kernel_rfl, by kernel_rfl, ⟨_, Try.underlying193, rfl⟩, (fun h => by cases h), ⟨rfl, rfl, rfl, rfl, fun F h β => by
    show Rep F h β t193.z t193.zero
    simp only [t193, Rep, Reps]
    exact ⟨_, rfl, _, _, rfl, (by trivial), _, _, rfl, (.inl ⟨by trivial, none, 0, by trivial, by intros; rfl⟩), _, _, rfl, (by trivial), rfl⟩⟩⟩
theorem t194_ok : t194.ok Try.prog 194 := ⟨by kernel_rfl, by kernel_rfl, by kernel_rfl, ⟨_, Try.underlying194, rfl⟩, (fun h => by cases h), ⟨rfl, rfl, rfl, rfl, fun F h β => by
    show Rep F h β t194.z t194.zero
    simp only [t194, Rep, Reps]
    exact ⟨_, rfl, _, _, rfl, (by trivial), _, _, rfl, (.inl ⟨by trivial, none, 0, by trivial, by intros; rfl⟩), _, _, rfl, (by trivial), rfl⟩⟩⟩
theorem t197_ok : t197.ok Try.prog 197 := ⟨by kernel_rfl, by kernel_rfl, by kernel_rfl, ⟨_, _, _, Try.underlying197⟩, (fun h => by cases h), ⟨rfl, rfl, rfl, rfl, fun F h β => by simp [t197, Rep, Reps]⟩⟩
theorem t198_ok : t198.ok Try.prog 198 := ⟨by kernel_rfl, by kernel_rfl, by kernel_rfl, ⟨_, Try.underlying198, rfl⟩, (fun h => by cases h), ⟨rfl, rfl, rfl, rfl, fun F h β => by
    show Rep F h β t198.z t198.zero
    simp only [t198, Rep, Reps]
    exact ⟨_, rfl, _, _, rfl, (.inl ⟨by trivial, none, 0, by trivial, by intros; rfl⟩), _, _, rfl, (by trivial), rfl⟩⟩⟩
theorem t199_ok : t199.ok Try.prog 199 := ⟨by kernel_rfl, by kernel_rfl, by kernel_rfl, ⟨_, Try.underlying199, rfl⟩, (fun h => by cases h), ⟨rfl, rfl, rfl, rfl, fun F h β => by
    show Rep F h β t199.z t199.zero
    simp only [t199, Rep, Reps]
    exact ⟨_, rfl, _, _, rfl, (.inl ⟨by trivial, none, 0, by trivial, by intros; rfl⟩), _, _, rfl, (by trivial), rfl⟩⟩⟩
theorem t206_ok : t206.ok Try.prog 206 := ⟨by kernel_rfl, by kernel_rfl, by kernel_rfl, ⟨_, Try.underlying206, rfl⟩, (fun _ => eqInts_of (by kernel_rfl) (by kernel_rfl) (by kernel_rfl)), ⟨rfl, rfl, rfl, rfl, fun F h β => by simp [t206, Rep, Reps]⟩⟩
theorem t207_ok : t207.ok Try.prog 207 := ⟨by kernel_rfl, by kernel_rfl, by kernel_rfl, ⟨_, Try.underlying207, rfl⟩, (fun _ => eqInts_of (by kernel_rfl) (by kernel_rfl) (by kernel_rfl)), ⟨rfl, rfl, rfl, rfl, fun F h β => by simp [t207, Rep, Reps]⟩⟩
theorem t209_ok : t209.ok Try.prog 209 := ⟨by kernel_rfl, by kernel_rfl, by kernel_rfl, ⟨_, Try.underlying209, rfl⟩, (fun h => by cases h), ⟨rfl, rfl, rfl, rfl, fun F h β => by
    show Rep F h β t209.z t209.zero
    simp only [t209, Rep, Reps]
    exact ⟨_, rfl, _, _, rfl, (by trivial), _, _, rfl, (by trivial), _, _, rfl, (by trivial), _, _, rfl, (by trivial), _, _, rfl, (by trivial), _, _, rfl, (by trivial), _, _, rfl, (by trivial), _, _, rfl, (by trivial), _, _, rfl, (by trivial), _, _, rfl, (.inl ⟨by trivial, none, 0, by trivial, by intros; rfl⟩), _, _, rfl, (by trivial), _, _, rfl, (by trivial), _, _, rfl, (by trivial), _, _, rfl, (.inl ⟨by trivial, none, 0, by trivial, by intros; rfl⟩), rfl⟩⟩⟩
theorem t210_ok : t210.ok Try.prog 210 := ⟨by kernel_rfl, by kernel_rfl, by kernel_rfl, ⟨_, Try.underlying210, rfl⟩, (fun h => by cases h), ⟨rfl, rfl, rfl, rfl, fun F h β => by
    show Rep F h β t210.z t210.zero
    simp only [t210, Rep, Reps]
    exact ⟨_, rfl, _, _, rfl, (by trivial), _, _, rfl, (by trivial), _, _, rfl, (by trivial), _, _, rfl, (by trivial), _, _, rfl, (by trivial), _, _, rfl, (by trivial), _, _, rfl, (by trivial), _, _, rfl, (by trivial), _, _, rfl, (by trivial), _, _, rfl, (.inl ⟨by trivial, none, 0, by trivial, by intros; rfl⟩), _, _, rfl, (by trivial), _, _, rfl, (by trivial), _, _, rfl, (by trivial), _, _, rfl, (.inl ⟨by trivial, none, 0, by trivial, by intros; rfl⟩), rfl⟩⟩⟩
theorem t211_ok : t211.ok Try.prog 211 := ⟨by kernel_rfl, by kernel_rfl, by kernel_rfl, ⟨_, Try.underlying211, rfl⟩, (fun h => by cases h), ⟨rfl, rfl, rfl, rfl, fun F h β => by
    show Rep F h β t211.z t211.zero
    simp only [t211, Rep, Reps]
    exact ⟨_, rfl, _, _, rfl, (by trivial), _, _, rfl, (by trivial), _, _, rfl, (by trivial), _, _, rfl, (by trivial), _, _, rfl, (by trivial), _, _, rfl, (by trivial), _, _, rfl, (by trivial), _, _, rfl, (by trivial), _, _, rfl, (by trivial), _, _, rfl, (.inl ⟨by trivial, none, 0, by trivial, by intros; rfl⟩), _, _, rfl, (by trivial), _, _, rfl, (by trivial), _, _, rfl, (by trivial), _, _, rfl, (.inl ⟨by trivial, none, 0, by trivial, by intros; rfl⟩), rfl⟩⟩⟩
theorem t212_ok : t212.ok Try.prog 212 := ⟨by kernel_rfl, by kernel_rfl, by kernel_rfl, ⟨_, Try.underlying212, rfl⟩, (fun h => by cases h), ⟨rfl, rfl, rfl, rfl, fun F h β => by
    show Rep F h β t212.z t212.zero
    simp only [t212, Rep, Reps]
    exact ⟨_, rfl, _, _, rfl, (by trivial), _, _, rfl, (by trivial), _, _, rfl, (by trivial), _, _, rfl, (by trivial), _, _, rfl, (by trivial), _, _, rfl, (by trivial), _, _, rfl, (by trivial), _, _, rfl, (by trivial), _, _, rfl, (by trivial), _, _, rfl, (.inl ⟨by trivial, none, 0, by trivial, by intros; rfl⟩), _, _, rfl, (by trivial), _, _, rfl, (by trivial), _, _, rfl, (by trivial), _, _, rfl, (.inl ⟨by trivial, none, 0, by trivial, by intros; rfl⟩), rfl⟩⟩⟩
theorem t218_ok : t218.ok Try.prog 218 := ⟨by kernel_rfl, by kernel_rfl, by kernel_rfl, ⟨_, Try.underlying218, rfl⟩, (fun _ => eqInts_of (by kernel_rfl) (by kernel_rfl) (by kernel_rfl)), ⟨rfl, rfl, rfl, rfl, fun F h β => by simp [t218, Rep, Reps]⟩⟩
theorem t219_ok : t219.ok Try.prog 219 := ⟨by kernel_rfl, by kernel_rfl, by kernel_rfl, ⟨_, Try.underlying219, rfl⟩, (fun _ => eqInts_of (by kernel_rfl) (by kernel_rfl) (by kernel_rfl)), ⟨rfl, rfl, rfl, rfl, fun F h β => by simp [t219, Rep, Reps]⟩⟩
theorem t227_ok : t227.ok Try.prog 227 := ⟨by kernel_rfl, by kernel_rfl, by kernel_rfl, ⟨_, Try.underlying227, rfl⟩, (fun _ => eqInts_of (by kernel_rfl) (by kernel_rfl) (by kernel_rfl)), ⟨rfl, rfl, rfl, rfl, fun F h β => by simp [t227, Rep, Reps]⟩⟩
theorem t228_ok : t228.ok Try.prog 228 := ⟨by kernel_rfl, by kernel_rfl, by kernel_rfl, ⟨_, Try.underlying228, rfl⟩, (fun _ => eqInts_of (by kernel_rfl) (by kernel_rfl) (by kernel_rfl)), ⟨rfl, rfl, rfl, rfl, fun F h β => by simp [t228, Rep, Reps]⟩⟩
theorem t248_ok : t248.ok Try.prog 248 := ⟨by kernel_rfl, by kernel_rfl, by kernel_rfl, Try.underlying248, (fun h => by cases h), ⟨rfl, rfl, rfl, rfl, fun F h β => by simp [t248, Rep, Reps]⟩⟩
theorem t250_ok : t250.ok Try.prog 250 := ⟨by kernel_rfl, by kernel_rfl, by kernel_rfl, ⟨_, Try.underlying250, rfl⟩, (fun h => by cases h), ⟨rfl, rfl, rfl, rfl, fun F h β => by simp [t250, Rep, Reps]⟩⟩
theorem t251_ok : t251.ok Try.prog 251 := ⟨by kernel_rfl, by kernel_rfl, by kernel_rfl, ⟨_, Try.underlying251, rfl⟩, (fun h => by cases h), ⟨rfl, rfl, rfl, rfl, fun F h β => by simp [t251, Rep, Reps]⟩⟩
theorem t255_ok : t255.ok Try.prog 255 := ⟨by kernel_rfl, by kernel_rfl, by kernel_rfl, Try.underlying255, (fun h => by cases h), ⟨rfl, rfl, rfl, rfl, fun F h β => by simp [t255, Rep, Reps]⟩⟩
theorem t256_ok : t256.ok Try.prog 256 := ⟨by kernel_rfl, by kernel_rfl, by kernel_rfl, Try.underlying256, (fun h => by cases h), ⟨rfl, rfl, rfl, rfl, fun F h β => by simp [t256, Rep, Reps]⟩⟩
theorem t260_ok : t260.ok Try.prog 260 := ⟨by kernel_rfl, by kernel_rfl, by kernel_rfl, Try.underlying260, (fun h => by cases h), ⟨rfl, rfl, rfl, rfl, fun F h β => by simp [t260, Rep, Reps]⟩⟩
theorem t261_ok : t261.ok Try.prog 261 := ⟨by kernel_rfl, by kernel_rfl, by kernel_rfl, ⟨_, Try.underlying261, rfl⟩, (fun _ => eqInts_of (by kernel_rfl) (by kernel_rfl) (by kernel_rfl)), ⟨rfl, rfl, rfl, rfl, fun F h β => by simp [t261, Rep, Reps]⟩⟩
theorem t262_ok : t262.ok Try.prog 262 := ⟨by kernel_rfl, by kernel_rfl, by kernel_rfl, ⟨_, Try.underlying262, rfl⟩, (fun _ => eqInts_of (by kernel_rfl) (by kernel_rfl) (by kernel_rfl)), ⟨rfl, rfl, rfl, rfl, fun F h β => by simp [t262, Rep, Reps]⟩⟩
theorem t264_ok : t264.ok Try.prog 264 := ⟨by kernel_rfl, by kernel_rfl, by kernel_rfl, ⟨_, Try.underlying264, rfl⟩, (fun _ => eqInts_of (by kernel_rfl) (by kernel_rfl) (by kernel_rfl)), ⟨rfl, rfl, rfl, rfl, fun F h β => by simp [t264, Rep, Reps]⟩⟩
theorem t266_ok : t266.ok Try.prog 266 := ⟨by kernel_rfl, by kernel_rfl, by kernel_rfl, ⟨_, Try.underlying266, rfl⟩, (fun _ => eqInts_of (by kernel_rfl) (by kernel_rfl) (by kernel_rfl)), ⟨rfl, rfl, rfl, rfl, fun F h β => by simp [t266, Rep, Reps]⟩⟩
theorem t267_ok : t267.ok Try.prog 267 := ⟨by kernel_rfl, by kernel_rfl, by kernel_rfl, ⟨_, Try.underlying267, rfl⟩, (fun _ => eqInts_of (by kernel_rfl) (by kernel_rfl) (by kernel_rfl)), ⟨rfl, rfl, rfl, rfl, fun F h β => by simp [t267, Rep, Reps]⟩⟩
theorem t268_ok : t268.ok Try.prog 268 := ⟨by kernel_rfl, by kernel_rfl, by kernel_rfl, ⟨_, Try.underlying268, rfl⟩, (fun _ => eqInts_of (by kernel_rfl) (by kernel_rfl) (by kernel_rfl)), ⟨rfl, rfl, rfl, rfl, fun F h β => by simp [t268, Rep, Reps]⟩⟩
theorem t270_ok : t270.ok Try.prog 270 := ⟨by kernel_rfl, by kernel_rfl, by kernel_rfl, ⟨_, Try.underlying270, rfl⟩, (fun _ => eqInts_of (by kernel_rfl) (by kernel_rfl) (by kernel_rfl)), ⟨rfl, rfl, rfl, rfl, fun F h β => by simp [t270, Rep, Reps]⟩⟩
theorem t271_ok : t271.ok Try.prog 271 := ⟨by kernel_rfl, by kernel_rfl, by kernel_rfl, ⟨_, Try.underlying271, rfl⟩, (fun _ => eqInts_of (by kernel_rfl) (by kernel_rfl) (by kernel_rfl)), ⟨rfl, rfl, rfl, rfl, fun F h β => by simp [t271, Rep, Reps]⟩⟩
theorem t272_ok : t272.ok Try.prog 272 := ⟨by kernel_rfl, by kernel_rfl, by kernel_rfl, ⟨_, Try.underlying272, rfl⟩, (fun _ => eqInts_of (by kernel_rfl) (by kernel_rfl) (by kernel_rfl)), ⟨rfl, rfl, rfl, rfl, fun F h β => by simp [t272, Rep, Reps]⟩⟩
theorem t274_ok : t274.ok Try.prog 274 := ⟨by kernel_rfl, by kernel_rfl, by kernel_rfl, ⟨_, Try.underlying274, rfl⟩, (fun _ => eqInts_of (by kernel_rfl) (by kernel_rfl) (by kernel_rfl)), ⟨rfl, rfl, rfl, rfl, fun F h β => by simp [t274, Rep, Reps]⟩⟩
theorem t275_ok : t275.ok Try.prog 275 := ⟨by kernel_rfl, by kernel_rfl, by kernel_rfl, ⟨_, Try.underlying275, rfl⟩, (fun _ => eqInts_of (by kernel_rfl) (by kernel_rfl) (by kernel_rfl)), ⟨rfl, rfl, rfl, rfl, fun F h β => by simp [t275, Rep, Reps]⟩⟩
theorem t276_ok : t276.ok Try.prog 276 := ⟨by kernel_rfl, by kernel_rfl, by kernel_rfl, ⟨_, Try.underlying276, rfl⟩, (fun _ => eqInts_of (by kernel_rfl) (by kernel_rfl) (by kernel_rfl)), ⟨rfl, rfl, rfl, rfl, fun F h β => by simp [t276, Rep, Reps]⟩⟩
theorem t278_ok : t278.ok Try.prog 278 := ⟨by kernel_rfl, by kernel_rfl, by kernel_rfl, ⟨_, Try.underlying278, rfl⟩, (fun _ => eqInts_of (by kernel_rfl) (by kernel_rfl) (by kernel_rfl)), ⟨rfl, rfl, rfl, rfl, fun F h β => by simp [t278, Rep, Reps]⟩⟩
theorem t286_ok : t286.ok Try.prog 286 := ⟨by kernel_rfl, by kernel_rfl, by kernel_rfl, Try.underlying286, (fun h => by cases h), ⟨rfl, rfl, rfl, rfl, fun F h β => by simp [t286, Rep, Reps]⟩⟩
theorem t288_ok : t288.ok Try.prog 288 := ⟨by kernel_rfl, by kernel_rfl, by kernel_rfl, ⟨_, _, _, Try.underlying288⟩, (fun h => by cases h), ⟨rfl, rfl, rfl, rfl, fun F h β => by simp [t288, Rep, Reps]⟩⟩
theorem t290_ok : t290.ok Try.prog 290 := ⟨by kernel_rfl, by kernel_rfl, by kernel_rfl, Try.underlying290, (fun h => by cases h), ⟨rfl, rfl, rfl, rfl, fun F h β => by simp [t290, Rep, Reps]⟩⟩
theorem t292_ok : t292.ok Try.prog 292 := ⟨by kernel_rfl, by kernel_rfl, by kernel_rfl, Try.underlying292, (fun h => by cases h), ⟨rfl, rfl, rfl, rfl, fun F h β => by simp [t292, Rep, Reps]⟩⟩
theorem t294_ok : t294.ok Try.prog 294 := ⟨by kernel_rfl, by kernel_rfl, by kernel_rfl, Try.underlying294, (fun h => by cases h), ⟨rfl, rfl, rfl, rfl, fun F h β => by simp [t294, Rep, Reps]⟩⟩
theorem t296_ok : t296.ok Try.prog 296 := ⟨by kernel_rfl, by kernel_rfl, by kernel_rfl, ⟨_, Try.underlying296, rfl⟩, (fun h => by cases h), ⟨rfl, rfl, rfl, rfl, fun F h β => by simp [t296, Rep, Reps]⟩⟩
theorem t297_ok : t297.ok Try.prog 297 := ⟨by kernel_rfl, by kernel_rfl, by kernel_rfl, ⟨_, Try.underlying297, rfl⟩, (fun h => by cases h), ⟨rfl, rfl, rfl, rfl, fun F h β => by simp [t297, Rep, Reps]⟩⟩
theorem t300_ok : t300.ok Try.prog 300 := ⟨by kernel_rfl, by kernel_rfl, by kernel_rfl, ⟨_, Try.underlying300, rfl⟩, (fun _ => eqInts_of (by kernel_rfl) (by kernel_rfl) (by kernel_rfl)), ⟨rfl, rfl, rfl, rfl, fun F h β => by simp [t300, Rep, Reps]⟩⟩
theorem t301_ok : t301.ok Try.prog 301 := ⟨by kernel_rfl, by kernel_rfl, by kernel_rfl, ⟨_, _, _, Try.underlying301⟩, (fun h => by cases h), ⟨rfl, rfl, rfl, rfl, fun F h β => by simp [t301, Rep, Reps]⟩⟩
theorem t302_ok : t302.ok Try.prog 302 := ⟨by kernel_rfl, by kernel_rfl, by kernel_rfl, ⟨_, Try.underlying302, rfl⟩, (fun h => by cases h), ⟨rfl, rfl, rfl, rfl, fun F h β => by
    show Rep F h β t302.z t302.zero
    simp only [t302, Rep, Reps]
    exact ⟨_, rfl, _, _, rfl, (.inl ⟨by trivial, none, 0, by trivial, by intros; rfl⟩), _, _, rfl, (by trivial), rfl⟩⟩⟩
theorem t303_ok : t303.ok Try.prog 303 := ⟨by kernel_rfl, by kernel_rfl, by kernel_rfl, ⟨_, Try.underlying303, rfl⟩, (fun h => by cases h), ⟨rfl, rfl, rfl, rfl, fun F h β => by
    show Rep F h β t303.z t303.zero
    simp only [t303, Rep, Reps]
    exact ⟨_, rfl, _, _, rfl, (.inl ⟨by trivial, none, 0, by trivial, by intros; rfl⟩), _, _, rfl, (by trivial), rfl⟩⟩⟩
theorem t318_ok : t318.ok Try.prog 318 := ⟨by kernel_rfl, by kernel_rfl, by kernel_rfl, Try.underlying318, (fun h => by cases h), ⟨rfl, rfl, rfl, rfl, fun F h β => by simp [t318, Rep, Reps]⟩⟩
theorem t321_ok : t321.ok Try.prog 321 := ⟨by kernel_rfl, by kernel_rfl, by kernel_rfl, ⟨_, _, _, Try.underlying321⟩, (fun h => by cases h), ⟨rfl, rfl, rfl, rfl, fun F h β => by simp [t321, Rep, Reps]⟩⟩
theorem t322_ok : t322.ok Try.prog 322 := ⟨by kernel_rfl, by kernel_rfl, by kernel_rfl, Try.underlying322, (fun h => by cases h), ⟨rfl, rfl, rfl, rfl, fun F h β => by simp [t322, Rep, Reps]⟩⟩
theorem t325_ok : t325.ok Try.prog 325 := ⟨by kernel_rfl, by kernel_rfl, by kernel_rfl, ⟨_, Try.underlying325, rfl⟩, (fun h => by cases h), ⟨rfl, rfl, rfl, rfl, fun F h β => by simp [t325, Rep, Reps]⟩⟩
theorem t340_ok : t340.ok Try.prog 340 := ⟨by kernel_rfl, by kernel_rfl, by kernel_rfl, ⟨_, Try.underlying340, rfl⟩, (fun _ => eqInts_of (by kernel_rfl) (by kernel_rfl) (by kernel_rfl)), ⟨rfl, rfl, rfl, rfl, fun F h β => by simp [t340, Rep, Reps]⟩⟩
theorem t341_ok : t341.ok Try.prog 341 := ⟨by kernel_rfl, by kernel_rfl, by kernel_rfl, ⟨_, Try.underlying341, rfl⟩, (fun _ => eqInts_of (by kernel_rfl) (by kernel_rfl) (by kernel_rfl)), ⟨rfl, rfl, rfl, rfl, fun F h β => by simp [t341, Rep, Reps]⟩⟩
def G : Ctx := [(2, t2), (3, t3), (4, t4), (5, t5), (9, t9), (12, t12), (20, t20), (21, t21), (25, t25), (31, t31), (34, t34), (40, t40), (41, t41), (42, t42), (43, t43), (44, t44), (48, t48), (49, t49), (50, t50), (55, t55), (58, t58), (65, t65), (66, t66), (67, t67), (68, t68), (70, t70), (71, t71), (72, t72), (76, t76), (78, t78), (87, t87), (92, t92), (93, t93), (96, t96), (101, t101), (104, t104), (109, t109), (112, t112), (118, t118), (119, t119), (120, t120), (121, t121), (122, t122), (123, t123), (124, t124), (127, t127), (128, t128), (129, t129), (130, t130), (131, t131), (132, t132), (133, t133), (144, t144), (145, t145), (146, t146), (156, t156), (157, t157), (158, t158), (159, t159), (162, t162), (167, t167), (168, t168), (170, t170), (171, t171), (173, t173), (179, t179), (180, t180), (181, t181), (182, t182), (183, t183), (189, t189), (190, t190), (191, t191), (192, t192), (193, t193), (194, t194), (197, t197), (198, t198), (199, t199), (206, t206), (207, t207), (209, t209), (210, t210), (211, t211), (212, t212), (218, t218), (219, t219), (227, t227), (228, t228), (248, t248), (250, t250), (251, t251), (255, t255), (256, t256), (260, t260), (261, t261), (262, t262), (264, t264), (266, t266), (267, t267), (268, t268), (270, t270), (271, t271), (272, t272), (274, t274), (275, t275), (276, t276), (278, t278), (286, t286), (288, t288), (290, t290), (292, t292), (294, t294), (296, t296), (297, t297), (300, t300), (301, t301), (302, t302), (303, t303), (318, t318), (321, t321), (322, t322), (325, t325), (340, t340), (341, t341)]
@[simp] theorem G_2 : G.get 2 = some t2 := rfl
@[simp] theorem G_3 : G.get 3 = some t3 := rfl
@[simp] theorem G_4 : G.get 4 = some t4 := rfl
@[simp] theorem G_5 : G.get 5 = some t5 := rfl
@[simp] theorem G_9 : G.get 9 = some t9 := rfl
@[simp] theorem G_12 : G.get 12 = some t12 := rfl
@[simp] theorem G_20 : G.get 20 = some t20 := rfl
@[simp] theorem G_21 : G.get 21 = some t21 := rfl
@[simp] theorem G_25 : G.get 25 = some t25 := rfl
@[simp] theorem G_31 : G.get 31 = some t31 := rfl
@[simp] theorem G_34 : G.get 34 = some t34 := rfl
@[simp] theorem G_40 : G.get 40 = some t40 := rfl
@[simp] theorem G_41 : G.get 41 = some t41 := rfl
@[simp] theorem G_42 : G.get 42 = some t42 := rfl
@[simp] theorem G_43 : G.get 43 = some t43 := rfl
@[simp] theorem G_44 : G.get 44 = some t44 := rfl
@[simp] theorem G_48 : G.get 48 = some t48 := rfl
@[simp] theorem G_49 : G.get 49 = some t49 := rfl
@[simp] theorem G_50 : G.get 50 = some t50 := rfl
@[simp] theorem G_55 : G.get 55 = some t55 := rfl
@[simp] theorem G_58 : G.get 58 = some t58 := rfl
@[simp] theorem G_65 : G.get 65 = some t65 := rfl
@[simp] theorem G_66 : G.get 66 = some t66 := rfl
@[simp] theorem G_67 : G.get 67 = some t67 := rfl
@[simp] theorem G_68 : G.get 68 = some t68 := rfl
@[simp] theorem G_70 : G.get 70 = some t70 := rfl
@[simp] theorem G_71 : G.get 71 = some t71 := rfl
@[simp] theorem G_72 : G.get 72 = some t72 := rfl
@[simp] theorem G_76 : G.get 76 = some t76 := rfl
@[simp] theorem G_78 : G.get 78 = some t78 := rfl
@[simp] theorem G_87 : G.get 87 = some t87 := rfl
@[simp] theorem G_92 : G.get 92 = some t92 := rfl
@[simp] theorem G_93 : G.get 93 = some t93 := rfl
@[simp] theorem G_96 : G.get 96 = some t96 := rfl
@[simp] theorem G_101 : G.get 101 = some t101 := rfl
@[simp] theorem G_104 : G.get 104 = some t104 := rfl
@[simp] theorem G_109 : G.get 109 = some t109 := rfl
@[simp] theorem G_112 : G.get 112 = some t112 := rfl
@[simp] theorem G_118 : G.get 118 = some t118 := rfl
@[simp] theorem G_119 : G.get 119 = some t119 := rfl
@[simp] theorem G_120 : G.get 120 = some t120 := rfl
@[simp] theorem G_121 : G.get 121 = some t121 := rfl
@[simp] theorem G_122 : G.get 122 = some t122 := rfl
@[simp] theorem G_123 : G.get 123 = some t123 := rfl
@[simp] theorem G_124 : G.get 124 = some t124 := rfl
@[simp] theorem G_127 : G.get 127 = some t127 := rfl
@[simp] theorem G_128 : G.get 128 = some t128 := rfl
@[simp] theorem G_129 : G.get 129 = some t129 := rfl
@[simp] theorem G_130 : G.get 130 = some t130 := rfl
@[simp] theorem G_131 : G.get 131 = some t131 := rfl
@[simp] theorem G_132 : G.get 132 = some t132 := rfl
@[simp] theorem G_133 : G.get 133 = some t133 := rfl
@[simp] theorem G_144 : G.get 144 = some t144 := rfl
@[simp] theorem G_145 : G.get 145 = some t145 := rfl
@[simp] theorem G_146 : G.get 146 = some t146 := rfl
@[simp] theorem G_156 : G.get 156 = some t156 := rfl
@[simp] theorem G_157 : G.get 157 = some t157 := rfl
@[simp] theorem G_158 : G.get 158 = some t158 := rfl
@[simp] theorem G_159 : G.get 159 = some t159 := rfl
@[simp] theorem G_162 : G.get 162 = some t162 := rfl
@[simp] theorem G_167 : G.get 167 = some t167 := rfl
@[simp] theorem G_168 : G.get 168 = some t168 := rfl
@[simp] theorem G_170 : G.get 170 = some t170 := rfl
@[simp] theorem G_171 : G.get 171 = some t171 := rfl
@[simp] theorem G_173 : G.get 173 = some t173 := rfl
@[simp] theorem G_179 : G.get 179 = some t179 := rfl
@[simp] theorem G_180 : G.get 180 = some t180 := rfl
@[simp] theorem G_181 : G.get 181 = some t181 := rfl
@[simp] theorem G_182 : G.get 182 = some t182 := rfl
@[simp] theorem G_183 : G.get 183 = some t183 := rfl
@[simp] theorem G_189 : G.get 189 = some t189 := rfl
@[simp] theorem G_190 : G.get 190 = some t190 := rfl
@[simp] theorem G_191 : G.get 191 = some t191 := rfl
@[simp] theorem G_192 : G.get 192 = some t192 := rfl
@[simp] theorem G_193 : G.get 193 = some t193 := rfl
@[simp] theorem G_194 : G.get 194 = some t194 := rfl
@[simp] theorem G_197 : G.get 197 = some t197 := rfl
@[simp] theorem G_198 : G.get 198 = some t198 := rfl
@[simp] theorem G_199 : G.get 199 = some t199 := rfl
@[simp] theorem G_206 : G.get 206 = some t206 := rfl
@[simp] theorem G_207 : G.get 207 = some t207 := rfl
@[simp] theorem G_209 : G.get 209 = some t209 := rfl
@[simp] theorem G_210 : G.get 210 = some t210 := rfl
@[simp] theorem G_211 : G.get 211 = some t211 := rfl
@[simp] theorem G_212 : G.get 212 = some t212 := rfl
@[simp] theorem G_218 : G.get 218 = some t218 := rfl
@[simp] theorem G_219 : G.get 219 = some t219 := rfl
@[simp] theorem G_227 : G.get 227 = some t227 := rfl
@[simp] theorem G_228 : G.get 228 = some t228 := rfl
@[simp] theorem G_248 : G.get 248 = some t248 := rfl
@[simp] theorem G_250 : G.get 250 = some t250 := rfl
@[simp] theorem G_251 : G.get 251 = some t251 := rfl
@[simp] theorem G_255 : G.get 255 = some t255 := rfl
@[simp] theorem G_256 : G.get 256 = some t256 := rfl
@[simp] theorem G_260 : G.get 260 = some t260 := rfl
@[simp] theorem G_261 : G.get 261 = some t261 := rfl
@[simp] theorem G_262 : G.get 262 = some t262 := rfl
@[simp] theorem G_264 : G.get 264 = some t264 := rfl
@[simp] theorem G_266 : G.get 266 = some t266 := rfl
@[simp] theorem G_267 : G.get 267 = some t267 := rfl
@[simp] theorem G_268 : G.get 268 = some t268 := rfl
@[simp] theorem G_270 : G.get 270 = some t270 := rfl
@[simp] theorem G_271 : G.get 271 = some t271 := rfl
@[simp] theorem G_272 : G.get 272 = some t272 := rfl
@[simp] theorem G_274 : G.get 274 = some t274 := rfl
@[simp] theorem G_275 : G.get 275 = some t275 := rfl
@[simp] theorem G_276 : G.get 276 = some t276 := rfl
@[simp] theorem G_278 : G.get 278 = some t278 := rfl
@[simp] theorem G_286 : G.get 286 = some t286 := rfl
@[simp] theorem G_288 : G.get 288 = some t288 := rfl
@[simp] theorem G_290 : G.get 290 = some t290 := rfl
@[simp] theorem G_292 : G.get 292 = some t292 := rfl
@[simp] theorem G_294 : G.get 294 = some t294 := rfl
@[simp] theorem G_296 : G.get 296 = some t296 := rfl
@[simp] theorem G_297 : G.get 297 = some t297 := rfl
@[simp] theorem G_300 : G.get 300 = some t300 := rfl
@[simp] theorem G_301 : G.get 301 = some t301 := rfl
@[simp] theorem G_302 : G.get 302 = some t302 := rfl
@[simp] theorem G_303 : G.get 303 = some t303 := rfl
@[simp] theorem G_318 : G.get 318 = some t318 := rfl
@[simp] theorem G_321 : G.get 321 = some t321 := rfl
@[simp] theorem G_322 : G.get 322 = some t322 := rfl
@[simp] theorem G_325 : G.get 325 = some t325 := rfl
@[simp] theorem G_340 : G.get 340 = some t340 := rfl
@[simp] theorem G_341 : G.get 341 = some t341 := rfl
theorem G_ok : G.ok Try.prog := by
  intro p hp
  simp only [G, List.mem_cons, List.not_mem_nil, or_false] at hp
  rcases hp with rfl | rfl | rfl | rfl | rfl | rfl | rfl | rfl | rfl | rfl | rfl | rfl | rfl | rfl | rfl | rfl | rfl | rfl | rfl | rfl | rfl | rfl | rfl | rfl | rfl | rfl | rfl | rfl | rfl | rfl | rfl | rfl | rfl | rfl | rfl | rfl | rfl | rfl | rfl | rfl | rfl | rfl | rfl | rfl | rfl | rfl | rfl | rfl | rfl | rfl | rfl | rfl | rfl | rfl | rfl | rfl | rfl | rfl | rfl | rfl | rfl | rfl | rfl | rfl | rfl | rfl | rfl | rfl | rfl | rfl | rfl | rfl | rfl | rfl | rfl | rfl | rfl | rfl | rfl | rfl | rfl | rfl | rfl | rfl | rfl | rfl | rfl | rfl | rfl | rfl | rfl | rfl | rfl | rfl | rfl | rfl | rfl | rfl | rfl | rfl | rfl | rfl | rfl | rfl | rfl | rfl | rfl | rfl | rfl | rfl | rfl | rfl | rfl | rfl | rfl | rfl | rfl | rfl | rfl | rfl | rfl | rfl | rfl | rfl | rfl
  · exact t2_ok
  · exact t3_ok
  · exact t4_ok
  · exact t5_ok
  · exact t9_ok
  · exact t12_ok
  · exact t20_ok
  · exact t21_ok
  · exact t25_ok
  · exact t31_ok
  · exact t34_ok
  · exact t40_ok
  · exact t41_ok
  · exact t42_ok
  · exact t43_ok
  · exact t44_ok
  · exact t48_ok
  · exact t49_ok
  · exact t50_ok
  · exact t55_ok
  · exact t58_ok
  · exact t65_ok
  · exact t66_ok
  · exact t67_ok
  · exact t68_ok
  · exact t70_ok
  · exact t71_ok
  · exact t72_ok
  · exact t76_ok
  · exact t78_ok
  · exact t87_ok
  · exact t92_ok
  · exact t93_ok
  · exact t96_ok
  · exact t101_ok
  · exact t104_ok
  · exact t109_ok
  · exact t112_ok
  · exact t118_ok
  · exact t119_ok
  · exact t120_ok
  · exact t121_ok
  · exact t122_ok
  · exact t123_ok
  · exact t124_ok
  · exact t127_ok
  · exact t128_ok
  · exact t129_ok
  · exact t130_ok
  · exact t131_ok
  · exact t132_ok
  · exact t133_ok
  · exact t144_ok
  · exact t145_ok
  · exact t146_ok
  · exact t156_ok
  · exact t157_ok
  · exact t158_ok
  · exact t159_ok
  · exact t162_ok
  · exact t167_ok
  · exact t168_ok
  · exact t170_ok
  · exact t171_ok
  · exact t173_ok
  · exact t179_ok
  · exact t180_ok
  · exact t181_ok
  · exact t182_ok
  · exact t183_ok
  · exact t189_ok
  · exact t190_ok
  · exact t191_ok
  · exact t192_ok
  · exact t193_ok
  · exact t194_ok
  · exact t197_ok
  · exact t198_ok
  · exact t199_ok
  · exact t206_ok
  · exact t207_ok
  · exact t209_ok
  · exact t210_ok
  · exact t211_ok
  · exact t212_ok
  · exact t218_ok
  · exact t219_ok
  · exact t227_ok
  · exact t228_ok
  · exact t248_ok
  · exact t250_ok
  · exact t251_ok
  · exact t255_ok
  · exact t256_ok
  · exact t260_ok
  · exact t261_ok
  · exact t262_ok
  · exact t264_ok
  · exact t266_ok
  · exact t267_ok
  · exact t268_ok
  · exact t270_ok
  · exact t271_ok
  · exact t272_ok
  · exact t274_ok
  · exact t275_ok
  · exact t276_ok
  · exact t278_ok
  · exact t286_ok
  · exact t288_ok
  · exact t290_ok
  · exact t292_ok
  · exact t294_ok
  · exact t296_ok
  · exact t297_ok
  · exact t300_ok
  · exact t301_ok
  · exact t302_ok
  · exact t303_ok
  · exact t318_ok
  · exact t321_ok
  · exact t322_ok
  · exact t325_ok
  · exact t340_ok
  · exact t341_ok
theorem mix : Try.prog.follows .mixedOrders = true := by kernel_rfl
end Go.Proofs.YtmhbciaolpamaaaR
