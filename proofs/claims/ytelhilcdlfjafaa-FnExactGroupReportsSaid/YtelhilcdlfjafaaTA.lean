/- What is known of the types of this program: their sizes, zero values and parts. -/
import Derived.Test.YtelhilcdlfjafaaProg
import Derived.Test.YtelhilcdlfjafaaTY
import Derived.KernelRfl
namespace Go.Proofs.Ytelhilcdlfjafaa
open Go Go.Eng
set_option linter.unusedSimpArgs false
set_option linter.unusedVariables false
set_option maxRecDepth 20000
/-- int64 -/
def t2 : TI := ⟨1, 8, .int .i64 0, .lit (.int .i64 0), .lit (.int .i64 0), .int .i64, false⟩
@[simp] theorem t2_size : t2.size = 1 := rfl
@[simp] theorem t2_bytes : t2.bytes = 8 := rfl
@[simp] theorem t2_z : t2.z = .lit (.int .i64 0) := rfl
@[simp] theorem t2_y : t2.y = .lit (.int .i64 0) := rfl
@[simp] theorem t2_kind : t2.kind = .int .i64 := rfl
@[simp] theorem t2_cmp : t2.cmp = false := rfl
/-- int -/
def t3 : TI := ⟨1, 8, .int .i64 0, .lit (.int .i64 0), .lit (.int .i64 0), .int .i64, false⟩
@[simp] theorem t3_size : t3.size = 1 := rfl
@[simp] theorem t3_bytes : t3.bytes = 8 := rfl
@[simp] theorem t3_z : t3.z = .lit (.int .i64 0) := rfl
@[simp] theorem t3_y : t3.y = .lit (.int .i64 0) := rfl
@[simp] theorem t3_kind : t3.kind = .int .i64 := rfl
@[simp] theorem t3_cmp : t3.cmp = false := rfl
/-- bool -/
def t4 : TI := ⟨1, 1, .bool false, .lit (.bool false), .lit (.bool false), .bool, false⟩
@[simp] theorem t4_size : t4.size = 1 := rfl
@[simp] theorem t4_bytes : t4.bytes = 1 := rfl
@[simp] theorem t4_z : t4.z = .lit (.bool false) := rfl
@[simp] theorem t4_y : t4.y = .lit (.bool false) := rfl
@[simp] theorem t4_kind : t4.kind = .bool := rfl
@[simp] theorem t4_cmp : t4.cmp = false := rfl
/-- uint8 -/
def t5 : TI := ⟨1, 1, .int .u8 0, .lit (.int .u8 0), .lit (.int .u8 0), .int .u8, false⟩
@[simp] theorem t5_size : t5.size = 1 := rfl
@[simp] theorem t5_bytes : t5.bytes = 1 := rfl
@[simp] theorem t5_z : t5.z = .lit (.int .u8 0) := rfl
@[simp] theorem t5_y : t5.y = .lit (.int .u8 0) := rfl
@[simp] theorem t5_kind : t5.kind = .int .u8 := rfl
@[simp] theorem t5_cmp : t5.cmp = false := rfl
/-- string -/
def t9 : TI := ⟨1, 16, .string ⟨#[]⟩, .lit (.string ⟨#[]⟩), .lit (.string ⟨#[]⟩), .str, false⟩
@[simp] theorem t9_size : t9.size = 1 := rfl
@[simp] theorem t9_bytes : t9.bytes = 16 := rfl
@[simp] theorem t9_z : t9.z = .lit (.string ⟨#[]⟩) := rfl
@[simp] theorem t9_y : t9.y = .lit (.string ⟨#[]⟩) := rfl
@[simp] theorem t9_kind : t9.kind = .str := rfl
@[simp] theorem t9_cmp : t9.cmp = false := rfl
/-- uintptr -/
def t12 : TI := ⟨1, 8, .int .u64 0, .lit (.int .u64 0), .lit (.int .u64 0), .int .u64, false⟩
@[simp] theorem t12_size : t12.size = 1 := rfl
@[simp] theorem t12_bytes : t12.bytes = 8 := rfl
@[simp] theorem t12_z : t12.z = .lit (.int .u64 0) := rfl
@[simp] theorem t12_y : t12.y = .lit (.int .u64 0) := rfl
@[simp] theorem t12_kind : t12.kind = .int .u64 := rfl
@[simp] theorem t12_cmp : t12.cmp = false := rfl
/-- interface {} -/
def t20 : TI := ⟨1, 16, .nilIface, .lit .nilIface, .lit .nilIface, .iface, false⟩
@[simp] theorem t20_size : t20.size = 1 := rfl
@[simp] theorem t20_bytes : t20.bytes = 16 := rfl
@[simp] theorem t20_z : t20.z = .lit .nilIface := rfl
@[simp] theorem t20_y : t20.y = .lit .nilIface := rfl
@[simp] theorem t20_kind : t20.kind = .iface := rfl
@[simp] theorem t20_cmp : t20.cmp = false := rfl
/-- int32 -/
def t21 : TI := ⟨1, 4, .int .i32 0, .lit (.int .i32 0), .lit (.int .i32 0), .int .i32, false⟩
@[simp] theorem t21_size : t21.size = 1 := rfl
@[simp] theorem t21_bytes : t21.bytes = 4 := rfl
@[simp] theorem t21_z : t21.z = .lit (.int .i32 0) := rfl
@[simp] theorem t21_y : t21.y = .lit (.int .i32 0) := rfl
@[simp] theorem t21_kind : t21.kind = .int .i32 := rfl
@[simp] theorem t21_cmp : t21.cmp = false := rfl
/-- []int -/
def t22 : TI := ⟨1, 24, .slice none 0 0, .sl true 0 .any [], yLI, .slice 3, false⟩
@[simp] theorem t22_size : t22.size = 1 := rfl
@[simp] theorem t22_bytes : t22.bytes = 24 := rfl
@[simp] theorem t22_z : t22.z = .sl true 0 .any [] := rfl
@[simp] theorem t22_y : t22.y = yLI := rfl
@[simp] theorem t22_kind : t22.kind = .slice 3 := rfl
@[simp] theorem t22_cmp : t22.cmp = false := rfl
/-- struct { From int; Until int } -/
def t23 : TI := ⟨2, 16, .agg #[.int .i64 0, .int .i64 0], .agg [.lit (.int .i64 0), .lit (.int .i64 0)], yTSpan, .st [(0, 3), (1, 3)], true⟩
@[simp] theorem t23_size : t23.size = 2 := rfl
@[simp] theorem t23_bytes : t23.bytes = 16 := rfl
@[simp] theorem t23_z : t23.z = .agg [.lit (.int .i64 0), .lit (.int .i64 0)] := rfl
@[simp] theorem t23_y : t23.y = yTSpan := rfl
@[simp] theorem t23_kind : t23.kind = .st [(0, 3), (1, 3)] := rfl
@[simp] theorem t23_cmp : t23.cmp = true := rfl
/-- laws.Span = loop.example/g03007/laws.Span -/
def t24 : TI := ⟨2, 16, .agg #[.int .i64 0, .int .i64 0], .agg [.lit (.int .i64 0), .lit (.int .i64 0)], yTSpan, .st [(0, 3), (1, 3)], true⟩
@[simp] theorem t24_size : t24.size = 2 := rfl
@[simp] theorem t24_bytes : t24.bytes = 16 := rfl
@[simp] theorem t24_z : t24.z = .agg [.lit (.int .i64 0), .lit (.int .i64 0)] := rfl
@[simp] theorem t24_y : t24.y = yTSpan := rfl
@[simp] theorem t24_kind : t24.kind = .st [(0, 3), (1, 3)] := rfl
@[simp] theorem t24_cmp : t24.cmp = true := rfl
/-- struct { Id int; Kind int; Colours []int; SizeLow int; SizeHigh int; Places []int; Span laws.Span } -/
def t25 : TI := ⟨8, 96, .agg #[.int .i64 0, .int .i64 0, .slice none 0 0, .int .i64 0, .int .i64 0, .slice none 0 0, .int .i64 0, .int .i64 0], .agg [.lit (.int .i64 0), .lit (.int .i64 0), .sl true 0 .any [], .lit (.int .i64 0), .lit (.int .i64 0), .sl true 0 .any [], .lit (.int .i64 0), .lit (.int .i64 0)], yTReport, .st [(0, 3), (1, 3), (2, 22), (3, 3), (4, 3), (5, 22), (6, 24)], false⟩
@[simp] theorem t25_size : t25.size = 8 := rfl
@[simp] theorem t25_bytes : t25.bytes = 96 := rfl
@[simp] theorem t25_z : t25.z = .agg [.lit (.int .i64 0), .lit (.int .i64 0), .sl true 0 .any [], .lit (.int .i64 0), .lit (.int .i64 0), .sl true 0 .any [], .lit (.int .i64 0), .lit (.int .i64 0)] := rfl
@[simp] theorem t25_y : t25.y = yTReport := rfl
@[simp] theorem t25_kind : t25.kind = .st [(0, 3), (1, 3), (2, 22), (3, 3), (4, 3), (5, 22), (6, 24)] := rfl
@[simp] theorem t25_cmp : t25.cmp = false := rfl
/-- laws.Report = loop.example/g03007/laws.Report -/
def t26 : TI := ⟨8, 96, .agg #[.int .i64 0, .int .i64 0, .slice none 0 0, .int .i64 0, .int .i64 0, .slice none 0 0, .int .i64 0, .int .i64 0], .agg [.lit (.int .i64 0), .lit (.int .i64 0), .sl true 0 .any [], .lit (.int .i64 0), .lit (.int .i64 0), .sl true 0 .any [], .lit (.int .i64 0), .lit (.int .i64 0)], yTReport, .st [(0, 3), (1, 3), (2, 22), (3, 3), (4, 3), (5, 22), (6, 24)], false⟩
@[simp] theorem t26_size : t26.size = 8 := rfl
@[simp] theorem t26_bytes : t26.bytes = 96 := rfl
@[simp] theorem t26_z : t26.z = .agg [.lit (.int .i64 0), .lit (.int .i64 0), .sl true 0 .any [], .lit (.int .i64 0), .lit (.int .i64 0), .sl true 0 .any [], .lit (.int .i64 0), .lit (.int .i64 0)] := rfl
@[simp] theorem t26_y : t26.y = yTReport := rfl
@[simp] theorem t26_kind : t26.kind = .st [(0, 3), (1, 3), (2, 22), (3, 3), (4, 3), (5, 22), (6, 24)] := rfl
@[simp] theorem t26_cmp : t26.cmp = false := rfl
/-- impl.Span = loop.example/g03007/impl.Span -/
def t29 : TI := ⟨2, 16, .agg #[.int .i64 0, .int .i64 0], .agg [.lit (.int .i64 0), .lit (.int .i64 0)], yTSpan, .st [(0, 3), (1, 3)], true⟩
@[simp] theorem t29_size : t29.size = 2 := rfl
@[simp] theorem t29_bytes : t29.bytes = 16 := rfl
@[simp] theorem t29_z : t29.z = .agg [.lit (.int .i64 0), .lit (.int .i64 0)] := rfl
@[simp] theorem t29_y : t29.y = yTSpan := rfl
@[simp] theorem t29_kind : t29.kind = .st [(0, 3), (1, 3)] := rfl
@[simp] theorem t29_cmp : t29.cmp = true := rfl
/-- struct { Id int; Kind int; Colours []int; SizeLow int; SizeHigh int; Places []int; Span impl.Span } -/
def t30 : TI := ⟨8, 96, .agg #[.int .i64 0, .int .i64 0, .slice none 0 0, .int .i64 0, .int .i64 0, .slice none 0 0, .int .i64 0, .int .i64 0], .agg [.lit (.int .i64 0), .lit (.int .i64 0), .sl true 0 .any [], .lit (.int .i64 0), .lit (.int .i64 0), .sl true 0 .any [], .lit (.int .i64 0), .lit (.int .i64 0)], yTReport, .st [(0, 3), (1, 3), (2, 22), (3, 3), (4, 3), (5, 22), (6, 29)], false⟩
@[simp] theorem t30_size : t30.size = 8 := rfl
@[simp] theorem t30_bytes : t30.bytes = 96 := rfl
@[simp] theorem t30_z : t30.z = .agg [.lit (.int .i64 0), .lit (.int .i64 0), .sl true 0 .any [], .lit (.int .i64 0), .lit (.int .i64 0), .sl true 0 .any [], .lit (.int .i64 0), .lit (.int .i64 0)] := rfl
@[simp] theorem t30_y : t30.y = yTReport := rfl
@[simp] theorem t30_kind : t30.kind = .st [(0, 3), (1, 3), (2, 22), (3, 3), (4, 3), (5, 22), (6, 29)] := rfl
@[simp] theorem t30_cmp : t30.cmp = false := rfl
/-- impl.Report = loop.example/g03007/impl.Report -/
def t31 : TI := ⟨8, 96, .agg #[.int .i64 0, .int .i64 0, .slice none 0 0, .int .i64 0, .int .i64 0, .slice none 0 0, .int .i64 0, .int .i64 0], .agg [.lit (.int .i64 0), .lit (.int .i64 0), .sl true 0 .any [], .lit (.int .i64 0), .lit (.int .i64 0), .sl true 0 .any [], .lit (.int .i64 0), .lit (.int .i64 0)], yTReport, .st [(0, 3), (1, 3), (2, 22), (3, 3), (4, 3), (5, 22), (6, 29)], false⟩
@[simp] theorem t31_size : t31.size = 8 := rfl
@[simp] theorem t31_bytes : t31.bytes = 96 := rfl
@[simp] theorem t31_z : t31.z = .agg [.lit (.int .i64 0), .lit (.int .i64 0), .sl true 0 .any [], .lit (.int .i64 0), .lit (.int .i64 0), .sl true 0 .any [], .lit (.int .i64 0), .lit (.int .i64 0)] := rfl
@[simp] theorem t31_y : t31.y = yTReport := rfl
@[simp] theorem t31_kind : t31.kind = .st [(0, 3), (1, 3), (2, 22), (3, 3), (4, 3), (5, 22), (6, 29)] := rfl
@[simp] theorem t31_cmp : t31.cmp = false := rfl
/-- []laws.Report -/
def t34 : TI := ⟨1, 24, .slice none 0 0, .sl true 0 .any [], yLTReport, .slice 26, false⟩
@[simp] theorem t34_size : t34.size = 1 := rfl
@[simp] theorem t34_bytes : t34.bytes = 24 := rfl
@[simp] theorem t34_z : t34.z = .sl true 0 .any [] := rfl
@[simp] theorem t34_y : t34.y = yLTReport := rfl
@[simp] theorem t34_kind : t34.kind = .slice 26 := rfl
@[simp] theorem t34_cmp : t34.cmp = false := rfl
/-- []impl.Report -/
def t37 : TI := ⟨1, 24, .slice none 0 0, .sl true 0 .any [], yLTReport, .slice 31, false⟩
@[simp] theorem t37_size : t37.size = 1 := rfl
@[simp] theorem t37_bytes : t37.bytes = 24 := rfl
@[simp] theorem t37_z : t37.z = .sl true 0 .any [] := rfl
@[simp] theorem t37_y : t37.y = yLTReport := rfl
@[simp] theorem t37_kind : t37.kind = .slice 31 := rfl
@[simp] theorem t37_cmp : t37.cmp = false := rfl
/-- impl.reportOption = loop.example/g03007/impl.reportOption -/
def t59 : TI := ⟨1, 8, .nilFunc, .lit .nilFunc, .lit .nilFunc, .func, false⟩
@[simp] theorem t59_size : t59.size = 1 := rfl
@[simp] theorem t59_bytes : t59.bytes = 8 := rfl
@[simp] theorem t59_z : t59.z = .lit .nilFunc := rfl
@[simp] theorem t59_y : t59.y = .lit .nilFunc := rfl
@[simp] theorem t59_kind : t59.kind = .func := rfl
@[simp] theorem t59_cmp : t59.cmp = false := rfl
/-- *impl.Report -/
def t64 : TI := ⟨1, 8, .pointer none, .lit (.pointer none), .lit (.pointer none), .ptr 31, false⟩
@[simp] theorem t64_size : t64.size = 1 := rfl
@[simp] theorem t64_bytes : t64.bytes = 8 := rfl
@[simp] theorem t64_z : t64.z = .lit (.pointer none) := rfl
@[simp] theorem t64_y : t64.y = .lit (.pointer none) := rfl
@[simp] theorem t64_kind : t64.kind = .ptr 31 := rfl
@[simp] theorem t64_cmp : t64.cmp = false := rfl
/-- struct { with impl.Span } -/
def t66 : TI := ⟨2, 16, .agg #[.int .i64 0, .int .i64 0], .agg [.lit (.int .i64 0), .lit (.int .i64 0)], yTMeeting, .st [(0, 29)], true⟩
@[simp] theorem t66_size : t66.size = 2 := rfl
@[simp] theorem t66_bytes : t66.bytes = 16 := rfl
@[simp] theorem t66_z : t66.z = .agg [.lit (.int .i64 0), .lit (.int .i64 0)] := rfl
@[simp] theorem t66_y : t66.y = yTMeeting := rfl
@[simp] theorem t66_kind : t66.kind = .st [(0, 29)] := rfl
@[simp] theorem t66_cmp : t66.cmp = true := rfl
/-- impl.meeting = loop.example/g03007/impl.meeting -/
def t67 : TI := ⟨2, 16, .agg #[.int .i64 0, .int .i64 0], .agg [.lit (.int .i64 0), .lit (.int .i64 0)], yTMeeting, .st [(0, 29)], true⟩
@[simp] theorem t67_size : t67.size = 2 := rfl
@[simp] theorem t67_bytes : t67.bytes = 16 := rfl
@[simp] theorem t67_z : t67.z = .agg [.lit (.int .i64 0), .lit (.int .i64 0)] := rfl
@[simp] theorem t67_y : t67.y = yTMeeting := rfl
@[simp] theorem t67_kind : t67.kind = .st [(0, 29)] := rfl
@[simp] theorem t67_cmp : t67.cmp = true := rfl
/-- func(impl.Report) int -/
def t68 : TI := ⟨1, 8, .nilFunc, .lit .nilFunc, .lit .nilFunc, .func, false⟩
@[simp] theorem t68_size : t68.size = 1 := rfl
@[simp] theorem t68_bytes : t68.bytes = 8 := rfl
@[simp] theorem t68_z : t68.z = .lit .nilFunc := rfl
@[simp] theorem t68_y : t68.y = .lit .nilFunc := rfl
@[simp] theorem t68_kind : t68.kind = .func := rfl
@[simp] theorem t68_cmp : t68.cmp = false := rfl
/-- struct { items []impl.Report; numberOf func(impl.Report) int } -/
def t69 : TI := ⟨2, 32, .agg #[.slice none 0 0, .nilFunc], .agg [.sl true 0 .any [], .lit .nilFunc], .any, .st [(0, 37), (1, 68)], false⟩
@[simp] theorem t69_size : t69.size = 2 := rfl
@[simp] theorem t69_bytes : t69.bytes = 32 := rfl
@[simp] theorem t69_z : t69.z = .agg [.sl true 0 .any [], .lit .nilFunc] := rfl
@[simp] theorem t69_y : t69.y = .any := rfl
@[simp] theorem t69_kind : t69.kind = .st [(0, 37), (1, 68)] := rfl
@[simp] theorem t69_cmp : t69.cmp = false := rfl
/-- impl.sortedList[loop.example/g03007/impl.Report] = loop.example/g03007/impl.sortedList[loop.example/g03007/impl.Report] -/
def t70 : TI := ⟨2, 32, .agg #[.slice none 0 0, .nilFunc], .agg [.sl true 0 .any [], .lit .nilFunc], .any, .st [(0, 37), (1, 68)], false⟩
@[simp] theorem t70_size : t70.size = 2 := rfl
@[simp] theorem t70_bytes : t70.bytes = 32 := rfl
@[simp] theorem t70_z : t70.z = .agg [.sl true 0 .any [], .lit .nilFunc] := rfl
@[simp] theorem t70_y : t70.y = .any := rfl
@[simp] theorem t70_kind : t70.kind = .st [(0, 37), (1, 68)] := rfl
@[simp] theorem t70_cmp : t70.cmp = false := rfl
/-- []impl.reportOption -/
def t76 : TI := ⟨1, 24, .slice none 0 0, .sl true 0 .any [], .any, .slice 59, false⟩
@[simp] theorem t76_size : t76.size = 1 := rfl
@[simp] theorem t76_bytes : t76.bytes = 24 := rfl
@[simp] theorem t76_z : t76.z = .sl true 0 .any [] := rfl
@[simp] theorem t76_y : t76.y = .any := rfl
@[simp] theorem t76_kind : t76.kind = .slice 59 := rfl
@[simp] theorem t76_cmp : t76.cmp = false := rfl
/-- interface { impl.applyTo(impl.Span) impl.Span } -/
def t78 : TI := ⟨1, 16, .nilIface, .lit .nilIface, .lit .nilIface, .iface, false⟩
@[simp] theorem t78_size : t78.size = 1 := rfl
@[simp] theorem t78_bytes : t78.bytes = 16 := rfl
@[simp] theorem t78_z : t78.z = .lit .nilIface := rfl
@[simp] theorem t78_y : t78.y = .lit .nilIface := rfl
@[simp] theorem t78_kind : t78.kind = .iface := rfl
@[simp] theorem t78_cmp : t78.cmp = false := rfl
/-- impl.spanChange = loop.example/g03007/impl.spanChange -/
def t79 : TI := ⟨1, 16, .nilIface, .lit .nilIface, .lit .nilIface, .iface, false⟩
@[simp] theorem t79_size : t79.size = 1 := rfl
@[simp] theorem t79_bytes : t79.bytes = 16 := rfl
@[simp] theorem t79_z : t79.z = .lit .nilIface := rfl
@[simp] theorem t79_y : t79.y = .lit .nilIface := rfl
@[simp] theorem t79_kind : t79.kind = .iface := rfl
@[simp] theorem t79_cmp : t79.cmp = false := rfl
/-- interface { impl.has(int) bool } -/
def t83 : TI := ⟨1, 16, .nilIface, .lit .nilIface, .lit .nilIface, .iface, false⟩
@[simp] theorem t83_size : t83.size = 1 := rfl
@[simp] theorem t83_bytes : t83.bytes = 16 := rfl
@[simp] theorem t83_z : t83.z = .lit .nilIface := rfl
@[simp] theorem t83_y : t83.y = .lit .nilIface := rfl
@[simp] theorem t83_kind : t83.kind = .iface := rfl
@[simp] theorem t83_cmp : t83.cmp = false := rfl
/-- impl.choice = loop.example/g03007/impl.choice -/
def t84 : TI := ⟨1, 16, .nilIface, .lit .nilIface, .lit .nilIface, .iface, false⟩
@[simp] theorem t84_size : t84.size = 1 := rfl
@[simp] theorem t84_bytes : t84.bytes = 16 := rfl
@[simp] theorem t84_z : t84.z = .lit .nilIface := rfl
@[simp] theorem t84_y : t84.y = .lit .nilIface := rfl
@[simp] theorem t84_kind : t84.kind = .iface := rfl
@[simp] theorem t84_cmp : t84.cmp = false := rfl
/-- impl.covering = loop.example/g03007/impl.covering -/
def t88 : TI := ⟨2, 16, .agg #[.int .i64 0, .int .i64 0], .agg [.lit (.int .i64 0), .lit (.int .i64 0)], yTMeeting, .st [(0, 29)], true⟩
@[simp] theorem t88_size : t88.size = 2 := rfl
@[simp] theorem t88_bytes : t88.bytes = 16 := rfl
@[simp] theorem t88_z : t88.z = .agg [.lit (.int .i64 0), .lit (.int .i64 0)] := rfl
@[simp] theorem t88_y : t88.y = yTMeeting := rfl
@[simp] theorem t88_kind : t88.kind = .st [(0, 29)] := rfl
@[simp] theorem t88_cmp : t88.cmp = true := rfl
/-- struct { by int } -/
def t89 : TI := ⟨1, 8, .agg #[.int .i64 0], .agg [.lit (.int .i64 0)], yTWidening, .st [(0, 3)], true⟩
@[simp] theorem t89_size : t89.size = 1 := rfl
@[simp] theorem t89_bytes : t89.bytes = 8 := rfl
@[simp] theorem t89_z : t89.z = .agg [.lit (.int .i64 0)] := rfl
@[simp] theorem t89_y : t89.y = yTWidening := rfl
@[simp] theorem t89_kind : t89.kind = .st [(0, 3)] := rfl
@[simp] theorem t89_cmp : t89.cmp = true := rfl
/-- impl.widening = loop.example/g03007/impl.widening -/
def t90 : TI := ⟨1, 8, .agg #[.int .i64 0], .agg [.lit (.int .i64 0)], yTWidening, .st [(0, 3)], true⟩
@[simp] theorem t90_size : t90.size = 1 := rfl
@[simp] theorem t90_bytes : t90.bytes = 8 := rfl
@[simp] theorem t90_z : t90.z = .agg [.lit (.int .i64 0)] := rfl
@[simp] theorem t90_y : t90.y = yTWidening := rfl
@[simp] theorem t90_kind : t90.kind = .st [(0, 3)] := rfl
@[simp] theorem t90_cmp : t90.cmp = true := rfl
/-- impl.only = loop.example/g03007/impl.only -/
def t91 : TI := ⟨1, 24, .slice none 0 0, .sl true 0 .any [], yLI, .slice 3, false⟩
@[simp] theorem t91_size : t91.size = 1 := rfl
@[simp] theorem t91_bytes : t91.bytes = 24 := rfl
@[simp] theorem t91_z : t91.z = .sl true 0 .any [] := rfl
@[simp] theorem t91_y : t91.y = yLI := rfl
@[simp] theorem t91_kind : t91.kind = .slice 3 := rfl
@[simp] theorem t91_cmp : t91.cmp = false := rfl
/-- struct {} -/
def t94 : TI := ⟨0, 0, .agg #[], .agg [], .any, .st [], false⟩
@[simp] theorem t94_size : t94.size = 0 := rfl
@[simp] theorem t94_bytes : t94.bytes = 0 := rfl
@[simp] theorem t94_z : t94.z = .agg [] := rfl
@[simp] theorem t94_y : t94.y = .any := rfl
@[simp] theorem t94_kind : t94.kind = .st [] := rfl
@[simp] theorem t94_cmp : t94.cmp = false := rfl
/-- impl.everything = loop.example/g03007/impl.everything -/
def t95 : TI := ⟨0, 0, .agg #[], .agg [], .any, .st [], false⟩
@[simp] theorem t95_size : t95.size = 0 := rfl
@[simp] theorem t95_bytes : t95.bytes = 0 := rfl
@[simp] theorem t95_z : t95.z = .agg [] := rfl
@[simp] theorem t95_y : t95.y = .any := rfl
@[simp] theorem t95_kind : t95.kind = .st [] := rfl
@[simp] theorem t95_cmp : t95.cmp = false := rfl
/-- uint32 -/
def t105 : TI := ⟨1, 4, .int .u32 0, .lit (.int .u32 0), .lit (.int .u32 0), .int .u32, false⟩
@[simp] theorem t105_size : t105.size = 1 := rfl
@[simp] theorem t105_bytes : t105.bytes = 4 := rfl
@[simp] theorem t105_z : t105.z = .lit (.int .u32 0) := rfl
@[simp] theorem t105_y : t105.y = .lit (.int .u32 0) := rfl
@[simp] theorem t105_kind : t105.kind = .int .u32 := rfl
@[simp] theorem t105_cmp : t105.cmp = false := rfl
/-- func(unsafe.Pointer, unsafe.Pointer) bool -/
def t108 : TI := ⟨1, 8, .nilFunc, .lit .nilFunc, .lit .nilFunc, .func, false⟩
@[simp] theorem t108_size : t108.size = 1 := rfl
@[simp] theorem t108_bytes : t108.bytes = 8 := rfl
@[simp] theorem t108_z : t108.z = .lit .nilFunc := rfl
@[simp] theorem t108_y : t108.y = .lit .nilFunc := rfl
@[simp] theorem t108_kind : t108.kind = .func := rfl
@[simp] theorem t108_cmp : t108.cmp = false := rfl
/-- *uint8 -/
def t109 : TI := ⟨1, 8, .pointer none, .lit (.pointer none), .lit (.pointer none), .ptr 5, false⟩
@[simp] theorem t109_size : t109.size = 1 := rfl
@[simp] theorem t109_bytes : t109.bytes = 8 := rfl
@[simp] theorem t109_z : t109.z = .lit (.pointer none) := rfl
@[simp] theorem t109_y : t109.y = .lit (.pointer none) := rfl
@[simp] theorem t109_kind : t109.kind = .ptr 5 := rfl
@[simp] theorem t109_cmp : t109.cmp = false := rfl
/-- struct { Size_ uintptr; PtrBytes uintptr; Hash uint32; TFlag abi.TFlag; Align_ uint8; FieldAlign_ uint8; Kind_ abi.Kind; Equal func(unsafe.Pointer, unsafe.Pointer) bool; GCData *uint8; Str abi.NameOff; PtrToThis abi.TypeOff } -/
def t112 : TI := ⟨11, 48, .agg #[.int .u64 0, .int .u64 0, .int .u32 0, .int .u8 0, .int .u8 0, .int .u8 0, .int .u8 0, .nilFunc, .pointer none, .int .i32 0, .int .i32 0], .agg [.lit (.int .u64 0), .lit (.int .u64 0), .lit (.int .u32 0), .lit (.int .u8 0), .lit (.int .u8 0), .lit (.int .u8 0), .lit (.int .u8 0), .lit .nilFunc, .lit (.pointer none), .lit (.int .i32 0), .lit (.int .i32 0)], .any, .st [(0, 12), (1, 12), (2, 105), (3, 106), (4, 5), (5, 5), (6, 107), (7, 108), (8, 109), (9, 110), (10, 111)], false⟩
@[simp] theorem t112_size : t112.size = 11 := rfl
@[simp] theorem t112_bytes : t112.bytes = 48 := rfl
@[simp] theorem t112_z : t112.z = .agg [.lit (.int .u64 0), .lit (.int .u64 0), .lit (.int .u32 0), .lit (.int .u8 0), .lit (.int .u8 0), .lit (.int .u8 0), .lit (.int .u8 0), .lit .nilFunc, .lit (.pointer none), .lit (.int .i32 0), .lit (.int .i32 0)] := rfl
@[simp] theorem t112_y : t112.y = .any := rfl
@[simp] theorem t112_kind : t112.kind = .st [(0, 12), (1, 12), (2, 105), (3, 106), (4, 5), (5, 5), (6, 107), (7, 108), (8, 109), (9, 110), (10, 111)] := rfl
@[simp] theorem t112_cmp : t112.cmp = false := rfl
theorem t2_ok : t2.ok Try.prog 2 := ⟨by kernel_rfl, by kernel_rfl, by kernel_rfl, Try.underlying2, (fun h => by cases h), ⟨rfl, rfl, rfl, rfl, fun F h β => by simp [t2, Rep, Reps]⟩⟩
theorem t3_ok : t3.ok Try.prog 3 := ⟨by kernel_rfl, by kernel_rfl, by kernel_rfl, Try.underlying3, (fun h => by cases h), ⟨rfl, rfl, rfl, rfl, fun F h β => by simp [t3, Rep, Reps]⟩⟩
theorem t4_ok : t4.ok Try.prog 4 := ⟨by kernel_rfl, by kernel_rfl, by kernel_rfl, Try.underlying4, (fun h => by cases h), ⟨rfl, rfl, rfl, rfl, fun F h β => by simp [t4, Rep, Reps]⟩⟩
theorem t5_ok : t5.ok Try.prog 5 := ⟨by kernel_rfl, by kernel_rfl, by kernel_rfl, Try.underlying5, (fun h => by cases h), ⟨rfl, rfl, rfl, rfl, fun F h β => by simp [t5, Rep, Reps]⟩⟩
theorem t9_ok : t9.ok Try.prog 9 := ⟨by kernel_rfl, by kernel_rfl, by kernel_rfl, Try.underlying9, (fun h => by cases h), ⟨rfl, rfl, rfl, rfl, fun F h β => by simp [t9, Rep, Reps]⟩⟩
theorem t12_ok : t12.ok Try.prog 12 := ⟨by kernel_rfl, by kernel_rfl, by kernel_rfl, Try.underlying12, (fun h => by cases h), ⟨rfl, rfl, rfl, rfl, fun F h β => by simp [t12, Rep, Reps]⟩⟩
theorem t20_ok : t20.ok Try.prog 20 := ⟨by kernel_rfl, by kernel_rfl, by kernel_rfl, ⟨_, Try.underlying20⟩, (fun h => by cases h), ⟨rfl, rfl, rfl, rfl, fun F h β => by simp [t20, Rep, Reps]⟩⟩
theorem t21_ok : t21.ok Try.prog 21 := ⟨by kernel_rfl, by kernel_rfl, by kernel_rfl, Try.underlying21, (fun h => by cases h), ⟨rfl, rfl, rfl, rfl, fun F h β => by simp [t21, Rep, Reps]⟩⟩
theorem t22_ok : t22.ok Try.prog 22 := ⟨by kernel_rfl, by kernel_rfl, by kernel_rfl, Try.underlying22, (fun h => by cases h), ⟨rfl, rfl, rfl, rfl, fun F h β => by simp [t22, Rep, Reps]⟩⟩
theorem t23_ok : t23.ok Try.prog 23 := ⟨by kernel_rfl, by kernel_rfl, by kernel_rfl, ⟨_, Try.underlying23, rfl⟩, (fun _ => eqInts_of (by kernel_rfl) (by kernel_rfl) (by kernel_rfl)), ⟨rfl, rfl, rfl, rfl, fun F h β => by simp [t23, Rep, Reps]⟩⟩
theorem t24_ok : t24.ok Try.prog 24 := ⟨by kernel_rfl, by kernel_rfl, by kernel_rfl, ⟨_, Try.underlying24, rfl⟩, (fun _ => eqInts_of (by kernel_rfl) (by kernel_rfl) (by kernel_rfl)), ⟨rfl, rfl, rfl, rfl, fun F h β => by simp [t24, Rep, Reps]⟩⟩
theorem t25_ok : t25.ok Try.prog 25 := ⟨by kernel_rfl, by kernel_rfl, by kernel_rfl, ⟨_, Try.underlying25, rfl⟩, (fun h => by cases h), ⟨rfl, rfl, rfl, rfl, fun F h β => by
    show Rep F h β t25.z t25.zero
    simp only [t25, Rep, Reps]
    exact ⟨_, rfl, _, _, rfl, (by trivial), _, _, rfl, (by trivial), _, _, rfl, (.inl ⟨by trivial, none, 0, by trivial, by intros; rfl⟩), _, _, rfl, (by trivial), _, _, rfl, (by trivial), _, _, rfl, (.inl ⟨by trivial, none, 0, by trivial, by intros; rfl⟩), _, _, rfl, (by trivial), _, _, rfl, (by trivial), rfl⟩⟩⟩
theorem t26_ok : t26.ok Try.prog 26 := ⟨by kernel_rfl, by kernel_rfl, by kernel_rfl, ⟨_, Try.underlying26, rfl⟩, (fun h => by cases h), ⟨rfl, rfl, rfl, rfl, fun F h β => by
    show Rep F h β t26.z t26.zero
    simp only [t26, Rep, Reps]
    exact ⟨_, rfl, _, _, rfl, (by trivial), _, _, rfl, (by trivial), _, _, rfl, (.inl ⟨by trivial, none, 0, by trivial, by intros; rfl⟩), _, _, rfl, (by trivial), _, _, rfl, (by trivial), _, _, rfl, (.inl ⟨by trivial, none, 0, by trivial, by intros; rfl⟩), _, _, rfl, (by trivial), _, _, rfl, (by trivial), rfl⟩⟩⟩
theorem t29_ok : t29.ok Try.prog 29 := ⟨by kernel_rfl, by kernel_rfl, by kernel_rfl, ⟨_, Try.underlying29, rfl⟩, (fun _ => eqInts_of (by kernel_rfl) (by kernel_rfl) (by kernel_rfl)), ⟨rfl, rfl, rfl, rfl, fun F h β => by simp [t29, Rep, Reps]⟩⟩
theorem t30_ok : t30.ok Try.prog 30 := ⟨by kernel_rfl, by kernel_rfl, by kernel_rfl, ⟨_, Try.underlying30, rfl⟩, (fun h => by cases h), ⟨rfl, rfl, rfl, rfl, fun F h β => by
    show Rep F h β t30.z t30.zero
    simp only [t30, Rep, Reps]
    exact ⟨_, rfl, _, _, rfl, (by trivial), _, _, rfl, (by trivial), _, _, rfl, (.inl ⟨by trivial, none, 0, by trivial, by intros; rfl⟩), _, _, rfl, (by trivial), _, _, rfl, (by trivial), _, _, rfl, (.inl ⟨by trivial, none, 0, by trivial, by intros; rfl⟩), _, _, rfl, (by trivial), _, _, rfl, (by trivial), rfl⟩⟩⟩
theorem t31_ok : t31.ok Try.prog 31 := ⟨by kernel_rfl, by kernel_rfl, by kernel_rfl, ⟨_, Try.underlying31, rfl⟩, (fun h => by cases h), ⟨rfl, rfl, rfl, rfl, fun F h β => by
    show Rep F h β t31.z t31.zero
    simp only [t31, Rep, Reps]
    exact ⟨_, rfl, _, _, rfl, (by trivial), _, _, rfl, (by trivial), _, _, rfl, (.inl ⟨by trivial, none, 0, by trivial, by intros; rfl⟩), _, _, rfl, (by trivial), _, _, rfl, (by trivial), _, _, rfl, (.inl ⟨by trivial, none, 0, by trivial, by intros; rfl⟩), _, _, rfl, (by trivial), _, _, rfl, (by trivial), rfl⟩⟩⟩
theorem t34_ok : t34.ok Try.prog 34 := ⟨by kernel_rfl, by kernel_rfl, by kernel_rfl, Try.underlying34, (fun h => by cases h), ⟨rfl, rfl, rfl, rfl, fun F h β => by simp [t34, Rep, Reps]⟩⟩
theorem t37_ok : t37.ok Try.prog 37 := ⟨by kernel_rfl, by kernel_rfl, by kernel_rfl, Try.underlying37, (fun h => by cases h), ⟨rfl, rfl, rfl, rfl, fun F h β => by simp [t37, Rep, Reps]⟩⟩
theorem t59_ok : t59.ok Try.prog 59 := ⟨by kernel_rfl, by kernel_rfl, by kernel_rfl, ⟨_, _, _, Try.underlying59⟩, (fun h => by cases h), ⟨rfl, rfl, rfl, rfl, fun F h β => by simp [t59, Rep, Reps]⟩⟩
theorem t64_ok : t64.ok Try.prog 64 := ⟨by kernel_rfl, by kernel_rfl, by kernel_rfl, Try.underlying64, (fun h => by cases h), ⟨rfl, rfl, rfl, rfl, fun F h β => by simp [t64, Rep, Reps]⟩⟩
theorem t66_ok : t66.ok Try.prog 66 := ⟨by kernel_rfl, by kernel_rfl, by kernel_rfl, ⟨_, Try.underlying66, rfl⟩, (fun _ => eqInts_of (by kernel_rfl) (by kernel_rfl) (by kernel_rfl)), ⟨rfl, rfl, rfl, rfl, fun F h β => by simp [t66, Rep, Reps]⟩⟩
theorem t67_ok : t67.ok Try.prog 67 := ⟨by kernel_rfl, by kernel_rfl, by kernel_rfl, ⟨_, Try.underlying67, rfl⟩, (fun _ => eqInts_of (by kernel_rfl) (by kernel_rfl) (by kernel_rfl)), ⟨rfl, rfl, rfl, rfl, fun F h β => by simp [t67, Rep, Reps]⟩⟩
theorem t68_ok : t68.ok Try.prog 68 := ⟨by kernel_rfl, by kernel_rfl, by kernel_rfl, ⟨_, _, _, Try.underlying68⟩, (fun h => by cases h), ⟨rfl, rfl, rfl, rfl, fun F h β => by simp [t68, Rep, Reps]⟩⟩
theorem t69_ok : t69.ok Try.prog 69 := ⟨by kernel_rfl, by kernel_rfl, by kernel_rfl, ⟨_, Try.underlying69, rfl⟩, (fun h => by cases h), ⟨rfl, rfl, rfl, rfl, fun F h β => by
    show Rep F h β t69.z t69.zero
    simp only [t69, Rep, Reps]
    exact ⟨_, rfl, _, _, rfl, (.inl ⟨by trivial, none, 0, by trivial, by intros; rfl⟩), _, _, rfl, (by trivial), rfl⟩⟩⟩
theorem t70_ok : t70.ok Try.prog 70 := ⟨by kernel_rfl, by kernel_rfl, by kernel_rfl, ⟨_, Try.underlying70, rfl⟩, (fun h => by cases h), ⟨rfl, rfl, rfl, rfl, fun F h β => by
    show Rep F h β t70.z t70.zero
    simp only [t70, Rep, Reps]
    exact ⟨_, rfl, _, _, rfl, (.inl ⟨by trivial, none, 0, by trivial, by intros; rfl⟩), _, _, rfl, (by trivial), rfl⟩⟩⟩
theorem t76_ok : t76.ok Try.prog 76 := ⟨by kernel_rfl, by kernel_rfl, by kernel_rfl, Try.underlying76, (fun h => by cases h), ⟨rfl, rfl, rfl, rfl, fun F h β => by simp [t76, Rep, Reps]⟩⟩
theorem t78_ok : t78.ok Try.prog 78 := ⟨by kernel_rfl, by kernel_rfl, by kernel_rfl, ⟨_, Try.underlying78⟩, (fun h => by cases h), ⟨rfl, rfl, rfl, rfl, fun F h β => by simp [t78, Rep, Reps]⟩⟩
theorem t79_ok : t79.ok Try.prog 79 := ⟨by kernel_rfl, by kernel_rfl, by kernel_rfl, ⟨_, Try.underlying79⟩, (fun h => by cases h), ⟨rfl, rfl, rfl, rfl, fun F h β => by simp [t79, Rep, Reps]⟩⟩
theorem t83_ok : t83.ok Try.prog 83 := ⟨by kernel_rfl, by kernel_rfl, by kernel_rfl, ⟨_, Try.underlying83⟩, (fun h => by cases h), ⟨rfl, rfl, rfl, rfl, fun F h β => by simp [t83, Rep, Reps]⟩⟩
theorem t84_ok : t84.ok Try.prog 84 := ⟨by kernel_rfl, by kernel_rfl, by kernel_rfl, ⟨_, Try.underlying84⟩, (fun h => by cases h), ⟨rfl, rfl, rfl, rfl, fun F h β => by simp [t84, Rep, Reps]⟩⟩
theorem t88_ok : t88.ok Try.prog 88 := ⟨by kernel_rfl, by kernel_rfl, by kernel_rfl, ⟨_, Try.underlying88, rfl⟩, (fun _ => eqInts_of (by kernel_rfl) (by kernel_rfl) (by kernel_rfl)), ⟨rfl, rfl, rfl, rfl, fun F h β => by simp [t88, Rep, Reps]⟩⟩
theorem t89_ok : t89.ok Try.prog 89 := ⟨by kernel_rfl, by kernel_rfl, by kernel_rfl, ⟨_, Try.underlying89, rfl⟩, (fun _ => eqInts_of (by kernel_rfl) (by kernel_rfl) (by kernel_rfl)), ⟨rfl, rfl, rfl, rfl, fun F h β => by simp [t89, Rep, Reps]⟩⟩
theorem t90_ok : t90.ok Try.prog 90 := ⟨by kernel_rfl, by kernel_rfl, by kernel_rfl, ⟨_, Try.underlying90, rfl⟩, (fun _ => eqInts_of (by kernel_rfl) (by kernel_rfl) (by kernel_rfl)), ⟨rfl, rfl, rfl, rfl, fun F h β => by simp [t90, Rep, Reps]⟩⟩
theorem t91_ok : t91.ok Try.prog 91 := ⟨by kernel_rfl, by kernel_rfl, by kernel_rfl, Try.underlying91, (fun h => by cases h), ⟨rfl, rfl, rfl, rfl, fun F h β => by simp [t91, Rep, Reps]⟩⟩
theorem t94_ok : t94.ok Try.prog 94 := ⟨by kernel_rfl, by kernel_rfl, by kernel_rfl, ⟨_, Try.underlying94, rfl⟩, (fun h => by cases h), ⟨rfl, rfl, rfl, rfl, fun F h β => by simp [t94, Rep, Reps]⟩⟩
theorem t95_ok : t95.ok Try.prog 95 := ⟨by kernel_rfl, by kernel_rfl, by kernel_rfl, ⟨_, Try.underlying95, rfl⟩, (fun h => by cases h), ⟨rfl, rfl, rfl, rfl, fun F h β => by simp [t95, Rep, Reps]⟩⟩
theorem t105_ok : t105.ok Try.prog 105 := ⟨by kernel_rfl, by kernel_rfl, by kernel_rfl, Try.underlying105, (fun h => by cases h), ⟨rfl, rfl, rfl, rfl, fun F h β => by simp [t105, Rep, Reps]⟩⟩
theorem t108_ok : t108.ok Try.prog 108 := ⟨by kernel_rfl, by kernel_rfl, by kernel_rfl, ⟨_, _, _, Try.underlying108⟩, (fun h => by cases h), ⟨rfl, rfl, rfl, rfl, fun F h β => by simp [t108, Rep, Reps]⟩⟩
theorem t109_ok : t109.ok Try.prog 109 := ⟨by kernel_rfl, by kernel_rfl, by kernel_rfl, Try.underlying109, (fun h => by cases h), ⟨rfl, rfl, rfl, rfl, fun F h β => by simp [t109, Rep, Reps]⟩⟩
theorem t112_ok : t112.ok Try.prog 112 := ⟨by kernel_rfl, by kernel_rfl, by kernel_rfl, ⟨_, Try.underlying112, rfl⟩, (fun h => by cases h), ⟨rfl, rfl, rfl, rfl, fun F h β => by simp [t112, Rep, Reps]⟩⟩
def G : Ctx := [(2, t2), (3, t3), (4, t4), (5, t5), (9, t9), (12, t12), (20, t20), (21, t21), (22, t22), (23, t23), (24, t24), (25, t25), (26, t26), (29, t29), (30, t30), (31, t31), (34, t34), (37, t37), (59, t59), (64, t64), (66, t66), (67, t67), (68, t68), (69, t69), (70, t70), (76, t76), (78, t78), (79, t79), (83, t83), (84, t84), (88, t88), (89, t89), (90, t90), (91, t91), (94, t94), (95, t95), (105, t105), (108, t108), (109, t109), (112, t112)]
@[simp] theorem G_2 : G.get 2 = some t2 := rfl
@[simp] theorem G_3 : G.get 3 = some t3 := rfl
@[simp] theorem G_4 : G.get 4 = some t4 := rfl
@[simp] theorem G_5 : G.get 5 = some t5 := rfl
@[simp] theorem G_9 : G.get 9 = some t9 := rfl
@[simp] theorem G_12 : G.get 12 = some t12 := rfl
@[simp] theorem G_20 : G.get 20 = some t20 := rfl
@[simp] theorem G_21 : G.get 21 = some t21 := rfl
@[simp] theorem G_22 : G.get 22 = some t22 := rfl
@[simp] theorem G_23 : G.get 23 = some t23 := rfl
@[simp] theorem G_24 : G.get 24 = some t24 := rfl
@[simp] theorem G_25 : G.get 25 = some t25 := rfl
@[simp] theorem G_26 : G.get 26 = some t26 := rfl
@[simp] theorem G_29 : G.get 29 = some t29 := rfl
@[simp] theorem G_30 : G.get 30 = some t30 := rfl
@[simp] theorem G_31 : G.get 31 = some t31 := rfl
@[simp] theorem G_34 : G.get 34 = some t34 := rfl
@[simp] theorem G_37 : G.get 37 = some t37 := rfl
@[simp] theorem G_59 : G.get 59 = some t59 := rfl
@[simp] theorem G_64 : G.get 64 = some t64 := rfl
@[simp] theorem G_66 : G.get 66 = some t66 := rfl
@[simp] theorem G_67 : G.get 67 = some t67 := rfl
@[simp] theorem G_68 : G.get 68 = some t68 := rfl
@[simp] theorem G_69 : G.get 69 = some t69 := rfl
@[simp] theorem G_70 : G.get 70 = some t70 := rfl
@[simp] theorem G_76 : G.get 76 = some t76 := rfl
@[simp] theorem G_78 : G.get 78 = some t78 := rfl
@[simp] theorem G_79 : G.get 79 = some t79 := rfl
@[simp] theorem G_83 : G.get 83 = some t83 := rfl
@[simp] theorem G_84 : G.get 84 = some t84 := rfl
@[simp] theorem G_88 : G.get 88 = some t88 := rfl
@[simp] theorem G_89 : G.get 89 = some t89 := rfl
@[simp] theorem G_90 : G.get 90 = some t90 := rfl
@[simp] theorem G_91 : G.get 91 = some t91 := rfl
@[simp] theorem G_94 : G.get 94 = some t94 := rfl
@[simp] theorem G_95 : G.get 95 = some t95 := rfl
@[simp] theorem G_105 : G.get 105 = some t105 := rfl
@[simp] theorem G_108 : G.get 108 = some t108 := rfl
@[simp] theorem G_109 : G.get 109 = some t109 := rfl
@[simp] theorem G_112 : G.get 112 = some t112 := rfl
theorem G_ok : G.ok Try.prog := by
  intro p hp
  simp only [G, List.mem_cons, List.not_mem_nil, or_false] at hp
  rcases hp with rfl | rfl | rfl | rfl | rfl | rfl | rfl | rfl | rfl | rfl | rfl | rfl | rfl | rfl | rfl | rfl | rfl | rfl | rfl | rfl | rfl | rfl | rfl | rfl | rfl | rfl | rfl | rfl | rfl | rfl | rfl | rfl | rfl | rfl | rfl | rfl | rfl | rfl | rfl | rfl
  · exact t2_ok
  · exact t3_ok
  · exact t4_ok
  · exact t5_ok
  · exact t9_ok
  · exact t12_ok
  · exact t20_ok
  · exact t21_ok
  · exact t22_ok
  · exact t23_ok
  · exact t24_ok
  · exact t25_ok
  · exact t26_ok
  · exact t29_ok
  · exact t30_ok
  · exact t31_ok
  · exact t34_ok
  · exact t37_ok
  · exact t59_ok
  · exact t64_ok
  · exact t66_ok
  · exact t67_ok
  · exact t68_ok
  · exact t69_ok
  · exact t70_ok
  · exact t76_ok
  · exact t78_ok
  · exact t79_ok
  · exact t83_ok
  · exact t84_ok
  · exact t88_ok
  · exact t89_ok
  · exact t90_ok
  · exact t91_ok
  · exact t94_ok
  · exact t95_ok
  · exact t105_ok
  · exact t108_ok
  · exact t109_ok
  · exact t112_ok
theorem mix : Try.prog.follows .mixedOrders = true := by kernel_rfl
end Go.Proofs.Ytelhilcdlfjafaa
