/- What is known of the types of this program: their sizes, zero values and parts. -/
import Derived.Test.YtojpebfoajeilaaProg
import Derived.Test.YtojpebfoajeilaaTY
import Derived.KernelRfl
namespace Go.Proofs.Ytojpebfoajeilaa
open Go Go.Eng
set_option linter.unusedSimpArgs false
set_option linter.unusedVariables false
set_option maxRecDepth 20000
/-- int64 -/
def t2 : TI := ⟨1, 8, .int .i64 0, .lit (.int .i64 0), .lit (.int .i64 0), .int .i64, false⟩
@[simp] theorem t2_size : t2.size = 1 := rfl
@[simp] theorem t2_bytes : t2.bytes = 8 := rfl
@[simp] theorem t2_z : t2.z = .lit (.int .i64 0) := rfl
@[simp] theorem t2_y : t2.y = .lit (.int .i64 0) := rfl
@[simp] theorem t2_kind : t2.kind = .int .i64 := rfl
@[simp] theorem t2_cmp : t2.cmp = false := rfl
/-- int -/
def t3 : TI := ⟨1, 8, .int .i64 0, .lit (.int .i64 0), .lit (.int .i64 0), .int .i64, false⟩
@[simp] theorem t3_size : t3.size = 1 := rfl
@[simp] theorem t3_bytes : t3.bytes = 8 := rfl
@[simp] theorem t3_z : t3.z = .lit (.int .i64 0) := rfl
@[simp] theorem t3_y : t3.y = .lit (.int .i64 0) := rfl
@[simp] theorem t3_kind : t3.kind = .int .i64 := rfl
@[simp] theorem t3_cmp : t3.cmp = false := rfl
/-- bool -/
def t4 : TI := ⟨1, 1, .bool false, .lit (.bool false), .lit (.bool false), .bool, false⟩
@[simp] theorem t4_size : t4.size = 1 := rfl
@[simp] theorem t4_bytes : t4.bytes = 1 := rfl
@[simp] theorem t4_z : t4.z = .lit (.bool false) := rfl
@[simp] theorem t4_y : t4.y = .lit (.bool false) := rfl
@[simp] theorem t4_kind : t4.kind = .bool := rfl
@[simp] theorem t4_cmp : t4.cmp = false := rfl
/-- uint8 -/
def t5 : TI := ⟨1, 1, .int .u8 0, .lit (.int .u8 0), .lit (.int .u8 0), .int .u8, false⟩
@[simp] theorem t5_size : t5.size = 1 := rfl
@[simp] theorem t5_bytes : t5.bytes = 1 := rfl
@[simp] theorem t5_z : t5.z = .lit (.int .u8 0) := rfl
@[simp] theorem t5_y : t5.y = .lit (.int .u8 0) := rfl
@[simp] theorem t5_kind : t5.kind = .int .u8 := rfl
@[simp] theorem t5_cmp : t5.cmp = false := rfl
/-- string -/
def t9 : TI := ⟨1, 16, .string ⟨#[]⟩, .lit (.string ⟨#[]⟩), .lit (.string ⟨#[]⟩), .str, false⟩
@[simp] theorem t9_size : t9.size = 1 := rfl
@[simp] theorem t9_bytes : t9.bytes = 16 := rfl
@[simp] theorem t9_z : t9.z = .lit (.string ⟨#[]⟩) := rfl
@[simp] theorem t9_y : t9.y = .lit (.string ⟨#[]⟩) := rfl
@[simp] theorem t9_kind : t9.kind = .str := rfl
@[simp] theorem t9_cmp : t9.cmp = false := rfl
/-- uintptr -/
def t12 : TI := ⟨1, 8, .int .u64 0, .lit (.int .u64 0), .lit (.int .u64 0), .int .u64, false⟩
@[simp] theorem t12_size : t12.size = 1 := rfl
@[simp] theorem t12_bytes : t12.bytes = 8 := rfl
@[simp] theorem t12_z : t12.z = .lit (.int .u64 0) := rfl
@[simp] theorem t12_y : t12.y = .lit (.int .u64 0) := rfl
@[simp] theorem t12_kind : t12.kind = .int .u64 := rfl
@[simp] theorem t12_cmp : t12.cmp = false := rfl
/-- interface {} -/
def t20 : TI := ⟨1, 16, .nilIface, .lit .nilIface, .lit .nilIface, .iface, false⟩
@[simp] theorem t20_size : t20.size = 1 := rfl
@[simp] theorem t20_bytes : t20.bytes = 16 := rfl
@[simp] theorem t20_z : t20.z = .lit .nilIface := rfl
@[simp] theorem t20_y : t20.y = .lit .nilIface := rfl
@[simp] theorem t20_kind : t20.kind = .iface := rfl
@[simp] theorem t20_cmp : t20.cmp = false := rfl
/-- int32 -/
def t21 : TI := ⟨1, 4, .int .i32 0, .lit (.int .i32 0), .lit (.int .i32 0), .int .i32, false⟩
@[simp] theorem t21_size : t21.size = 1 := rfl
@[simp] theorem t21_bytes : t21.bytes = 4 := rfl
@[simp] theorem t21_z : t21.z = .lit (.int .i32 0) := rfl
@[simp] theorem t21_y : t21.y = .lit (.int .i32 0) := rfl
@[simp] theorem t21_kind : t21.kind = .int .i32 := rfl
@[simp] theorem t21_cmp : t21.cmp = false := rfl
/-- []uint8 -/
def t22 : TI := ⟨1, 24, .slice none 0 0, .sl true 0 .any [], yLU, .slice 5, false⟩
@[simp] theorem t22_size : t22.size = 1 := rfl
@[simp] theorem t22_bytes : t22.bytes = 24 := rfl
@[simp] theorem t22_z : t22.z = .sl true 0 .any [] := rfl
@[simp] theorem t22_y : t22.y = yLU := rfl
@[simp] theorem t22_kind : t22.kind = .slice 5 := rfl
@[simp] theorem t22_cmp : t22.cmp = false := rfl
/-- struct { From int; Until int } -/
def t24 : TI := ⟨2, 16, .agg #[.int .i64 0, .int .i64 0], .agg [.lit (.int .i64 0), .lit (.int .i64 0)], yTSpan, .st [(0, 3), (1, 3)], true⟩
@[simp] theorem t24_size : t24.size = 2 := rfl
@[simp] theorem t24_bytes : t24.bytes = 16 := rfl
@[simp] theorem t24_z : t24.z = .agg [.lit (.int .i64 0), .lit (.int .i64 0)] := rfl
@[simp] theorem t24_y : t24.y = yTSpan := rfl
@[simp] theorem t24_kind : t24.kind = .st [(0, 3), (1, 3)] := rfl
@[simp] theorem t24_cmp : t24.cmp = true := rfl
/-- impl.Span = loop.example/g03007/impl.Span -/
def t25 : TI := ⟨2, 16, .agg #[.int .i64 0, .int .i64 0], .agg [.lit (.int .i64 0), .lit (.int .i64 0)], yTSpan, .st [(0, 3), (1, 3)], true⟩
@[simp] theorem t25_size : t25.size = 2 := rfl
@[simp] theorem t25_bytes : t25.bytes = 16 := rfl
@[simp] theorem t25_z : t25.z = .agg [.lit (.int .i64 0), .lit (.int .i64 0)] := rfl
@[simp] theorem t25_y : t25.y = yTSpan := rfl
@[simp] theorem t25_kind : t25.kind = .st [(0, 3), (1, 3)] := rfl
@[simp] theorem t25_cmp : t25.cmp = true := rfl
/-- []impl.Mark -/
def t36 : TI := ⟨1, 24, .slice none 0 0, .sl true 0 .any [], yLTMark, .slice 46, false⟩
@[simp] theorem t36_size : t36.size = 1 := rfl
@[simp] theorem t36_bytes : t36.bytes = 24 := rfl
@[simp] theorem t36_z : t36.z = .sl true 0 .any [] := rfl
@[simp] theorem t36_y : t36.y = yLTMark := rfl
@[simp] theorem t36_kind : t36.kind = .slice 46 := rfl
@[simp] theorem t36_cmp : t36.cmp = false := rfl
/-- struct { Question int; Answer int } -/
def t45 : TI := ⟨2, 16, .agg #[.int .i64 0, .int .i64 0], .agg [.lit (.int .i64 0), .lit (.int .i64 0)], yTMark, .st [(0, 3), (1, 3)], true⟩
@[simp] theorem t45_size : t45.size = 2 := rfl
@[simp] theorem t45_bytes : t45.bytes = 16 := rfl
@[simp] theorem t45_z : t45.z = .agg [.lit (.int .i64 0), .lit (.int .i64 0)] := rfl
@[simp] theorem t45_y : t45.y = yTMark := rfl
@[simp] theorem t45_kind : t45.kind = .st [(0, 3), (1, 3)] := rfl
@[simp] theorem t45_cmp : t45.cmp = true := rfl
/-- impl.Mark = loop.example/g03007/impl.Mark -/
def t46 : TI := ⟨2, 16, .agg #[.int .i64 0, .int .i64 0], .agg [.lit (.int .i64 0), .lit (.int .i64 0)], yTMark, .st [(0, 3), (1, 3)], true⟩
@[simp] theorem t46_size : t46.size = 2 := rfl
@[simp] theorem t46_bytes : t46.bytes = 16 := rfl
@[simp] theorem t46_z : t46.z = .agg [.lit (.int .i64 0), .lit (.int .i64 0)] := rfl
@[simp] theorem t46_y : t46.y = yTMark := rfl
@[simp] theorem t46_kind : t46.kind = .st [(0, 3), (1, 3)] := rfl
@[simp] theorem t46_cmp : t46.cmp = true := rfl
/-- *spec.l1Cur -/
def t51 : TI := ⟨1, 8, .pointer none, .lit (.pointer none), .lit (.pointer none), .ptr 79, false⟩
@[simp] theorem t51_size : t51.size = 1 := rfl
@[simp] theorem t51_bytes : t51.bytes = 8 := rfl
@[simp] theorem t51_z : t51.z = .lit (.pointer none) := rfl
@[simp] theorem t51_y : t51.y = .lit (.pointer none) := rfl
@[simp] theorem t51_kind : t51.kind = .ptr 79 := rfl
@[simp] theorem t51_cmp : t51.cmp = false := rfl
/-- struct { with impl.Span } -/
def t55 : TI := ⟨2, 16, .agg #[.int .i64 0, .int .i64 0], .agg [.lit (.int .i64 0), .lit (.int .i64 0)], yTMeeting, .st [(0, 25)], true⟩
@[simp] theorem t55_size : t55.size = 2 := rfl
@[simp] theorem t55_bytes : t55.bytes = 16 := rfl
@[simp] theorem t55_z : t55.z = .agg [.lit (.int .i64 0), .lit (.int .i64 0)] := rfl
@[simp] theorem t55_y : t55.y = yTMeeting := rfl
@[simp] theorem t55_kind : t55.kind = .st [(0, 25)] := rfl
@[simp] theorem t55_cmp : t55.cmp = true := rfl
/-- impl.meeting = loop.example/g03007/impl.meeting -/
def t56 : TI := ⟨2, 16, .agg #[.int .i64 0, .int .i64 0], .agg [.lit (.int .i64 0), .lit (.int .i64 0)], yTMeeting, .st [(0, 25)], true⟩
@[simp] theorem t56_size : t56.size = 2 := rfl
@[simp] theorem t56_bytes : t56.bytes = 16 := rfl
@[simp] theorem t56_z : t56.z = .agg [.lit (.int .i64 0), .lit (.int .i64 0)] := rfl
@[simp] theorem t56_y : t56.y = yTMeeting := rfl
@[simp] theorem t56_kind : t56.kind = .st [(0, 25)] := rfl
@[simp] theorem t56_cmp : t56.cmp = true := rfl
/-- impl.covering = loop.example/g03007/impl.covering -/
def t58 : TI := ⟨2, 16, .agg #[.int .i64 0, .int .i64 0], .agg [.lit (.int .i64 0), .lit (.int .i64 0)], yTMeeting, .st [(0, 25)], true⟩
@[simp] theorem t58_size : t58.size = 2 := rfl
@[simp] theorem t58_bytes : t58.bytes = 16 := rfl
@[simp] theorem t58_z : t58.z = .agg [.lit (.int .i64 0), .lit (.int .i64 0)] := rfl
@[simp] theorem t58_y : t58.y = yTMeeting := rfl
@[simp] theorem t58_kind : t58.kind = .st [(0, 25)] := rfl
@[simp] theorem t58_cmp : t58.cmp = true := rfl
/-- []int -/
def t62 : TI := ⟨1, 24, .slice none 0 0, .sl true 0 .any [], yLI, .slice 3, false⟩
@[simp] theorem t62_size : t62.size = 1 := rfl
@[simp] theorem t62_bytes : t62.bytes = 24 := rfl
@[simp] theorem t62_z : t62.z = .sl true 0 .any [] := rfl
@[simp] theorem t62_y : t62.y = yLI := rfl
@[simp] theorem t62_kind : t62.kind = .slice 3 := rfl
@[simp] theorem t62_cmp : t62.cmp = false := rfl
/-- struct { by int } -/
def t63 : TI := ⟨1, 8, .agg #[.int .i64 0], .agg [.lit (.int .i64 0)], yTWidening, .st [(0, 3)], true⟩
@[simp] theorem t63_size : t63.size = 1 := rfl
@[simp] theorem t63_bytes : t63.bytes = 8 := rfl
@[simp] theorem t63_z : t63.z = .agg [.lit (.int .i64 0)] := rfl
@[simp] theorem t63_y : t63.y = yTWidening := rfl
@[simp] theorem t63_kind : t63.kind = .st [(0, 3)] := rfl
@[simp] theorem t63_cmp : t63.cmp = true := rfl
/-- impl.widening = loop.example/g03007/impl.widening -/
def t64 : TI := ⟨1, 8, .agg #[.int .i64 0], .agg [.lit (.int .i64 0)], yTWidening, .st [(0, 3)], true⟩
@[simp] theorem t64_size : t64.size = 1 := rfl
@[simp] theorem t64_bytes : t64.bytes = 8 := rfl
@[simp] theorem t64_z : t64.z = .agg [.lit (.int .i64 0)] := rfl
@[simp] theorem t64_y : t64.y = yTWidening := rfl
@[simp] theorem t64_kind : t64.kind = .st [(0, 3)] := rfl
@[simp] theorem t64_cmp : t64.cmp = true := rfl
/-- func(impl.Mark) int -/
def t67 : TI := ⟨1, 8, .nilFunc, .lit .nilFunc, .lit .nilFunc, .func, false⟩
@[simp] theorem t67_size : t67.size = 1 := rfl
@[simp] theorem t67_bytes : t67.bytes = 8 := rfl
@[simp] theorem t67_z : t67.z = .lit .nilFunc := rfl
@[simp] theorem t67_y : t67.y = .lit .nilFunc := rfl
@[simp] theorem t67_kind : t67.kind = .func := rfl
@[simp] theorem t67_cmp : t67.cmp = false := rfl
/-- struct { items []impl.Mark; numberOf func(impl.Mark) int } -/
def t68 : TI := ⟨2, 32, .agg #[.slice none 0 0, .nilFunc], .agg [.sl true 0 .any [], .lit .nilFunc], .any, .st [(0, 36), (1, 67)], false⟩
@[simp] theorem t68_size : t68.size = 2 := rfl
@[simp] theorem t68_bytes : t68.bytes = 32 := rfl
@[simp] theorem t68_z : t68.z = .agg [.sl true 0 .any [], .lit .nilFunc] := rfl
@[simp] theorem t68_y : t68.y = .any := rfl
@[simp] theorem t68_kind : t68.kind = .st [(0, 36), (1, 67)] := rfl
@[simp] theorem t68_cmp : t68.cmp = false := rfl
/-- impl.sortedList[loop.example/g03007/impl.Mark] = loop.example/g03007/impl.sortedList[loop.example/g03007/impl.Mark] -/
def t69 : TI := ⟨2, 32, .agg #[.slice none 0 0, .nilFunc], .agg [.sl true 0 .any [], .lit .nilFunc], .any, .st [(0, 36), (1, 67)], false⟩
@[simp] theorem t69_size : t69.size = 2 := rfl
@[simp] theorem t69_bytes : t69.bytes = 32 := rfl
@[simp] theorem t69_z : t69.z = .agg [.sl true 0 .any [], .lit .nilFunc] := rfl
@[simp] theorem t69_y : t69.y = .any := rfl
@[simp] theorem t69_kind : t69.kind = .st [(0, 36), (1, 67)] := rfl
@[simp] theorem t69_cmp : t69.cmp = false := rfl
/-- map[int]int -/
def t74 : TI := ⟨1, 8, .map none, .fm 0 [] .any [], .any, .map 3 3, false⟩
@[simp] theorem t74_size : t74.size = 1 := rfl
@[simp] theorem t74_bytes : t74.bytes = 8 := rfl
@[simp] theorem t74_z : t74.z = .fm 0 [] .any [] := rfl
@[simp] theorem t74_y : t74.y = .any := rfl
@[simp] theorem t74_kind : t74.kind = .map 3 3 := rfl
@[simp] theorem t74_cmp : t74.cmp = false := rfl
/-- struct { b []uint8; i int; h int } -/
def t78 : TI := ⟨3, 40, .agg #[.slice none 0 0, .int .i64 0, .int .i64 0], .agg [.sl true 0 .any [], .lit (.int .i64 0), .lit (.int .i64 0)], yTL1Cur, .st [(0, 22), (1, 3), (2, 3)], false⟩
@[simp] theorem t78_size : t78.size = 3 := rfl
@[simp] theorem t78_bytes : t78.bytes = 40 := rfl
@[simp] theorem t78_z : t78.z = .agg [.sl true 0 .any [], .lit (.int .i64 0), .lit (.int .i64 0)] := rfl
@[simp] theorem t78_y : t78.y = yTL1Cur := rfl
@[simp] theorem t78_kind : t78.kind = .st [(0, 22), (1, 3), (2, 3)] := rfl
@[simp] theorem t78_cmp : t78.cmp = false := rfl
/-- spec.l1Cur = loop.example/g03007/spec.l1Cur -/
def t79 : TI := ⟨3, 40, .agg #[.slice none 0 0, .int .i64 0, .int .i64 0], .agg [.sl true 0 .any [], .lit (.int .i64 0), .lit (.int .i64 0)], yTL1Cur, .st [(0, 22), (1, 3), (2, 3)], false⟩
@[simp] theorem t79_size : t79.size = 3 := rfl
@[simp] theorem t79_bytes : t79.bytes = 40 := rfl
@[simp] theorem t79_z : t79.z = .agg [.sl true 0 .any [], .lit (.int .i64 0), .lit (.int .i64 0)] := rfl
@[simp] theorem t79_y : t79.y = yTL1Cur := rfl
@[simp] theorem t79_kind : t79.kind = .st [(0, 22), (1, 3), (2, 3)] := rfl
@[simp] theorem t79_cmp : t79.cmp = false := rfl
/-- interface { impl.applyTo(impl.Span) impl.Span } -/
def t81 : TI := ⟨1, 16, .nilIface, .lit .nilIface, .lit .nilIface, .iface, false⟩
@[simp] theorem t81_size : t81.size = 1 := rfl
@[simp] theorem t81_bytes : t81.bytes = 16 := rfl
@[simp] theorem t81_z : t81.z = .lit .nilIface := rfl
@[simp] theorem t81_y : t81.y = .lit .nilIface := rfl
@[simp] theorem t81_kind : t81.kind = .iface := rfl
@[simp] theorem t81_cmp : t81.cmp = false := rfl
/-- impl.spanChange = loop.example/g03007/impl.spanChange -/
def t82 : TI := ⟨1, 16, .nilIface, .lit .nilIface, .lit .nilIface, .iface, false⟩
@[simp] theorem t82_size : t82.size = 1 := rfl
@[simp] theorem t82_bytes : t82.bytes = 16 := rfl
@[simp] theorem t82_z : t82.z = .lit .nilIface := rfl
@[simp] theorem t82_y : t82.y = .lit .nilIface := rfl
@[simp] theorem t82_kind : t82.kind = .iface := rfl
@[simp] theorem t82_cmp : t82.cmp = false := rfl
/-- uint -/
def t89 : TI := ⟨1, 8, .int .u64 0, .lit (.int .u64 0), .lit (.int .u64 0), .int .u64, false⟩
@[simp] theorem t89_size : t89.size = 1 := rfl
@[simp] theorem t89_bytes : t89.bytes = 8 := rfl
@[simp] theorem t89_z : t89.z = .lit (.int .u64 0) := rfl
@[simp] theorem t89_y : t89.y = .lit (.int .u64 0) := rfl
@[simp] theorem t89_kind : t89.kind = .int .u64 := rfl
@[simp] theorem t89_cmp : t89.cmp = false := rfl
/-- uint32 -/
def t100 : TI := ⟨1, 4, .int .u32 0, .lit (.int .u32 0), .lit (.int .u32 0), .int .u32, false⟩
@[simp] theorem t100_size : t100.size = 1 := rfl
@[simp] theorem t100_bytes : t100.bytes = 4 := rfl
@[simp] theorem t100_z : t100.z = .lit (.int .u32 0) := rfl
@[simp] theorem t100_y : t100.y = .lit (.int .u32 0) := rfl
@[simp] theorem t100_kind : t100.kind = .int .u32 := rfl
@[simp] theorem t100_cmp : t100.cmp = false := rfl
/-- func(unsafe.Pointer, unsafe.Pointer) bool -/
def t103 : TI := ⟨1, 8, .nilFunc, .lit .nilFunc, .lit .nilFunc, .func, false⟩
@[simp] theorem t103_size : t103.size = 1 := rfl
@[simp] theorem t103_bytes : t103.bytes = 8 := rfl
@[simp] theorem t103_z : t103.z = .lit .nilFunc := rfl
@[simp] theorem t103_y : t103.y = .lit .nilFunc := rfl
@[simp] theorem t103_kind : t103.kind = .func := rfl
@[simp] theorem t103_cmp : t103.cmp = false := rfl
/-- *uint8 -/
def t104 : TI := ⟨1, 8, .pointer none, .lit (.pointer none), .lit (.pointer none), .ptr 5, false⟩
@[simp] theorem t104_size : t104.size = 1 := rfl
@[simp] theorem t104_bytes : t104.bytes = 8 := rfl
@[simp] theorem t104_z : t104.z = .lit (.pointer none) := rfl
@[simp] theorem t104_y : t104.y = .lit (.pointer none) := rfl
@[simp] theorem t104_kind : t104.kind = .ptr 5 := rfl
@[simp] theorem t104_cmp : t104.cmp = false := rfl
/-- struct { Size_ uintptr; PtrBytes uintptr; Hash uint32; TFlag abi.TFlag; Align_ uint8; FieldAlign_ uint8; Kind_ abi.Kind; Equal func(unsafe.Pointer, unsafe.Pointer) bool; GCData *uint8; Str abi.NameOff; PtrToThis abi.TypeOff } -/
def t107 : TI := ⟨11, 48, .agg #[.int .u64 0, .int .u64 0, .int .u32 0, .int .u8 0, .int .u8 0, .int .u8 0, .int .u8 0, .nilFunc, .pointer none, .int .i32 0, .int .i32 0], .agg [.lit (.int .u64 0), .lit (.int .u64 0), .lit (.int .u32 0), .lit (.int .u8 0), .lit (.int .u8 0), .lit (.int .u8 0), .lit (.int .u8 0), .lit .nilFunc, .lit (.pointer none), .lit (.int .i32 0), .lit (.int .i32 0)], .any, .st [(0, 12), (1, 12), (2, 100), (3, 101), (4, 5), (5, 5), (6, 102), (7, 103), (8, 104), (9, 105), (10, 106)], false⟩
@[simp] theorem t107_size : t107.size = 11 := rfl
@[simp] theorem t107_bytes : t107.bytes = 48 := rfl
@[simp] theorem t107_z : t107.z = .agg [.lit (.int .u64 0), .lit (.int .u64 0), .lit (.int .u32 0), .lit (.int .u8 0), .lit (.int .u8 0), .lit (.int .u8 0), .lit (.int .u8 0), .lit .nilFunc, .lit (.pointer none), .lit (.int .i32 0), .lit (.int .i32 0)] := rfl
@[simp] theorem t107_y : t107.y = .any := rfl
@[simp] theorem t107_kind : t107.kind = .st [(0, 12), (1, 12), (2, 100), (3, 101), (4, 5), (5, 5), (6, 102), (7, 103), (8, 104), (9, 105), (10, 106)] := rfl
@[simp] theorem t107_cmp : t107.cmp = false := rfl
theorem t2_ok : t2.ok Try.prog 2 := ⟨by kernel_rfl, by kernel_rfl, by kernel_rfl, Try.underlying2, (fun h => by cases h), ⟨rfl, rfl, rfl, rfl, fun F h β => by simp [t2, Rep, Reps]⟩⟩
theorem t3_ok : t3.ok Try.prog 3 := ⟨by kernel_rfl, by kernel_rfl, by kernel_rfl, Try.underlying3, (fun h => by cases h), ⟨rfl, rfl, rfl, rfl, fun F h β => by simp [t3, Rep, Reps]⟩⟩
theorem t4_ok : t4.ok Try.prog 4 := ⟨by kernel_rfl, by kernel_rfl, by kernel_rfl, Try.underlying4, (fun h => by cases h), ⟨rfl, rfl, rfl, rfl, fun F h β => by simp [t4, Rep, Reps]⟩⟩
theorem t5_ok : t5.ok Try.prog 5 := ⟨by kernel_rfl, by kernel_rfl, by kernel_rfl, Try.underlying5, (fun h => by cases h), ⟨rfl, rfl, rfl, rfl, fun F h β => by simp [t5, Rep, Reps]⟩⟩
theorem t9_ok : t9.ok Try.prog 9 := ⟨by kernel_rfl, by kernel_rfl, by kernel_rfl, Try.underlying9, (fun h => by cases h), ⟨rfl, rfl, rfl, rfl, fun F h β => by simp [t9, Rep, Reps]⟩⟩
theorem t12_ok : t12.ok Try.prog 12 := ⟨by kernel_rfl, by kernel_rfl, by kernel_rfl, Try.underlying12, (fun h => by cases h), ⟨rfl, rfl, rfl, rfl, fun F h β => by simp [t12, Rep, Reps]⟩⟩
theorem t20_ok : t20.ok Try.prog 20 := ⟨by kernel_rfl, by kernel_rfl, by kernel_rfl, ⟨_, Try.underlying20⟩, (fun h => by cases h), ⟨rfl, rfl, rfl, rfl, fun F h β => by simp [t20, Rep, Reps]⟩⟩
theorem t21_ok : t21.ok Try.prog 21 := ⟨by kernel_rfl, by kernel_rfl, by kernel_rfl, Try.underlying21, (fun h => by cases h), ⟨rfl, rfl, rfl, rfl, fun F h β => by simp [t21, Rep, Reps]⟩⟩
theorem t22_ok : t22.ok Try.prog 22 := ⟨by kernel_rfl, by kernel_rfl, by kernel_rfl, Try.underlying22, (fun h => by cases h), ⟨rfl, rfl, rfl, rfl, fun F h β => by simp [t22, Rep, Reps]⟩⟩
theorem t24_ok : t24.ok Try.prog 24 := ⟨by kernel_rfl, by kernel_rfl, by kernel_rfl, ⟨_, Try.underlying24, rfl⟩, (fun _ => eqInts_of (by kernel_rfl) (by kernel_rfl) (by kernel_rfl)), ⟨rfl, rfl, rfl, rfl, fun F h β => by simp [t24, Rep, Reps]⟩⟩
theorem t25_ok : t25.ok Try.prog 25 := ⟨by kernel_rfl, by kernel_rfl, by kernel_rfl, ⟨_, Try.underlying25, rfl⟩, (fun _ => eqInts_of (by kernel_rfl) (by kernel_rfl) (by kernel_rfl)), ⟨rfl, rfl, rfl, rfl, fun F h β => by simp [t25, Rep, Reps]⟩⟩
theorem t36_ok : t36.ok Try.prog 36 := ⟨by kernel_rfl, by kernel_rfl, by kernel_rfl, Try.underlying36, (fun h => by cases h), ⟨rfl, rfl, rfl, rfl, fun F h β => by simp [t36, Rep, Reps]⟩⟩
theorem t45_ok : t45.ok Try.prog 45 := ⟨by kernel_rfl, by kernel_rfl, by kernel_rfl, ⟨_, Try.underlying45, rfl⟩, (fun _ => eqInts_of (by kernel_rfl) (by kernel_rfl) (by kernel_rfl)), ⟨rfl, rfl, rfl, rfl, fun F h β => by simp [t45, Rep, Reps]⟩⟩
theorem t46_ok : t46.ok Try.prog 46 := ⟨by kernel_rfl, by kernel_rfl, by kernel_rfl, ⟨_, Try.underlying46, rfl⟩, (fun _ => eqInts_of (by kernel_rfl) (by kernel_rfl) (by kernel_rfl)), ⟨rfl, rfl, rfl, rfl, fun F h β => by simp [t46, Rep, Reps]⟩⟩
theorem t51_ok : t51.ok Try.prog 51 := ⟨by kernel_rfl, by kernel_rfl, by kernel_rfl, Try.underlying51, (fun h => by cases h), ⟨rfl, rfl, rfl, rfl, fun F h β => by simp [t51, Rep, Reps]⟩⟩
theorem t55_ok : t55.ok Try.prog 55 := ⟨by kernel_rfl, by kernel_rfl, by kernel_rfl, ⟨_, Try.underlying55, rfl⟩, (fun _ => eqInts_of (by kernel_rfl) (by kernel_rfl) (by kernel_rfl)), ⟨rfl, rfl, rfl, rfl, fun F h β => by simp [t55, Rep, Reps]⟩⟩
theorem t56_ok : t56.ok Try.prog 56 := ⟨by kernel_rfl, by kernel_rfl, by kernel_rfl, ⟨_, Try.underlying56, rfl⟩, (fun _ => eqInts_of (by kernel_rfl) (by kernel_rfl) (by kernel_rfl)), ⟨rfl, rfl, rfl, rfl, fun F h β => by simp [t56, Rep, Reps]⟩⟩
theorem t58_ok : t58.ok Try.prog 58 := ⟨by kernel_rfl, by kernel_rfl, by kernel_rfl, ⟨_, Try.underlying58, rfl⟩, (fun _ => eqInts_of (by kernel_rfl) (by kernel_rfl) (by kernel_rfl)), ⟨rfl, rfl, rfl, rfl, fun F h β => by simp [t58, Rep, Reps]⟩⟩
theorem t62_ok : t62.ok Try.prog 62 := ⟨by kernel_rfl, by kernel_rfl, by kernel_rfl, Try.underlying62, (fun h => by cases h), ⟨rfl, rfl, rfl, rfl, fun F h β => by simp [t62, Rep, Reps]⟩⟩
theorem t63_ok : t63.ok Try.prog 63 := ⟨by kernel_rfl, by kernel_rfl, by kernel_rfl, ⟨_, Try.underlying63, rfl⟩, (fun _ => eqInts_of (by kernel_rfl) (by kernel_rfl) (by kernel_rfl)), ⟨rfl, rfl, rfl, rfl, fun F h β => by simp [t63, Rep, Reps]⟩⟩
theorem t64_ok : t64.ok Try.prog 64 := ⟨by kernel_rfl, by kernel_rfl, by kernel_rfl, ⟨_, Try.underlying64, rfl⟩, (fun _ => eqInts_of (by kernel_rfl) (by kernel_rfl) (by kernel_rfl)), ⟨rfl, rfl, rfl, rfl, fun F h β => by simp [t64, Rep, Reps]⟩⟩
theorem t67_ok : t67.ok Try.prog 67 := ⟨by kernel_rfl, by kernel_rfl, by kernel_rfl, ⟨_, _, _, Try.underlying67⟩, (fun h => by cases h), ⟨rfl, rfl, rfl, rfl, fun F h β => by simp [t67, Rep, Reps]⟩⟩
theorem t68_ok : t68.ok Try.prog 68 := ⟨by kernel_rfl, by kernel_rfl, by kernel_rfl, ⟨_, Try.underlying68, rfl⟩, (fun h => by cases h), ⟨rfl, rfl, rfl, rfl, fun F h β => by
    show Rep F h β t68.z t68.zero
    simp only [t68, Rep, Reps]
    exact ⟨_, rfl, _, _, rfl, (.inl ⟨by trivial, none, 0, by trivial, by intros; rfl⟩), _, _, rfl, (by trivial), rfl⟩⟩⟩
theorem t69_ok : t69.ok Try.prog 69 := ⟨by kernel_rfl, by kernel_rfl, by kernel_rfl, ⟨_, Try.underlying69, rfl⟩, (fun h => by cases h), ⟨rfl, rfl, rfl, rfl, fun F h β => by
    show Rep F h β t69.z t69.zero
    simp only [t69, Rep, Reps]
    exact ⟨_, rfl, _, _, rfl, (.inl ⟨by trivial, none, 0, by trivial, by intros; rfl⟩), _, _, rfl, (by trivial), rfl⟩⟩⟩
theorem t74_ok : t74.ok Try.prog 74 := ⟨by kernel_rfl, by kernel_rfl, by kernel_rfl, Try.underlying74, (fun h => by cases h), ⟨rfl, rfl, rfl, rfl, fun F h β => by simp [t74, Rep, Reps]⟩⟩
theorem t78_ok : t78.ok Try.prog 78 := ⟨by kernel_rfl, by kernel_rfl, by kernel_rfl, ⟨_, Try.underlying78, rfl⟩, (fun h => by cases h), ⟨rfl, rfl, rfl, rfl, fun F h β => by
    show Rep F h β t78.z t78.zero
    simp only [t78, Rep, Reps]
    exact ⟨_, rfl, _, _, rfl, (.inl ⟨by trivial, none, 0, by trivial, by intros; rfl⟩), _, _, rfl, (by trivial), _, _, rfl, (by trivial), rfl⟩⟩⟩
theorem t79_ok : t79.ok Try.prog 79 := ⟨by kernel_rfl, by kernel_rfl, by kernel_rfl, ⟨_, Try.underlying79, rfl⟩, (fun h => by cases h), ⟨rfl, rfl, rfl, rfl, fun F h β => by
    show Rep F h β t79.z t79.zero
    simp only [t79, Rep, Reps]
    exact ⟨_, rfl, _, _, rfl, (.inl ⟨by trivial, none, 0, by trivial, by intros; rfl⟩), _, _, rfl, (by trivial), _, _, rfl, (by trivial), rfl⟩⟩⟩
theorem t81_ok : t81.ok Try.prog 81 := ⟨by kernel_rfl, by kernel_rfl, by kernel_rfl, ⟨_, Try.underlying81⟩, (fun h => by cases h), ⟨rfl, rfl, rfl, rfl, fun F h β => by simp [t81, Rep, Reps]⟩⟩
theorem t82_ok : t82.ok Try.prog 82 := ⟨by kernel_rfl, by kernel_rfl, by kernel_rfl, ⟨_, Try.underlying82⟩, (fun h => by cases h), ⟨rfl, rfl, rfl, rfl, fun F h β => by simp [t82, Rep, Reps]⟩⟩
theorem t89_ok : t89.ok Try.prog 89 := ⟨by kernel_rfl, by kernel_rfl, by kernel_rfl, Try.underlying89, (fun h => by cases h), ⟨rfl, rfl, rfl, rfl, fun F h β => by simp [t89, Rep, Reps]⟩⟩
theorem t100_ok : t100.ok Try.prog 100 := ⟨by kernel_rfl, by kernel_rfl, by kernel_rfl, Try.underlying100, (fun h => by cases h), ⟨rfl, rfl, rfl, rfl, fun F h β => by simp [t100, Rep, Reps]⟩⟩
theorem t103_ok : t103.ok Try.prog 103 := ⟨by kernel_rfl, by kernel_rfl, by kernel_rfl, ⟨_, _, _, Try.underlying103⟩, (fun h => by cases h), ⟨rfl, rfl, rfl, rfl, fun F h β => by simp [t103, Rep, Reps]⟩⟩
theorem t104_ok : t104.ok Try.prog 104 := ⟨by kernel_rfl, by kernel_rfl, by kernel_rfl, Try.underlying104, (fun h => by cases h), ⟨rfl, rfl, rfl, rfl, fun F h β => by simp [t104, Rep, Reps]⟩⟩
theorem t107_ok : t107.ok Try.prog 107 := ⟨by kernel_rfl, by kernel_rfl, by kernel_rfl, ⟨_, Try.underlying107, rfl⟩, (fun h => by cases h), ⟨rfl, rfl, rfl, rfl, fun F h β => by simp [t107, Rep, Reps]⟩⟩
def G : Ctx := [(2, t2), (3, t3), (4, t4), (5, t5), (9, t9), (12, t12), (20, t20), (21, t21), (22, t22), (24, t24), (25, t25), (36, t36), (45, t45), (46, t46), (51, t51), (55, t55), (56, t56), (58, t58), (62, t62), (63, t63), (64, t64), (67, t67), (68, t68), (69, t69), (74, t74), (78, t78), (79, t79), (81, t81), (82, t82), (89, t89), (100, t100), (103, t103), (104, t104), (107, t107)]
@[simp] theorem G_2 : G.get 2 = some t2 := rfl
@[simp] theorem G_3 : G.get 3 = some t3 := rfl
@[simp] theorem G_4 : G.get 4 = some t4 := rfl
@[simp] theorem G_5 : G.get 5 = some t5 := rfl
@[simp] theorem G_9 : G.get 9 = some t9 := rfl
@[simp] theorem G_12 : G.get 12 = some t12 := rfl
@[simp] theorem G_20 : G.get 20 = some t20 := rfl
@[simp] theorem G_21 : G.get 21 = some t21 := rfl
@[simp] theorem G_22 : G.get 22 = some t22 := rfl
@[simp] theorem G_24 : G.get 24 = some t24 := rfl
@[simp] theorem G_25 : G.get 25 = some t25 := rfl
@[simp] theorem G_36 : G.get 36 = some t36 := rfl
@[simp] theorem G_45 : G.get 45 = some t45 := rfl
@[simp] theorem G_46 : G.get 46 = some t46 := rfl
@[simp] theorem G_51 : G.get 51 = some t51 := rfl
@[simp] theorem G_55 : G.get 55 = some t55 := rfl
@[simp] theorem G_56 : G.get 56 = some t56 := rfl
@[simp] theorem G_58 : G.get 58 = some t58 := rfl
@[simp] theorem G_62 : G.get 62 = some t62 := rfl
@[simp] theorem G_63 : G.get 63 = some t63 := rfl
@[simp] theorem G_64 : G.get 64 = some t64 := rfl
@[simp] theorem G_67 : G.get 67 = some t67 := rfl
@[simp] theorem G_68 : G.get 68 = some t68 := rfl
@[simp] theorem G_69 : G.get 69 = some t69 := rfl
@[simp] theorem G_74 : G.get 74 = some t74 := rfl
@[simp] theorem G_78 : G.get 78 = some t78 := rfl
@[simp] theorem G_79 : G.get 79 = some t79 := rfl
@[simp] theorem G_81 : G.get 81 = some t81 := rfl
@[simp] theorem G_82 : G.get 82 = some t82 := rfl
@[simp] theorem G_89 : G.get 89 = some t89 := rfl
@[simp] theorem G_100 : G.get 100 = some t100 := rfl
@[simp] theorem G_103 : G.get 103 = some t103 := rfl
@[simp] theorem G_104 : G.get 104 = some t104 := rfl
@[simp] theorem G_107 : G.get 107 = some t107 := rfl
theorem G_ok : G.ok Try.prog := by
  intro p hp
  simp only [G, List.mem_cons, List.not_mem_nil, or_false] at hp
  rcases hp with rfl | rfl | rfl | rfl | rfl | rfl | rfl | rfl | rfl | rfl | rfl | rfl | rfl | rfl | rfl | rfl | rfl | rfl | rfl | rfl | rfl | rfl | rfl | rfl | rfl | rfl | rfl | rfl | rfl | rfl | rfl | rfl | rfl | rfl
  · exact t2_ok
  · exact t3_ok
  · exact t4_ok
  · exact t5_ok
  · exact t9_ok
  · exact t12_ok
  · exact t20_ok
  · exact t21_ok
  · exact t22_ok
  · exact t24_ok
  · exact t25_ok
  · exact t36_ok
  · exact t45_ok
  · exact t46_ok
  · exact t51_ok
  · exact t55_ok
  · exact t56_ok
  · exact t58_ok
  · exact t62_ok
  · exact t63_ok
  · exact t64_ok
  · exact t67_ok
  · exact t68_ok
  · exact t69_ok
  · exact t74_ok
  · exact t78_ok
  · exact t79_ok
  · exact t81_ok
  · exact t82_ok
  · exact t89_ok
  · exact t100_ok
  · exact t103_ok
  · exact t104_ok
  · exact t107_ok
theorem mix : Try.prog.follows .mixedOrders = true := by kernel_rfl
end Go.Proofs.Ytojpebfoajeilaa
