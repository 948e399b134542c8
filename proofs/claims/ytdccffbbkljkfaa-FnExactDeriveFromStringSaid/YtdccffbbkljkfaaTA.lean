/- What is known of the types of this program: their sizes, zero values and parts. -/
import Derived.Test.YtdccffbbkljkfaaProg
import Derived.Test.YtdccffbbkljkfaaTY
import Derived.KernelRfl
namespace Go.Proofs.Ytdccffbbkljkfaa
open Go Go.Eng
set_option linter.unusedSimpArgs false
set_option linter.unusedVariables false
/-- int64 -/
def t2 : TI := ⟨1, 8, .int .i64 0, .lit (.int .i64 0), .lit (.int .i64 0), .int .i64, false⟩
@[simp] theorem t2_size : t2.size = 1 := rfl
@[simp] theorem t2_bytes : t2.bytes = 8 := rfl
@[simp] theorem t2_z : t2.z = .lit (.int .i64 0) := rfl
@[simp] theorem t2_y : t2.y = .lit (.int .i64 0) := rfl
@[simp] theorem t2_kind : t2.kind = .int .i64 := rfl
@[simp] theorem t2_cmp : t2.cmp = false := rfl
/-- int -/
def t3 : TI := ⟨1, 8, .int .i64 0, .lit (.int .i64 0), .lit (.int .i64 0), .int .i64, false⟩
@[simp] theorem t3_size : t3.size = 1 := rfl
@[simp] theorem t3_bytes : t3.bytes = 8 := rfl
@[simp] theorem t3_z : t3.z = .lit (.int .i64 0) := rfl
@[simp] theorem t3_y : t3.y = .lit (.int .i64 0) := rfl
@[simp] theorem t3_kind : t3.kind = .int .i64 := rfl
@[simp] theorem t3_cmp : t3.cmp = false := rfl
/-- bool -/
def t4 : TI := ⟨1, 1, .bool false, .lit (.bool false), .lit (.bool false), .bool, false⟩
@[simp] theorem t4_size : t4.size = 1 := rfl
@[simp] theorem t4_bytes : t4.bytes = 1 := rfl
@[simp] theorem t4_z : t4.z = .lit (.bool false) := rfl
@[simp] theorem t4_y : t4.y = .lit (.bool false) := rfl
@[simp] theorem t4_kind : t4.kind = .bool := rfl
@[simp] theorem t4_cmp : t4.cmp = false := rfl
/-- uint8 -/
def t5 : TI := ⟨1, 1, .int .u8 0, .lit (.int .u8 0), .lit (.int .u8 0), .int .u8, false⟩
@[simp] theorem t5_size : t5.size = 1 := rfl
@[simp] theorem t5_bytes : t5.bytes = 1 := rfl
@[simp] theorem t5_z : t5.z = .lit (.int .u8 0) := rfl
@[simp] theorem t5_y : t5.y = .lit (.int .u8 0) := rfl
@[simp] theorem t5_kind : t5.kind = .int .u8 := rfl
@[simp] theorem t5_cmp : t5.cmp = false := rfl
/-- string -/
def t9 : TI := ⟨1, 16, .string ⟨#[]⟩, .lit (.string ⟨#[]⟩), .lit (.string ⟨#[]⟩), .str, false⟩
@[simp] theorem t9_size : t9.size = 1 := rfl
@[simp] theorem t9_bytes : t9.bytes = 16 := rfl
@[simp] theorem t9_z : t9.z = .lit (.string ⟨#[]⟩) := rfl
@[simp] theorem t9_y : t9.y = .lit (.string ⟨#[]⟩) := rfl
@[simp] theorem t9_kind : t9.kind = .str := rfl
@[simp] theorem t9_cmp : t9.cmp = false := rfl
/-- uintptr -/
def t12 : TI := ⟨1, 8, .int .u64 0, .lit (.int .u64 0), .lit (.int .u64 0), .int .u64, false⟩
@[simp] theorem t12_size : t12.size = 1 := rfl
@[simp] theorem t12_bytes : t12.bytes = 8 := rfl
@[simp] theorem t12_z : t12.z = .lit (.int .u64 0) := rfl
@[simp] theorem t12_y : t12.y = .lit (.int .u64 0) := rfl
@[simp] theorem t12_kind : t12.kind = .int .u64 := rfl
@[simp] theorem t12_cmp : t12.cmp = false := rfl
/-- interface {} -/
def t20 : TI := ⟨1, 16, .nilIface, .lit .nilIface, .lit .nilIface, .iface, false⟩
@[simp] theorem t20_size : t20.size = 1 := rfl
@[simp] theorem t20_bytes : t20.bytes = 16 := rfl
@[simp] theorem t20_z : t20.z = .lit .nilIface := rfl
@[simp] theorem t20_y : t20.y = .lit .nilIface := rfl
@[simp] theorem t20_kind : t20.kind = .iface := rfl
@[simp] theorem t20_cmp : t20.cmp = false := rfl
/-- int32 -/
def t21 : TI := ⟨1, 4, .int .i32 0, .lit (.int .i32 0), .lit (.int .i32 0), .int .i32, false⟩
@[simp] theorem t21_size : t21.size = 1 := rfl
@[simp] theorem t21_bytes : t21.bytes = 4 := rfl
@[simp] theorem t21_z : t21.z = .lit (.int .i32 0) := rfl
@[simp] theorem t21_y : t21.y = .lit (.int .i32 0) := rfl
@[simp] theorem t21_kind : t21.kind = .int .i32 := rfl
@[simp] theorem t21_cmp : t21.cmp = false := rfl
/-- []uint8 -/
def t28 : TI := ⟨1, 24, .slice none 0 0, .sl true 0 .any [], yLU, .slice 5, false⟩
@[simp] theorem t28_size : t28.size = 1 := rfl
@[simp] theorem t28_bytes : t28.bytes = 24 := rfl
@[simp] theorem t28_z : t28.z = .sl true 0 .any [] := rfl
@[simp] theorem t28_y : t28.y = yLU := rfl
@[simp] theorem t28_kind : t28.kind = .slice 5 := rfl
@[simp] theorem t28_cmp : t28.cmp = false := rfl
/-- []int -/
def t40 : TI := ⟨1, 24, .slice none 0 0, .sl true 0 .any [], yLI, .slice 3, false⟩
@[simp] theorem t40_size : t40.size = 1 := rfl
@[simp] theorem t40_bytes : t40.bytes = 24 := rfl
@[simp] theorem t40_z : t40.z = .sl true 0 .any [] := rfl
@[simp] theorem t40_y : t40.y = yLI := rfl
@[simp] theorem t40_kind : t40.kind = .slice 3 := rfl
@[simp] theorem t40_cmp : t40.cmp = false := rfl
/-- struct { Id int; Kind int; Colour int; Size int; Worth int } -/
def t58 : TI := ⟨5, 40, .agg #[.int .i64 0, .int .i64 0, .int .i64 0, .int .i64 0, .int .i64 0], .agg [.lit (.int .i64 0), .lit (.int .i64 0), .lit (.int .i64 0), .lit (.int .i64 0), .lit (.int .i64 0)], yTThing, .st [(0, 3), (1, 3), (2, 3), (3, 3), (4, 3)], true⟩
@[simp] theorem t58_size : t58.size = 5 := rfl
@[simp] theorem t58_bytes : t58.bytes = 40 := rfl
@[simp] theorem t58_z : t58.z = .agg [.lit (.int .i64 0), .lit (.int .i64 0), .lit (.int .i64 0), .lit (.int .i64 0), .lit (.int .i64 0)] := rfl
@[simp] theorem t58_y : t58.y = yTThing := rfl
@[simp] theorem t58_kind : t58.kind = .st [(0, 3), (1, 3), (2, 3), (3, 3), (4, 3)] := rfl
@[simp] theorem t58_cmp : t58.cmp = true := rfl
/-- laws.Thing = loop.example/g03007/laws.Thing -/
def t59 : TI := ⟨5, 40, .agg #[.int .i64 0, .int .i64 0, .int .i64 0, .int .i64 0, .int .i64 0], .agg [.lit (.int .i64 0), .lit (.int .i64 0), .lit (.int .i64 0), .lit (.int .i64 0), .lit (.int .i64 0)], yTThing, .st [(0, 3), (1, 3), (2, 3), (3, 3), (4, 3)], true⟩
@[simp] theorem t59_size : t59.size = 5 := rfl
@[simp] theorem t59_bytes : t59.bytes = 40 := rfl
@[simp] theorem t59_z : t59.z = .agg [.lit (.int .i64 0), .lit (.int .i64 0), .lit (.int .i64 0), .lit (.int .i64 0), .lit (.int .i64 0)] := rfl
@[simp] theorem t59_y : t59.y = yTThing := rfl
@[simp] theorem t59_kind : t59.kind = .st [(0, 3), (1, 3), (2, 3), (3, 3), (4, 3)] := rfl
@[simp] theorem t59_cmp : t59.cmp = true := rfl
/-- impl.Thing = loop.example/g03007/impl.Thing -/
def t61 : TI := ⟨5, 40, .agg #[.int .i64 0, .int .i64 0, .int .i64 0, .int .i64 0, .int .i64 0], .agg [.lit (.int .i64 0), .lit (.int .i64 0), .lit (.int .i64 0), .lit (.int .i64 0), .lit (.int .i64 0)], yTThing, .st [(0, 3), (1, 3), (2, 3), (3, 3), (4, 3)], true⟩
@[simp] theorem t61_size : t61.size = 5 := rfl
@[simp] theorem t61_bytes : t61.bytes = 40 := rfl
@[simp] theorem t61_z : t61.z = .agg [.lit (.int .i64 0), .lit (.int .i64 0), .lit (.int .i64 0), .lit (.int .i64 0), .lit (.int .i64 0)] := rfl
@[simp] theorem t61_y : t61.y = yTThing := rfl
@[simp] theorem t61_kind : t61.kind = .st [(0, 3), (1, 3), (2, 3), (3, 3), (4, 3)] := rfl
@[simp] theorem t61_cmp : t61.cmp = true := rfl
/-- []laws.Thing -/
def t67 : TI := ⟨1, 24, .slice none 0 0, .sl true 0 .any [], yLTThing, .slice 59, false⟩
@[simp] theorem t67_size : t67.size = 1 := rfl
@[simp] theorem t67_bytes : t67.bytes = 24 := rfl
@[simp] theorem t67_z : t67.z = .sl true 0 .any [] := rfl
@[simp] theorem t67_y : t67.y = yLTThing := rfl
@[simp] theorem t67_kind : t67.kind = .slice 59 := rfl
@[simp] theorem t67_cmp : t67.cmp = false := rfl
/-- []impl.Thing -/
def t70 : TI := ⟨1, 24, .slice none 0 0, .sl true 0 .any [], yLTThing, .slice 61, false⟩
@[simp] theorem t70_size : t70.size = 1 := rfl
@[simp] theorem t70_bytes : t70.bytes = 24 := rfl
@[simp] theorem t70_z : t70.z = .sl true 0 .any [] := rfl
@[simp] theorem t70_y : t70.y = yLTThing := rfl
@[simp] theorem t70_kind : t70.kind = .slice 61 := rfl
@[simp] theorem t70_cmp : t70.cmp = false := rfl
/-- struct { From int; Until int } -/
def t74 : TI := ⟨2, 16, .agg #[.int .i64 0, .int .i64 0], .agg [.lit (.int .i64 0), .lit (.int .i64 0)], yTSpan, .st [(0, 3), (1, 3)], true⟩
@[simp] theorem t74_size : t74.size = 2 := rfl
@[simp] theorem t74_bytes : t74.bytes = 16 := rfl
@[simp] theorem t74_z : t74.z = .agg [.lit (.int .i64 0), .lit (.int .i64 0)] := rfl
@[simp] theorem t74_y : t74.y = yTSpan := rfl
@[simp] theorem t74_kind : t74.kind = .st [(0, 3), (1, 3)] := rfl
@[simp] theorem t74_cmp : t74.cmp = true := rfl
/-- laws.Span = loop.example/g03007/laws.Span -/
def t75 : TI := ⟨2, 16, .agg #[.int .i64 0, .int .i64 0], .agg [.lit (.int .i64 0), .lit (.int .i64 0)], yTSpan, .st [(0, 3), (1, 3)], true⟩
@[simp] theorem t75_size : t75.size = 2 := rfl
@[simp] theorem t75_bytes : t75.bytes = 16 := rfl
@[simp] theorem t75_z : t75.z = .agg [.lit (.int .i64 0), .lit (.int .i64 0)] := rfl
@[simp] theorem t75_y : t75.y = yTSpan := rfl
@[simp] theorem t75_kind : t75.kind = .st [(0, 3), (1, 3)] := rfl
@[simp] theorem t75_cmp : t75.cmp = true := rfl
/-- impl.Span = loop.example/g03007/impl.Span -/
def t77 : TI := ⟨2, 16, .agg #[.int .i64 0, .int .i64 0], .agg [.lit (.int .i64 0), .lit (.int .i64 0)], yTSpan, .st [(0, 3), (1, 3)], true⟩
@[simp] theorem t77_size : t77.size = 2 := rfl
@[simp] theorem t77_bytes : t77.bytes = 16 := rfl
@[simp] theorem t77_z : t77.z = .agg [.lit (.int .i64 0), .lit (.int .i64 0)] := rfl
@[simp] theorem t77_y : t77.y = yTSpan := rfl
@[simp] theorem t77_kind : t77.kind = .st [(0, 3), (1, 3)] := rfl
@[simp] theorem t77_cmp : t77.cmp = true := rfl
/-- uint -/
def t89 : TI := ⟨1, 8, .int .u64 0, .lit (.int .u64 0), .lit (.int .u64 0), .int .u64, false⟩
@[simp] theorem t89_size : t89.size = 1 := rfl
@[simp] theorem t89_bytes : t89.bytes = 8 := rfl
@[simp] theorem t89_z : t89.z = .lit (.int .u64 0) := rfl
@[simp] theorem t89_y : t89.y = .lit (.int .u64 0) := rfl
@[simp] theorem t89_kind : t89.kind = .int .u64 := rfl
@[simp] theorem t89_cmp : t89.cmp = false := rfl
/-- []string -/
def t96 : TI := ⟨1, 24, .slice none 0 0, .sl true 0 .any [], yLS, .slice 9, false⟩
@[simp] theorem t96_size : t96.size = 1 := rfl
@[simp] theorem t96_bytes : t96.bytes = 24 := rfl
@[simp] theorem t96_z : t96.z = .sl true 0 .any [] := rfl
@[simp] theorem t96_y : t96.y = yLS := rfl
@[simp] theorem t96_kind : t96.kind = .slice 9 := rfl
@[simp] theorem t96_cmp : t96.cmp = false := rfl
/-- struct { with impl.Span } -/
def t99 : TI := ⟨2, 16, .agg #[.int .i64 0, .int .i64 0], .agg [.lit (.int .i64 0), .lit (.int .i64 0)], yTMeeting, .st [(0, 77)], true⟩
@[simp] theorem t99_size : t99.size = 2 := rfl
@[simp] theorem t99_bytes : t99.bytes = 16 := rfl
@[simp] theorem t99_z : t99.z = .agg [.lit (.int .i64 0), .lit (.int .i64 0)] := rfl
@[simp] theorem t99_y : t99.y = yTMeeting := rfl
@[simp] theorem t99_kind : t99.kind = .st [(0, 77)] := rfl
@[simp] theorem t99_cmp : t99.cmp = true := rfl
/-- impl.meeting = loop.example/g03007/impl.meeting -/
def t100 : TI := ⟨2, 16, .agg #[.int .i64 0, .int .i64 0], .agg [.lit (.int .i64 0), .lit (.int .i64 0)], yTMeeting, .st [(0, 77)], true⟩
@[simp] theorem t100_size : t100.size = 2 := rfl
@[simp] theorem t100_bytes : t100.bytes = 16 := rfl
@[simp] theorem t100_z : t100.z = .agg [.lit (.int .i64 0), .lit (.int .i64 0)] := rfl
@[simp] theorem t100_y : t100.y = yTMeeting := rfl
@[simp] theorem t100_kind : t100.kind = .st [(0, 77)] := rfl
@[simp] theorem t100_cmp : t100.cmp = true := rfl
/-- impl.covering = loop.example/g03007/impl.covering -/
def t101 : TI := ⟨2, 16, .agg #[.int .i64 0, .int .i64 0], .agg [.lit (.int .i64 0), .lit (.int .i64 0)], yTMeeting, .st [(0, 77)], true⟩
@[simp] theorem t101_size : t101.size = 2 := rfl
@[simp] theorem t101_bytes : t101.bytes = 16 := rfl
@[simp] theorem t101_z : t101.z = .agg [.lit (.int .i64 0), .lit (.int .i64 0)] := rfl
@[simp] theorem t101_y : t101.y = yTMeeting := rfl
@[simp] theorem t101_kind : t101.kind = .st [(0, 77)] := rfl
@[simp] theorem t101_cmp : t101.cmp = true := rfl
/-- struct { by int } -/
def t102 : TI := ⟨1, 8, .agg #[.int .i64 0], .agg [.lit (.int .i64 0)], yTWidening, .st [(0, 3)], true⟩
@[simp] theorem t102_size : t102.size = 1 := rfl
@[simp] theorem t102_bytes : t102.bytes = 8 := rfl
@[simp] theorem t102_z : t102.z = .agg [.lit (.int .i64 0)] := rfl
@[simp] theorem t102_y : t102.y = yTWidening := rfl
@[simp] theorem t102_kind : t102.kind = .st [(0, 3)] := rfl
@[simp] theorem t102_cmp : t102.cmp = true := rfl
/-- impl.widening = loop.example/g03007/impl.widening -/
def t103 : TI := ⟨1, 8, .agg #[.int .i64 0], .agg [.lit (.int .i64 0)], yTWidening, .st [(0, 3)], true⟩
@[simp] theorem t103_size : t103.size = 1 := rfl
@[simp] theorem t103_bytes : t103.bytes = 8 := rfl
@[simp] theorem t103_z : t103.z = .agg [.lit (.int .i64 0)] := rfl
@[simp] theorem t103_y : t103.y = yTWidening := rfl
@[simp] theorem t103_kind : t103.kind = .st [(0, 3)] := rfl
@[simp] theorem t103_cmp : t103.cmp = true := rfl
/-- map[int]int -/
def t104 : TI := ⟨1, 8, .map none, .fm 0 [] .any [], .any, .map 3 3, false⟩
@[simp] theorem t104_size : t104.size = 1 := rfl
@[simp] theorem t104_bytes : t104.bytes = 8 := rfl
@[simp] theorem t104_z : t104.z = .fm 0 [] .any [] := rfl
@[simp] theorem t104_y : t104.y = .any := rfl
@[simp] theorem t104_kind : t104.kind = .map 3 3 := rfl
@[simp] theorem t104_cmp : t104.cmp = false := rfl
/-- [][]int -/
def t105 : TI := ⟨1, 24, .slice none 0 0, .sl true 0 .any [], yLLI, .slice 40, false⟩
@[simp] theorem t105_size : t105.size = 1 := rfl
@[simp] theorem t105_bytes : t105.bytes = 24 := rfl
@[simp] theorem t105_z : t105.z = .sl true 0 .any [] := rfl
@[simp] theorem t105_y : t105.y = yLLI := rfl
@[simp] theorem t105_kind : t105.kind = .slice 40 := rfl
@[simp] theorem t105_cmp : t105.cmp = false := rfl
/-- interface { impl.applyTo(impl.Span) impl.Span } -/
def t108 : TI := ⟨1, 16, .nilIface, .lit .nilIface, .lit .nilIface, .iface, false⟩
@[simp] theorem t108_size : t108.size = 1 := rfl
@[simp] theorem t108_bytes : t108.bytes = 16 := rfl
@[simp] theorem t108_z : t108.z = .lit .nilIface := rfl
@[simp] theorem t108_y : t108.y = .lit .nilIface := rfl
@[simp] theorem t108_kind : t108.kind = .iface := rfl
@[simp] theorem t108_cmp : t108.cmp = false := rfl
/-- impl.spanChange = loop.example/g03007/impl.spanChange -/
def t109 : TI := ⟨1, 16, .nilIface, .lit .nilIface, .lit .nilIface, .iface, false⟩
@[simp] theorem t109_size : t109.size = 1 := rfl
@[simp] theorem t109_bytes : t109.bytes = 16 := rfl
@[simp] theorem t109_z : t109.z = .lit .nilIface := rfl
@[simp] theorem t109_y : t109.y = .lit .nilIface := rfl
@[simp] theorem t109_kind : t109.kind = .iface := rfl
@[simp] theorem t109_cmp : t109.cmp = false := rfl
/-- uint32 -/
def t119 : TI := ⟨1, 4, .int .u32 0, .lit (.int .u32 0), .lit (.int .u32 0), .int .u32, false⟩
@[simp] theorem t119_size : t119.size = 1 := rfl
@[simp] theorem t119_bytes : t119.bytes = 4 := rfl
@[simp] theorem t119_z : t119.z = .lit (.int .u32 0) := rfl
@[simp] theorem t119_y : t119.y = .lit (.int .u32 0) := rfl
@[simp] theorem t119_kind : t119.kind = .int .u32 := rfl
@[simp] theorem t119_cmp : t119.cmp = false := rfl
/-- *uint8 -/
def t123 : TI := ⟨1, 8, .pointer none, .lit (.pointer none), .lit (.pointer none), .ptr 5, false⟩
@[simp] theorem t123_size : t123.size = 1 := rfl
@[simp] theorem t123_bytes : t123.bytes = 8 := rfl
@[simp] theorem t123_z : t123.z = .lit (.pointer none) := rfl
@[simp] theorem t123_y : t123.y = .lit (.pointer none) := rfl
@[simp] theorem t123_kind : t123.kind = .ptr 5 := rfl
@[simp] theorem t123_cmp : t123.cmp = false := rfl
/-- struct { Size_ uintptr; PtrBytes uintptr; Hash uint32; TFlag abi.TFlag; Align_ uint8; FieldAlign_ uint8; Kind_ abi.Kind; Equal func(unsafe.Pointer, unsafe.Pointer) bool; GCData *uint8; Str abi.NameOff; PtrToThis abi.TypeOff } -/
def t126 : TI := ⟨11, 48, .agg #[.int .u64 0, .int .u64 0, .int .u32 0, .int .u8 0, .int .u8 0, .int .u8 0, .int .u8 0, .nilFunc, .pointer none, .int .i32 0, .int .i32 0], .agg [.lit (.int .u64 0), .lit (.int .u64 0), .lit (.int .u32 0), .lit (.int .u8 0), .lit (.int .u8 0), .lit (.int .u8 0), .lit (.int .u8 0), .lit .nilFunc, .lit (.pointer none), .lit (.int .i32 0), .lit (.int .i32 0)], .any, .st [(0, 12), (1, 12), (2, 119), (3, 120), (4, 5), (5, 5), (6, 121), (7, 122), (8, 123), (9, 124), (10, 125)], false⟩
@[simp] theorem t126_size : t126.size = 11 := rfl
@[simp] theorem t126_bytes : t126.bytes = 48 := rfl
@[simp] theorem t126_z : t126.z = .agg [.lit (.int .u64 0), .lit (.int .u64 0), .lit (.int .u32 0), .lit (.int .u8 0), .lit (.int .u8 0), .lit (.int .u8 0), .lit (.int .u8 0), .lit .nilFunc, .lit (.pointer none), .lit (.int .i32 0), .lit (.int .i32 0)] := rfl
@[simp] theorem t126_y : t126.y = .any := rfl
@[simp] theorem t126_kind : t126.kind = .st [(0, 12), (1, 12), (2, 119), (3, 120), (4, 5), (5, 5), (6, 121), (7, 122), (8, 123), (9, 124), (10, 125)] := rfl
@[simp] theorem t126_cmp : t126.cmp = false := rfl
theorem t2_ok : t2.ok Try.prog 2 := ⟨by kernel_rfl, by kernel_rfl, by kernel_rfl, Try.underlying2, (fun h => by cases h), ⟨rfl, rfl, rfl, rfl, fun F h β => by simp [t2, Rep, Reps]⟩⟩
theorem t3_ok : t3.ok Try.prog 3 := ⟨by kernel_rfl, by kernel_rfl, by kernel_rfl, Try.underlying3, (fun h => by cases h), ⟨rfl, rfl, rfl, rfl, fun F h β => by simp [t3, Rep, Reps]⟩⟩
theorem t4_ok : t4.ok Try.prog 4 := ⟨by kernel_rfl, by kernel_rfl, by kernel_rfl, Try.underlying4, (fun h => by cases h), ⟨rfl, rfl, rfl, rfl, fun F h β => by simp [t4, Rep, Reps]⟩⟩
theorem t5_ok : t5.ok Try.prog 5 := ⟨by kernel_rfl, by kernel_rfl, by kernel_rfl, Try.underlying5, (fun h => by cases h), ⟨rfl, rfl, rfl, rfl, fun F h β => by simp [t5, Rep, Reps]⟩⟩
theorem t9_ok : t9.ok Try.prog 9 := ⟨by kernel_rfl, by kernel_rfl, by kernel_rfl, Try.underlying9, (fun h => by cases h), ⟨rfl, rfl, rfl, rfl, fun F h β => by simp [t9, Rep, Reps]⟩⟩
theorem t12_ok : t12.ok Try.prog 12 := ⟨by kernel_rfl, by kernel_rfl, by kernel_rfl, Try.underlying12, (fun h => by cases h), ⟨rfl, rfl, rfl, rfl, fun F h β => by simp [t12, Rep, Reps]⟩⟩
theorem t20_ok : t20.ok Try.prog 20 := ⟨by kernel_rfl, by kernel_rfl, by kernel_rfl, ⟨_, Try.underlying20⟩, (fun h => by cases h), ⟨rfl, rfl, rfl, rfl, fun F h β => by simp [t20, Rep, Reps]⟩⟩
theorem t21_ok : t21.ok Try.prog 21 := ⟨by kernel_rfl, by kernel_rfl, by kernel_rfl, Try.underlying21, (fun h => by cases h), ⟨rfl, rfl, rfl, rfl, fun F h β => by simp [t21, Rep, Reps]⟩⟩
theorem t28_ok : t28.ok Try.prog 28 := ⟨by kernel_rfl, by kernel_rfl, by kernel_rfl, Try.underlying28, (fun h => by cases h), ⟨rfl, rfl, rfl, rfl, fun F h β => by simp [t28, Rep, Reps]⟩⟩
theorem t40_ok : t40.ok Try.prog 40 := ⟨by kernel_rfl, by kernel_rfl, by kernel_rfl, Try.underlying40, (fun h => by cases h), ⟨rfl, rfl, rfl, rfl, fun F h β => by simp [t40, Rep, Reps]⟩⟩
theorem t58_ok : t58.ok Try.prog 58 := ⟨by kernel_rfl, by kernel_rfl, by kernel_rfl, ⟨_, Try.underlying58, rfl⟩, (fun _ => eqInts_of (by kernel_rfl) (by kernel_rfl) (by kernel_rfl)), ⟨rfl, rfl, rfl, rfl, fun F h β => by simp [t58, Rep, Reps]⟩⟩
theorem t59_ok : t59.ok Try.prog 59 := ⟨by kernel_rfl, by kernel_rfl, by kernel_rfl, ⟨_, Try.underlying59, rfl⟩, (fun _ => eqInts_of (by kernel_rfl) (by kernel_rfl) (by kernel_rfl)), ⟨rfl, rfl, rfl, rfl, fun F h β => by simp [t59, Rep, Reps]⟩⟩
theorem t61_ok : t61.ok Try.prog 61 := ⟨by kernel_rfl, by kernel_rfl, by kernel_rfl, ⟨_, Try.underlying61, rfl⟩, (fun _ => eqInts_of (by kernel_rfl) (by kernel_rfl) (by kernel_rfl)), ⟨rfl, rfl, rfl, rfl, fun F h β => by simp [t61, Rep, Reps]⟩⟩
theorem t67_ok : t67.ok Try.prog 67 := ⟨by kernel_rfl, by kernel_rfl, by kernel_rfl, Try.underlying67, (fun h => by cases h), ⟨rfl, rfl, rfl, rfl, fun F h β => by simp [t67, Rep, Reps]⟩⟩
theorem t70_ok : t70.ok Try.prog 70 := ⟨by kernel_rfl, by kernel_rfl, by kernel_rfl, Try.underlying70, (fun h => by cases h), ⟨rfl, rfl, rfl, rfl, fun F h β => by simp [t70, Rep, Reps]⟩⟩
theorem t74_ok : t74.ok Try.prog 74 := ⟨by kernel_rfl, by kernel_rfl, by kernel_rfl, ⟨_, Try.underlying74, rfl⟩, (fun _ => eqInts_of (by kernel_rfl) (by kernel_rfl) (by kernel_rfl)), ⟨rfl, rfl, rfl, rfl, fun F h β => by simp [t74, Rep, Reps]⟩⟩
theorem t75_ok : t75.ok Try.prog 75 := ⟨by kernel_rfl, by kernel_rfl, by kernel_rfl, ⟨_, Try.underlying75, rfl⟩, (fun _ => eqInts_of (by kernel_rfl) (by kernel_rfl) (by kernel_rfl)), ⟨rfl, rfl, rfl, rfl, fun F h β => by simp [t75, Rep, Reps]⟩⟩
theorem t77_ok : t77.ok Try.prog 77 := ⟨by kernel_rfl, by kernel_rfl, by kernel_rfl, ⟨_, Try.underlying77, rfl⟩, (fun _ => eqInts_of (by kernel_rfl) (by kernel_rfl) (by kernel_rfl)), ⟨rfl, rfl, rfl, rfl, fun F h β => by simp [t77, Rep, Reps]⟩⟩
theorem t89_ok : t89.ok Try.prog 89 := ⟨by kernel_rfl, by kernel_rfl, by kernel_rfl, Try.underlying89, (fun h => by cases h), ⟨rfl, rfl, rfl, rfl, fun F h β => by simp [t89, Rep, Reps]⟩⟩
theorem t96_ok : t96.ok Try.prog 96 := ⟨by kernel_rfl, by kernel_rfl, by kernel_rfl, Try.underlying96, (fun h => by cases h), ⟨rfl, rfl, rfl, rfl, fun F h β => by simp [t96, Rep, Reps]⟩⟩
theorem t99_ok : t99.ok Try.prog 99 := ⟨by kernel_rfl, by kernel_rfl, by kernel_rfl, ⟨_, Try.underlying99, rfl⟩, (fun _ => eqInts_of (by kernel_rfl) (by kernel_rfl) (by kernel_rfl)), ⟨rfl, rfl, rfl, rfl, fun F h β => by simp [t99, Rep, Reps]⟩⟩
theorem t100_ok : t100.ok Try.prog 100 := ⟨by kernel_rfl, by kernel_rfl, by kernel_rfl, ⟨_, Try.underlying100, rfl⟩, (fun _ => eqInts_of (by kernel_rfl) (by kernel_rfl) (by kernel_rfl)), ⟨rfl, rfl, rfl, rfl, fun F h β => by simp [t100, Rep, Reps]⟩⟩
theorem t101_ok : t101.ok Try.prog 101 := ⟨by kernel_rfl, by kernel_rfl, by kernel_rfl, ⟨_, Try.underlying101, rfl⟩, (fun _ => eqInts_of (by kernel_rfl) (by kernel_rfl) (by kernel_rfl)), ⟨rfl, rfl, rfl, rfl, fun F h β => by simp [t101, Rep, Reps]⟩⟩
theorem t102_ok : t102.ok Try.prog 102 := ⟨by kernel_rfl, by kernel_rfl, by kernel_rfl, ⟨_, Try.underlying102, rfl⟩, (fun _ => eqInts_of (by kernel_rfl) (by kernel_rfl) (by kernel_rfl)), ⟨rfl, rfl, rfl, rfl, fun F h β => by simp [t102, Rep, Reps]⟩⟩
theorem t103_ok : t103.ok Try.prog 103 := ⟨by kernel_rfl, by kernel_rfl, by kernel_rfl, ⟨_, Try.underlying103, rfl⟩, (fun _ => eqInts_of (by kernel_rfl) (by kernel_rfl) (by kernel_rfl)), ⟨rfl, rfl, rfl, rfl, fun F h β => by simp [t103, Rep, Reps]⟩⟩
theorem t104_ok : t104.ok Try.prog 104 := ⟨by kernel_rfl, by kernel_rfl, by kernel_rfl, Try.underlying104, (fun h => by cases h), ⟨rfl, rfl, rfl, rfl, fun F h β => by simp [t104, Rep, Reps]⟩⟩
theorem t105_ok : t105.ok Try.prog 105 := ⟨by kernel_rfl, by kernel_rfl, by kernel_rfl, Try.underlying105, (fun h => by cases h), ⟨rfl, rfl, rfl, rfl, fun F h β => by simp [t105, Rep, Reps]⟩⟩
theorem t108_ok : t108.ok Try.prog 108 := ⟨by kernel_rfl, by kernel_rfl, by kernel_rfl, ⟨_, Try.underlying108⟩, (fun h => by cases h), ⟨rfl, rfl, rfl, rfl, fun F h β => by simp [t108, Rep, Reps]⟩⟩
theorem t109_ok : t109.ok Try.prog 109 := ⟨by kernel_rfl, by kernel_rfl, by kernel_rfl, ⟨_, Try.underlying109⟩, (fun h => by cases h), ⟨rfl, rfl, rfl, rfl, fun F h β => by simp [t109, Rep, Reps]⟩⟩
theorem t119_ok : t119.ok Try.prog 119 := ⟨by kernel_rfl, by kernel_rfl, by kernel_rfl, Try.underlying119, (fun h => by cases h), ⟨rfl, rfl, rfl, rfl, fun F h β => by simp [t119, Rep, Reps]⟩⟩
theorem t123_ok : t123.ok Try.prog 123 := ⟨by kernel_rfl, by kernel_rfl, by kernel_rfl, Try.underlying123, (fun h => by cases h), ⟨rfl, rfl, rfl, rfl, fun F h β => by simp [t123, Rep, Reps]⟩⟩
theorem t126_ok : t126.ok Try.prog 126 := ⟨by kernel_rfl, by kernel_rfl, by kernel_rfl, ⟨_, Try.underlying126, rfl⟩, (fun h => by cases h), ⟨rfl, rfl, rfl, rfl, fun F h β => by simp [t126, Rep, Reps]⟩⟩
def G : Ctx := [(2, t2), (3, t3), (4, t4), (5, t5), (9, t9), (12, t12), (20, t20), (21, t21), (28, t28), (40, t40), (58, t58), (59, t59), (61, t61), (67, t67), (70, t70), (74, t74), (75, t75), (77, t77), (89, t89), (96, t96), (99, t99), (100, t100), (101, t101), (102, t102), (103, t103), (104, t104), (105, t105), (108, t108), (109, t109), (119, t119), (123, t123), (126, t126)]
@[simp] theorem G_2 : G.get 2 = some t2 := rfl
@[simp] theorem G_3 : G.get 3 = some t3 := rfl
@[simp] theorem G_4 : G.get 4 = some t4 := rfl
@[simp] theorem G_5 : G.get 5 = some t5 := rfl
@[simp] theorem G_9 : G.get 9 = some t9 := rfl
@[simp] theorem G_12 : G.get 12 = some t12 := rfl
@[simp] theorem G_20 : G.get 20 = some t20 := rfl
@[simp] theorem G_21 : G.get 21 = some t21 := rfl
@[simp] theorem G_28 : G.get 28 = some t28 := rfl
@[simp] theorem G_40 : G.get 40 = some t40 := rfl
@[simp] theorem G_58 : G.get 58 = some t58 := rfl
@[simp] theorem G_59 : G.get 59 = some t59 := rfl
@[simp] theorem G_61 : G.get 61 = some t61 := rfl
@[simp] theorem G_67 : G.get 67 = some t67 := rfl
@[simp] theorem G_70 : G.get 70 = some t70 := rfl
@[simp] theorem G_74 : G.get 74 = some t74 := rfl
@[simp] theorem G_75 : G.get 75 = some t75 := rfl
@[simp] theorem G_77 : G.get 77 = some t77 := rfl
@[simp] theorem G_89 : G.get 89 = some t89 := rfl
@[simp] theorem G_96 : G.get 96 = some t96 := rfl
@[simp] theorem G_99 : G.get 99 = some t99 := rfl
@[simp] theorem G_100 : G.get 100 = some t100 := rfl
@[simp] theorem G_101 : G.get 101 = some t101 := rfl
@[simp] theorem G_102 : G.get 102 = some t102 := rfl
@[simp] theorem G_103 : G.get 103 = some t103 := rfl
@[simp] theorem G_104 : G.get 104 = some t104 := rfl
@[simp] theorem G_105 : G.get 105 = some t105 := rfl
@[simp] theorem G_108 : G.get 108 = some t108 := rfl
@[simp] theorem G_109 : G.get 109 = some t109 := rfl
@[simp] theorem G_119 : G.get 119 = some t119 := rfl
@[simp] theorem G_123 : G.get 123 = some t123 := rfl
@[simp] theorem G_126 : G.get 126 = some t126 := rfl
theorem G_ok : G.ok Try.prog := by
  intro p hp
  simp only [G, List.mem_cons, List.not_mem_nil, or_false] at hp
  rcases hp with rfl | rfl | rfl | rfl | rfl | rfl | rfl | rfl | rfl | rfl | rfl | rfl | rfl | rfl | rfl | rfl | rfl | rfl | rfl | rfl | rfl | rfl | rfl | rfl | rfl | rfl | rfl | rfl | rfl | rfl | rfl | rfl
  · exact t2_ok
  · exact t3_ok
  · exact t4_ok
  · exact t5_ok
  · exact t9_ok
  · exact t12_ok
  · exact t20_ok
  · exact t21_ok
  · exact t28_ok
  · exact t40_ok
  · exact t58_ok
  · exact t59_ok
  · exact t61_ok
  · exact t67_ok
  · exact t70_ok
  · exact t74_ok
  · exact t75_ok
  · exact t77_ok
  · exact t89_ok
  · exact t96_ok
  · exact t99_ok
  · exact t100_ok
  · exact t101_ok
  · exact t102_ok
  · exact t103_ok
  · exact t104_ok
  · exact t105_ok
  · exact t108_ok
  · exact t109_ok
  · exact t119_ok
  · exact t123_ok
  · exact t126_ok
theorem mix : Try.prog.follows .mixedOrders = true := by kernel_rfl
end Go.Proofs.Ytdccffbbkljkfaa
