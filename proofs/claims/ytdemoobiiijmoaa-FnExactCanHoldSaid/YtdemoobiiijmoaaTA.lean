/- What is known of the types of this program: their sizes, zero values and parts. -/
import Derived.Test.YtdemoobiiijmoaaProg
import Derived.Test.YtdemoobiiijmoaaTY
import Derived.KernelRfl
namespace Go.Proofs.Ytdemoobiiijmoaa
open Go Go.Eng
set_option linter.unusedSimpArgs false
set_option linter.unusedVariables false
set_option maxRecDepth 20000
/-- int64 -/
def t2 : TI := ⟨1, 8, .int .i64 0, .lit (.int .i64 0), .lit (.int .i64 0), .int .i64, false⟩
@[simp] theorem t2_size : t2.size = 1 := rfl
@[simp] theorem t2_bytes : t2.bytes = 8 := rfl
@[simp] theorem t2_z : t2.z = .lit (.int .i64 0) := rfl
@[simp] theorem t2_y : t2.y = .lit (.int .i64 0) := rfl
@[simp] theorem t2_kind : t2.kind = .int .i64 := rfl
@[simp] theorem t2_cmp : t2.cmp = false := rfl
/-- int -/
def t3 : TI := ⟨1, 8, .int .i64 0, .lit (.int .i64 0), .lit (.int .i64 0), .int .i64, false⟩
@[simp] theorem t3_size : t3.size = 1 := rfl
@[simp] theorem t3_bytes : t3.bytes = 8 := rfl
@[simp] theorem t3_z : t3.z = .lit (.int .i64 0) := rfl
@[simp] theorem t3_y : t3.y = .lit (.int .i64 0) := rfl
@[simp] theorem t3_kind : t3.kind = .int .i64 := rfl
@[simp] theorem t3_cmp : t3.cmp = false := rfl
/-- bool -/
def t4 : TI := ⟨1, 1, .bool false, .lit (.bool false), .lit (.bool false), .bool, false⟩
@[simp] theorem t4_size : t4.size = 1 := rfl
@[simp] theorem t4_bytes : t4.bytes = 1 := rfl
@[simp] theorem t4_z : t4.z = .lit (.bool false) := rfl
@[simp] theorem t4_y : t4.y = .lit (.bool false) := rfl
@[simp] theorem t4_kind : t4.kind = .bool := rfl
@[simp] theorem t4_cmp : t4.cmp = false := rfl
/-- uint8 -/
def t5 : TI := ⟨1, 1, .int .u8 0, .lit (.int .u8 0), .lit (.int .u8 0), .int .u8, false⟩
@[simp] theorem t5_size : t5.size = 1 := rfl
@[simp] theorem t5_bytes : t5.bytes = 1 := rfl
@[simp] theorem t5_z : t5.z = .lit (.int .u8 0) := rfl
@[simp] theorem t5_y : t5.y = .lit (.int .u8 0) := rfl
@[simp] theorem t5_kind : t5.kind = .int .u8 := rfl
@[simp] theorem t5_cmp : t5.cmp = false := rfl
/-- string -/
def t9 : TI := ⟨1, 16, .string ⟨#[]⟩, .lit (.string ⟨#[]⟩), .lit (.string ⟨#[]⟩), .str, false⟩
@[simp] theorem t9_size : t9.size = 1 := rfl
@[simp] theorem t9_bytes : t9.bytes = 16 := rfl
@[simp] theorem t9_z : t9.z = .lit (.string ⟨#[]⟩) := rfl
@[simp] theorem t9_y : t9.y = .lit (.string ⟨#[]⟩) := rfl
@[simp] theorem t9_kind : t9.kind = .str := rfl
@[simp] theorem t9_cmp : t9.cmp = false := rfl
/-- uintptr -/
def t12 : TI := ⟨1, 8, .int .u64 0, .lit (.int .u64 0), .lit (.int .u64 0), .int .u64, false⟩
@[simp] theorem t12_size : t12.size = 1 := rfl
@[simp] theorem t12_bytes : t12.bytes = 8 := rfl
@[simp] theorem t12_z : t12.z = .lit (.int .u64 0) := rfl
@[simp] theorem t12_y : t12.y = .lit (.int .u64 0) := rfl
@[simp] theorem t12_kind : t12.kind = .int .u64 := rfl
@[simp] theorem t12_cmp : t12.cmp = false := rfl
/-- interface {} -/
def t20 : TI := ⟨1, 16, .nilIface, .lit .nilIface, .lit .nilIface, .iface, false⟩
@[simp] theorem t20_size : t20.size = 1 := rfl
@[simp] theorem t20_bytes : t20.bytes = 16 := rfl
@[simp] theorem t20_z : t20.z = .lit .nilIface := rfl
@[simp] theorem t20_y : t20.y = .lit .nilIface := rfl
@[simp] theorem t20_kind : t20.kind = .iface := rfl
@[simp] theorem t20_cmp : t20.cmp = false := rfl
/-- int32 -/
def t21 : TI := ⟨1, 4, .int .i32 0, .lit (.int .i32 0), .lit (.int .i32 0), .int .i32, false⟩
@[simp] theorem t21_size : t21.size = 1 := rfl
@[simp] theorem t21_bytes : t21.bytes = 4 := rfl
@[simp] theorem t21_z : t21.z = .lit (.int .i32 0) := rfl
@[simp] theorem t21_y : t21.y = .lit (.int .i32 0) := rfl
@[simp] theorem t21_kind : t21.kind = .int .i32 := rfl
@[simp] theorem t21_cmp : t21.cmp = false := rfl
/-- []laws.Slot -/
def t22 : TI := ⟨1, 24, .slice none 0 0, .sl true 0 .any [], yLTSlot, .slice 53, false⟩
@[simp] theorem t22_size : t22.size = 1 := rfl
@[simp] theorem t22_bytes : t22.bytes = 24 := rfl
@[simp] theorem t22_z : t22.z = .sl true 0 .any [] := rfl
@[simp] theorem t22_y : t22.y = yLTSlot := rfl
@[simp] theorem t22_kind : t22.kind = .slice 53 := rfl
@[simp] theorem t22_cmp : t22.cmp = false := rfl
/-- []impl.Slot -/
def t25 : TI := ⟨1, 24, .slice none 0 0, .sl true 0 .any [], yLTSlot, .slice 51, false⟩
@[simp] theorem t25_size : t25.size = 1 := rfl
@[simp] theorem t25_bytes : t25.bytes = 24 := rfl
@[simp] theorem t25_z : t25.z = .sl true 0 .any [] := rfl
@[simp] theorem t25_y : t25.y = yLTSlot := rfl
@[simp] theorem t25_kind : t25.kind = .slice 51 := rfl
@[simp] theorem t25_cmp : t25.cmp = false := rfl
/-- struct { Id int; Kind int; Colour int; Size int; Worth int } -/
def t29 : TI := ⟨5, 40, .agg #[.int .i64 0, .int .i64 0, .int .i64 0, .int .i64 0, .int .i64 0], .agg [.lit (.int .i64 0), .lit (.int .i64 0), .lit (.int .i64 0), .lit (.int .i64 0), .lit (.int .i64 0)], yTThing, .st [(0, 3), (1, 3), (2, 3), (3, 3), (4, 3)], true⟩
@[simp] theorem t29_size : t29.size = 5 := rfl
@[simp] theorem t29_bytes : t29.bytes = 40 := rfl
@[simp] theorem t29_z : t29.z = .agg [.lit (.int .i64 0), .lit (.int .i64 0), .lit (.int .i64 0), .lit (.int .i64 0), .lit (.int .i64 0)] := rfl
@[simp] theorem t29_y : t29.y = yTThing := rfl
@[simp] theorem t29_kind : t29.kind = .st [(0, 3), (1, 3), (2, 3), (3, 3), (4, 3)] := rfl
@[simp] theorem t29_cmp : t29.cmp = true := rfl
/-- laws.Thing = loop.example/g03007/laws.Thing -/
def t30 : TI := ⟨5, 40, .agg #[.int .i64 0, .int .i64 0, .int .i64 0, .int .i64 0, .int .i64 0], .agg [.lit (.int .i64 0), .lit (.int .i64 0), .lit (.int .i64 0), .lit (.int .i64 0), .lit (.int .i64 0)], yTThing, .st [(0, 3), (1, 3), (2, 3), (3, 3), (4, 3)], true⟩
@[simp] theorem t30_size : t30.size = 5 := rfl
@[simp] theorem t30_bytes : t30.bytes = 40 := rfl
@[simp] theorem t30_z : t30.z = .agg [.lit (.int .i64 0), .lit (.int .i64 0), .lit (.int .i64 0), .lit (.int .i64 0), .lit (.int .i64 0)] := rfl
@[simp] theorem t30_y : t30.y = yTThing := rfl
@[simp] theorem t30_kind : t30.kind = .st [(0, 3), (1, 3), (2, 3), (3, 3), (4, 3)] := rfl
@[simp] theorem t30_cmp : t30.cmp = true := rfl
/-- impl.Thing = loop.example/g03007/impl.Thing -/
def t33 : TI := ⟨5, 40, .agg #[.int .i64 0, .int .i64 0, .int .i64 0, .int .i64 0, .int .i64 0], .agg [.lit (.int .i64 0), .lit (.int .i64 0), .lit (.int .i64 0), .lit (.int .i64 0), .lit (.int .i64 0)], yTThing, .st [(0, 3), (1, 3), (2, 3), (3, 3), (4, 3)], true⟩
@[simp] theorem t33_size : t33.size = 5 := rfl
@[simp] theorem t33_bytes : t33.bytes = 40 := rfl
@[simp] theorem t33_z : t33.z = .agg [.lit (.int .i64 0), .lit (.int .i64 0), .lit (.int .i64 0), .lit (.int .i64 0), .lit (.int .i64 0)] := rfl
@[simp] theorem t33_y : t33.y = yTThing := rfl
@[simp] theorem t33_kind : t33.kind = .st [(0, 3), (1, 3), (2, 3), (3, 3), (4, 3)] := rfl
@[simp] theorem t33_cmp : t33.cmp = true := rfl
/-- []laws.Thing -/
def t36 : TI := ⟨1, 24, .slice none 0 0, .sl true 0 .any [], yLTThing, .slice 30, false⟩
@[simp] theorem t36_size : t36.size = 1 := rfl
@[simp] theorem t36_bytes : t36.bytes = 24 := rfl
@[simp] theorem t36_z : t36.z = .sl true 0 .any [] := rfl
@[simp] theorem t36_y : t36.y = yLTThing := rfl
@[simp] theorem t36_kind : t36.kind = .slice 30 := rfl
@[simp] theorem t36_cmp : t36.cmp = false := rfl
/-- []int -/
def t38 : TI := ⟨1, 24, .slice none 0 0, .sl true 0 .any [], yLI, .slice 3, false⟩
@[simp] theorem t38_size : t38.size = 1 := rfl
@[simp] theorem t38_bytes : t38.bytes = 24 := rfl
@[simp] theorem t38_z : t38.z = .sl true 0 .any [] := rfl
@[simp] theorem t38_y : t38.y = yLI := rfl
@[simp] theorem t38_kind : t38.kind = .slice 3 := rfl
@[simp] theorem t38_cmp : t38.cmp = false := rfl
/-- []impl.Thing -/
def t41 : TI := ⟨1, 24, .slice none 0 0, .sl true 0 .any [], yLTThing, .slice 33, false⟩
@[simp] theorem t41_size : t41.size = 1 := rfl
@[simp] theorem t41_bytes : t41.bytes = 24 := rfl
@[simp] theorem t41_z : t41.z = .sl true 0 .any [] := rfl
@[simp] theorem t41_y : t41.y = yLTThing := rfl
@[simp] theorem t41_kind : t41.kind = .slice 33 := rfl
@[simp] theorem t41_cmp : t41.cmp = false := rfl
/-- struct { Id int; Size int; Thing int } -/
def t50 : TI := ⟨3, 24, .agg #[.int .i64 0, .int .i64 0, .int .i64 0], .agg [.lit (.int .i64 0), .lit (.int .i64 0), .lit (.int .i64 0)], yTSlot, .st [(0, 3), (1, 3), (2, 3)], true⟩
@[simp] theorem t50_size : t50.size = 3 := rfl
@[simp] theorem t50_bytes : t50.bytes = 24 := rfl
@[simp] theorem t50_z : t50.z = .agg [.lit (.int .i64 0), .lit (.int .i64 0), .lit (.int .i64 0)] := rfl
@[simp] theorem t50_y : t50.y = yTSlot := rfl
@[simp] theorem t50_kind : t50.kind = .st [(0, 3), (1, 3), (2, 3)] := rfl
@[simp] theorem t50_cmp : t50.cmp = true := rfl
/-- impl.Slot = loop.example/g03007/impl.Slot -/
def t51 : TI := ⟨3, 24, .agg #[.int .i64 0, .int .i64 0, .int .i64 0], .agg [.lit (.int .i64 0), .lit (.int .i64 0), .lit (.int .i64 0)], yTSlot, .st [(0, 3), (1, 3), (2, 3)], true⟩
@[simp] theorem t51_size : t51.size = 3 := rfl
@[simp] theorem t51_bytes : t51.bytes = 24 := rfl
@[simp] theorem t51_z : t51.z = .agg [.lit (.int .i64 0), .lit (.int .i64 0), .lit (.int .i64 0)] := rfl
@[simp] theorem t51_y : t51.y = yTSlot := rfl
@[simp] theorem t51_kind : t51.kind = .st [(0, 3), (1, 3), (2, 3)] := rfl
@[simp] theorem t51_cmp : t51.cmp = true := rfl
/-- laws.Slot = loop.example/g03007/laws.Slot -/
def t53 : TI := ⟨3, 24, .agg #[.int .i64 0, .int .i64 0, .int .i64 0], .agg [.lit (.int .i64 0), .lit (.int .i64 0), .lit (.int .i64 0)], yTSlot, .st [(0, 3), (1, 3), (2, 3)], true⟩
@[simp] theorem t53_size : t53.size = 3 := rfl
@[simp] theorem t53_bytes : t53.bytes = 24 := rfl
@[simp] theorem t53_z : t53.z = .agg [.lit (.int .i64 0), .lit (.int .i64 0), .lit (.int .i64 0)] := rfl
@[simp] theorem t53_y : t53.y = yTSlot := rfl
@[simp] theorem t53_kind : t53.kind = .st [(0, 3), (1, 3), (2, 3)] := rfl
@[simp] theorem t53_cmp : t53.cmp = true := rfl
/-- *impl.sizeHeap -/
def t66 : TI := ⟨1, 8, .pointer none, .lit (.pointer none), .lit (.pointer none), .ptr 68, false⟩
@[simp] theorem t66_size : t66.size = 1 := rfl
@[simp] theorem t66_bytes : t66.bytes = 8 := rfl
@[simp] theorem t66_z : t66.z = .lit (.pointer none) := rfl
@[simp] theorem t66_y : t66.y = .lit (.pointer none) := rfl
@[simp] theorem t66_kind : t66.kind = .ptr 68 := rfl
@[simp] theorem t66_cmp : t66.cmp = false := rfl
/-- []impl.freeSlot -/
def t67 : TI := ⟨1, 24, .slice none 0 0, .sl true 0 .any [], yLTFreeSlot, .slice 72, false⟩
@[simp] theorem t67_size : t67.size = 1 := rfl
@[simp] theorem t67_bytes : t67.bytes = 24 := rfl
@[simp] theorem t67_z : t67.z = .sl true 0 .any [] := rfl
@[simp] theorem t67_y : t67.y = yLTFreeSlot := rfl
@[simp] theorem t67_kind : t67.kind = .slice 72 := rfl
@[simp] theorem t67_cmp : t67.cmp = false := rfl
/-- impl.sizeHeap = loop.example/g03007/impl.sizeHeap -/
def t68 : TI := ⟨1, 24, .slice none 0 0, .sl true 0 .any [], yLTFreeSlot, .slice 72, false⟩
@[simp] theorem t68_size : t68.size = 1 := rfl
@[simp] theorem t68_bytes : t68.bytes = 24 := rfl
@[simp] theorem t68_z : t68.z = .sl true 0 .any [] := rfl
@[simp] theorem t68_y : t68.y = yLTFreeSlot := rfl
@[simp] theorem t68_kind : t68.kind = .slice 72 := rfl
@[simp] theorem t68_cmp : t68.cmp = false := rfl
/-- struct { size int; index int } -/
def t71 : TI := ⟨2, 16, .agg #[.int .i64 0, .int .i64 0], .agg [.lit (.int .i64 0), .lit (.int .i64 0)], yTFreeSlot, .st [(0, 3), (1, 3)], true⟩
@[simp] theorem t71_size : t71.size = 2 := rfl
@[simp] theorem t71_bytes : t71.bytes = 16 := rfl
@[simp] theorem t71_z : t71.z = .agg [.lit (.int .i64 0), .lit (.int .i64 0)] := rfl
@[simp] theorem t71_y : t71.y = yTFreeSlot := rfl
@[simp] theorem t71_kind : t71.kind = .st [(0, 3), (1, 3)] := rfl
@[simp] theorem t71_cmp : t71.cmp = true := rfl
/-- impl.freeSlot = loop.example/g03007/impl.freeSlot -/
def t72 : TI := ⟨2, 16, .agg #[.int .i64 0, .int .i64 0], .agg [.lit (.int .i64 0), .lit (.int .i64 0)], yTFreeSlot, .st [(0, 3), (1, 3)], true⟩
@[simp] theorem t72_size : t72.size = 2 := rfl
@[simp] theorem t72_bytes : t72.bytes = 16 := rfl
@[simp] theorem t72_z : t72.z = .agg [.lit (.int .i64 0), .lit (.int .i64 0)] := rfl
@[simp] theorem t72_y : t72.y = yTFreeSlot := rfl
@[simp] theorem t72_kind : t72.kind = .st [(0, 3), (1, 3)] := rfl
@[simp] theorem t72_cmp : t72.cmp = true := rfl
/-- func(impl.Slot) int -/
def t77 : TI := ⟨1, 8, .nilFunc, .lit .nilFunc, .lit .nilFunc, .func, false⟩
@[simp] theorem t77_size : t77.size = 1 := rfl
@[simp] theorem t77_bytes : t77.bytes = 8 := rfl
@[simp] theorem t77_z : t77.z = .lit .nilFunc := rfl
@[simp] theorem t77_y : t77.y = .lit .nilFunc := rfl
@[simp] theorem t77_kind : t77.kind = .func := rfl
@[simp] theorem t77_cmp : t77.cmp = false := rfl
/-- struct { items []impl.Slot; numberOf func(impl.Slot) int } -/
def t78 : TI := ⟨2, 32, .agg #[.slice none 0 0, .nilFunc], .agg [.sl true 0 .any [], .lit .nilFunc], .any, .st [(0, 25), (1, 77)], false⟩
@[simp] theorem t78_size : t78.size = 2 := rfl
@[simp] theorem t78_bytes : t78.bytes = 32 := rfl
@[simp] theorem t78_z : t78.z = .agg [.sl true 0 .any [], .lit .nilFunc] := rfl
@[simp] theorem t78_y : t78.y = .any := rfl
@[simp] theorem t78_kind : t78.kind = .st [(0, 25), (1, 77)] := rfl
@[simp] theorem t78_cmp : t78.cmp = false := rfl
/-- impl.sortedList[loop.example/g03007/impl.Slot] = loop.example/g03007/impl.sortedList[loop.example/g03007/impl.Slot] -/
def t79 : TI := ⟨2, 32, .agg #[.slice none 0 0, .nilFunc], .agg [.sl true 0 .any [], .lit .nilFunc], .any, .st [(0, 25), (1, 77)], false⟩
@[simp] theorem t79_size : t79.size = 2 := rfl
@[simp] theorem t79_bytes : t79.bytes = 32 := rfl
@[simp] theorem t79_z : t79.z = .agg [.sl true 0 .any [], .lit .nilFunc] := rfl
@[simp] theorem t79_y : t79.y = .any := rfl
@[simp] theorem t79_kind : t79.kind = .st [(0, 25), (1, 77)] := rfl
@[simp] theorem t79_cmp : t79.cmp = false := rfl
/-- impl.content = loop.example/g03007/impl.content -/
def t85 : TI := ⟨1, 8, .int .i64 0, .lit (.int .i64 0), .lit (.int .i64 0), .int .i64, false⟩
@[simp] theorem t85_size : t85.size = 1 := rfl
@[simp] theorem t85_bytes : t85.bytes = 8 := rfl
@[simp] theorem t85_z : t85.z = .lit (.int .i64 0) := rfl
@[simp] theorem t85_y : t85.y = .lit (.int .i64 0) := rfl
@[simp] theorem t85_kind : t85.kind = .int .i64 := rfl
@[simp] theorem t85_cmp : t85.cmp = false := rfl
/-- uint -/
def t91 : TI := ⟨1, 8, .int .u64 0, .lit (.int .u64 0), .lit (.int .u64 0), .int .u64, false⟩
@[simp] theorem t91_size : t91.size = 1 := rfl
@[simp] theorem t91_bytes : t91.bytes = 8 := rfl
@[simp] theorem t91_z : t91.z = .lit (.int .u64 0) := rfl
@[simp] theorem t91_y : t91.y = .lit (.int .u64 0) := rfl
@[simp] theorem t91_kind : t91.kind = .int .u64 := rfl
@[simp] theorem t91_cmp : t91.cmp = false := rfl
/-- interface { Len() int; Less(int, int) bool; Pop() interface {}; Push(interface {}); Swap(int, int) } -/
def t92 : TI := ⟨1, 16, .nilIface, .lit .nilIface, .lit .nilIface, .iface, false⟩
@[simp] theorem t92_size : t92.size = 1 := rfl
@[simp] theorem t92_bytes : t92.bytes = 16 := rfl
@[simp] theorem t92_z : t92.z = .lit .nilIface := rfl
@[simp] theorem t92_y : t92.y = .lit .nilIface := rfl
@[simp] theorem t92_kind : t92.kind = .iface := rfl
@[simp] theorem t92_cmp : t92.cmp = false := rfl
/-- heap.Interface = container/heap.Interface -/
def t93 : TI := ⟨1, 16, .nilIface, .lit .nilIface, .lit .nilIface, .iface, false⟩
@[simp] theorem t93_size : t93.size = 1 := rfl
@[simp] theorem t93_bytes : t93.bytes = 16 := rfl
@[simp] theorem t93_z : t93.z = .lit .nilIface := rfl
@[simp] theorem t93_y : t93.y = .lit .nilIface := rfl
@[simp] theorem t93_kind : t93.kind = .iface := rfl
@[simp] theorem t93_cmp : t93.cmp = false := rfl
/-- slices.sortedHint -/
def t103 : TI := ⟨1, 8, .int .i64 0, .lit (.int .i64 0), .lit (.int .i64 0), .int .i64, false⟩
@[simp] theorem t103_size : t103.size = 1 := rfl
@[simp] theorem t103_bytes : t103.bytes = 8 := rfl
@[simp] theorem t103_z : t103.z = .lit (.int .i64 0) := rfl
@[simp] theorem t103_y : t103.y = .lit (.int .i64 0) := rfl
@[simp] theorem t103_kind : t103.kind = .int .i64 := rfl
@[simp] theorem t103_cmp : t103.cmp = false := rfl
/-- uint32 -/
def t112 : TI := ⟨1, 4, .int .u32 0, .lit (.int .u32 0), .lit (.int .u32 0), .int .u32, false⟩
@[simp] theorem t112_size : t112.size = 1 := rfl
@[simp] theorem t112_bytes : t112.bytes = 4 := rfl
@[simp] theorem t112_z : t112.z = .lit (.int .u32 0) := rfl
@[simp] theorem t112_y : t112.y = .lit (.int .u32 0) := rfl
@[simp] theorem t112_kind : t112.kind = .int .u32 := rfl
@[simp] theorem t112_cmp : t112.cmp = false := rfl
/-- uint64 -/
def t114 : TI := ⟨1, 8, .int .u64 0, .lit (.int .u64 0), .lit (.int .u64 0), .int .u64, false⟩
@[simp] theorem t114_size : t114.size = 1 := rfl
@[simp] theorem t114_bytes : t114.bytes = 8 := rfl
@[simp] theorem t114_z : t114.z = .lit (.int .u64 0) := rfl
@[simp] theorem t114_y : t114.y = .lit (.int .u64 0) := rfl
@[simp] theorem t114_kind : t114.kind = .int .u64 := rfl
@[simp] theorem t114_cmp : t114.cmp = false := rfl
/-- slices.xorshift -/
def t117 : TI := ⟨1, 8, .int .u64 0, .lit (.int .u64 0), .lit (.int .u64 0), .int .u64, false⟩
@[simp] theorem t117_size : t117.size = 1 := rfl
@[simp] theorem t117_bytes : t117.bytes = 8 := rfl
@[simp] theorem t117_z : t117.z = .lit (.int .u64 0) := rfl
@[simp] theorem t117_y : t117.y = .lit (.int .u64 0) := rfl
@[simp] theorem t117_kind : t117.kind = .int .u64 := rfl
@[simp] theorem t117_cmp : t117.cmp = false := rfl
/-- *int -/
def t121 : TI := ⟨1, 8, .pointer none, .lit (.pointer none), .lit (.pointer none), .ptr 3, false⟩
@[simp] theorem t121_size : t121.size = 1 := rfl
@[simp] theorem t121_bytes : t121.bytes = 8 := rfl
@[simp] theorem t121_z : t121.z = .lit (.pointer none) := rfl
@[simp] theorem t121_y : t121.y = .lit (.pointer none) := rfl
@[simp] theorem t121_kind : t121.kind = .ptr 3 := rfl
@[simp] theorem t121_cmp : t121.cmp = false := rfl
/-- *slices.xorshift -/
def t124 : TI := ⟨1, 8, .pointer none, .lit (.pointer none), .lit (.pointer none), .ptr 117, false⟩
@[simp] theorem t124_size : t124.size = 1 := rfl
@[simp] theorem t124_bytes : t124.bytes = 8 := rfl
@[simp] theorem t124_z : t124.z = .lit (.pointer none) := rfl
@[simp] theorem t124_y : t124.y = .lit (.pointer none) := rfl
@[simp] theorem t124_kind : t124.kind = .ptr 117 := rfl
@[simp] theorem t124_cmp : t124.cmp = false := rfl
/-- func(unsafe.Pointer, unsafe.Pointer) bool -/
def t135 : TI := ⟨1, 8, .nilFunc, .lit .nilFunc, .lit .nilFunc, .func, false⟩
@[simp] theorem t135_size : t135.size = 1 := rfl
@[simp] theorem t135_bytes : t135.bytes = 8 := rfl
@[simp] theorem t135_z : t135.z = .lit .nilFunc := rfl
@[simp] theorem t135_y : t135.y = .lit .nilFunc := rfl
@[simp] theorem t135_kind : t135.kind = .func := rfl
@[simp] theorem t135_cmp : t135.cmp = false := rfl
/-- *uint8 -/
def t136 : TI := ⟨1, 8, .pointer none, .lit (.pointer none), .lit (.pointer none), .ptr 5, false⟩
@[simp] theorem t136_size : t136.size = 1 := rfl
@[simp] theorem t136_bytes : t136.bytes = 8 := rfl
@[simp] theorem t136_z : t136.z = .lit (.pointer none) := rfl
@[simp] theorem t136_y : t136.y = .lit (.pointer none) := rfl
@[simp] theorem t136_kind : t136.kind = .ptr 5 := rfl
@[simp] theorem t136_cmp : t136.cmp = false := rfl
/-- struct { Size_ uintptr; PtrBytes uintptr; Hash uint32; TFlag abi.TFlag; Align_ uint8; FieldAlign_ uint8; Kind_ abi.Kind; Equal func(unsafe.Pointer, unsafe.Pointer) bool; GCData *uint8; Str abi.NameOff; PtrToThis abi.TypeOff } -/
def t139 : TI := ⟨11, 48, .agg #[.int .u64 0, .int .u64 0, .int .u32 0, .int .u8 0, .int .u8 0, .int .u8 0, .int .u8 0, .nilFunc, .pointer none, .int .i32 0, .int .i32 0], .agg [.lit (.int .u64 0), .lit (.int .u64 0), .lit (.int .u32 0), .lit (.int .u8 0), .lit (.int .u8 0), .lit (.int .u8 0), .lit (.int .u8 0), .lit .nilFunc, .lit (.pointer none), .lit (.int .i32 0), .lit (.int .i32 0)], .any, .st [(0, 12), (1, 12), (2, 112), (3, 133), (4, 5), (5, 5), (6, 134), (7, 135), (8, 136), (9, 137), (10, 138)], false⟩
@[simp] theorem t139_size : t139.size = 11 := rfl
@[simp] theorem t139_bytes : t139.bytes = 48 := rfl
@[simp] theorem t139_z : t139.z = .agg [.lit (.int .u64 0), .lit (.int .u64 0), .lit (.int .u32 0), .lit (.int .u8 0), .lit (.int .u8 0), .lit (.int .u8 0), .lit (.int .u8 0), .lit .nilFunc, .lit (.pointer none), .lit (.int .i32 0), .lit (.int .i32 0)] := rfl
@[simp] theorem t139_y : t139.y = .any := rfl
@[simp] theorem t139_kind : t139.kind = .st [(0, 12), (1, 12), (2, 112), (3, 133), (4, 5), (5, 5), (6, 134), (7, 135), (8, 136), (9, 137), (10, 138)] := rfl
@[simp] theorem t139_cmp : t139.cmp = false := rfl
theorem t2_ok : t2.ok Try.prog 2 := ⟨by kernel_rfl, by kernel_rfl, by kernel_rfl, Try.underlying2, (fun h => by cases h), ⟨rfl, rfl, rfl, rfl, fun F h β => by simp [t2, Rep, Reps]⟩⟩
theorem t3_ok : t3.ok Try.prog 3 := ⟨by kernel_rfl, by kernel_rfl, by kernel_rfl, Try.underlying3, (fun h => by cases h), ⟨rfl, rfl, rfl, rfl, fun F h β => by simp [t3, Rep, Reps]⟩⟩
theorem t4_ok : t4.ok Try.prog 4 := ⟨by kernel_rfl, by kernel_rfl, by kernel_rfl, Try.underlying4, (fun h => by cases h), ⟨rfl, rfl, rfl, rfl, fun F h β => by simp [t4, Rep, Reps]⟩⟩
theorem t5_ok : t5.ok Try.prog 5 := ⟨by kernel_rfl, by kernel_rfl, by kernel_rfl, Try.underlying5, (fun h => by cases h), ⟨rfl, rfl, rfl, rfl, fun F h β => by simp [t5, Rep, Reps]⟩⟩
theorem t9_ok : t9.ok Try.prog 9 := ⟨by kernel_rfl, by kernel_rfl, by kernel_rfl, Try.underlying9, (fun h => by cases h), ⟨rfl, rfl, rfl, rfl, fun F h β => by simp [t9, Rep, Reps]⟩⟩
theorem t12_ok : t12.ok Try.prog 12 := ⟨by kernel_rfl, by kernel_rfl, by kernel_rfl, Try.underlying12, (fun h => by cases h), ⟨rfl, rfl, rfl, rfl, fun F h β => by simp [t12, Rep, Reps]⟩⟩
theorem t20_ok : t20.ok Try.prog 20 := ⟨by kernel_rfl, by kernel_rfl, by kernel_rfl, ⟨_, Try.underlying20⟩, (fun h => by cases h), ⟨rfl, rfl, rfl, rfl, fun F h β => by simp [t20, Rep, Reps]⟩⟩
theorem t21_ok : t21.ok Try.prog 21 := ⟨by kernel_rfl, by kernel_rfl, by kernel_rfl, Try.underlying21, (fun h => by cases h), ⟨rfl, rfl, rfl, rfl, fun F h β => by simp [t21, Rep, Reps]⟩⟩
theorem t22_ok : t22.ok Try.prog 22 := ⟨by kernel_rfl, by kernel_rfl, by kernel_rfl, Try.underlying22, (fun h => by cases h), ⟨rfl, rfl, rfl, rfl, fun F h β => by simp [t22, Rep, Reps]⟩⟩
theorem t25_ok : t25.ok Try.prog 25 := ⟨by kernel_rfl, by kernel_rfl, by kernel_rfl, Try.underlying25, (fun h => by cases h), ⟨rfl, rfl, rfl, rfl, fun F h β => by simp [t25, Rep, Reps]⟩⟩
theorem t29_ok : t29.ok Try.prog 29 := ⟨by kernel_rfl, by kernel_rfl, by kernel_rfl, ⟨_, Try.underlying29, rfl⟩, (fun _ => eqInts_of (by kernel_rfl) (by kernel_rfl) (by kernel_rfl)), ⟨rfl, rfl, rfl, rfl, fun F h β => by simp [t29, Rep, Reps]⟩⟩
theorem t30_ok : t30.ok Try.prog 30 := ⟨by kernel_rfl, by kernel_rfl, by kernel_rfl, ⟨_, Try.underlying30, rfl⟩, (fun _ => eqInts_of (by kernel_rfl) (by kernel_rfl) (by kernel_rfl)), ⟨rfl, rfl, rfl, rfl, fun F h β => by simp [t30, Rep, Reps]⟩⟩
theorem t33_ok : t33.ok Try.prog 33 := ⟨by kernel_rfl, by kernel_rfl, by kernel_rfl, ⟨_, Try.underlying33, rfl⟩, (fun _ => eqInts_of (by kernel_rfl) (by kernel_rfl) (by kernel_rfl)), ⟨rfl, rfl, rfl, rfl, fun F h β => by simp [t33, Rep, Reps]⟩⟩
theorem t36_ok : t36.ok Try.prog 36 := ⟨by kernel_rfl, by kernel_rfl, by kernel_rfl, Try.underlying36, (fun h => by cases h), ⟨rfl, rfl, rfl, rfl, fun F h β => by simp [t36, Rep, Reps]⟩⟩
theorem t38_ok : t38.ok Try.prog 38 := ⟨by kernel_rfl, by kernel_rfl, by kernel_rfl, Try.underlying38, (fun h => by cases h), ⟨rfl, rfl, rfl, rfl, fun F h β => by simp [t38, Rep, Reps]⟩⟩
theorem t41_ok : t41.ok Try.prog 41 := ⟨by kernel_rfl, by kernel_rfl, by kernel_rfl, Try.underlying41, (fun h => by cases h), ⟨rfl, rfl, rfl, rfl, fun F h β => by simp [t41, Rep, Reps]⟩⟩
theorem t50_ok : t50.ok Try.prog 50 := ⟨by kernel_rfl, by kernel_rfl, by kernel_rfl, ⟨_, Try.underlying50, rfl⟩, (fun _ => eqInts_of (by kernel_rfl) (by kernel_rfl) (by kernel_rfl)), ⟨rfl, rfl, rfl, rfl, fun F h β => by simp [t50, Rep, Reps]⟩⟩
theorem t51_ok : t51.ok Try.prog 51 := ⟨by kernel_rfl, by kernel_rfl, by kernel_rfl, ⟨_, Try.underlying51, rfl⟩, (fun _ => eqInts_of (by kernel_rfl) (by kernel_rfl) (by kernel_rfl)), ⟨rfl, rfl, rfl, rfl, fun F h β => by simp [t51, Rep, Reps]⟩⟩
theorem t53_ok : t53.ok Try.prog 53 := ⟨by kernel_rfl, by kernel_rfl, by kernel_rfl, ⟨_, Try.underlying53, rfl⟩, (fun _ => eqInts_of (by kernel_rfl) (by kernel_rfl) (by kernel_rfl)), ⟨rfl, rfl, rfl, rfl, fun F h β => by simp [t53, Rep, Reps]⟩⟩
theorem t66_ok : t66.ok Try.prog 66 := ⟨by kernel_rfl, by kernel_rfl, by kernel_rfl, Try.underlying66, (fun h => by cases h), ⟨rfl, rfl, rfl, rfl, fun F h β => by simp [t66, Rep, Reps]⟩⟩
theorem t67_ok : t67.ok Try.prog 67 := ⟨by kernel_rfl, by kernel_rfl, by kernel_rfl, Try.underlying67, (fun h => by cases h), ⟨rfl, rfl, rfl, rfl, fun F h β => by simp [t67, Rep, Reps]⟩⟩
theorem t68_ok : t68.ok Try.prog 68 := ⟨by kernel_rfl, by kernel_rfl, by kernel_rfl, Try.underlying68, (fun h => by cases h), ⟨rfl, rfl, rfl, rfl, fun F h β => by simp [t68, Rep, Reps]⟩⟩
theorem t71_ok : t71.ok Try.prog 71 := ⟨by kernel_rfl, by kernel_rfl, by kernel_rfl, ⟨_, Try.underlying71, rfl⟩, (fun _ => eqInts_of (by kernel_rfl) (by kernel_rfl) (by kernel_rfl)), ⟨rfl, rfl, rfl, rfl, fun F h β => by simp [t71, Rep, Reps]⟩⟩
theorem t72_ok : t72.ok Try.prog 72 := ⟨by kernel_rfl, by kernel_rfl, by kernel_rfl, ⟨_, Try.underlying72, rfl⟩, (fun _ => eqInts_of (by kernel_rfl) (by kernel_rfl) (by kernel_rfl)), ⟨rfl, rfl, rfl, rfl, fun F h β => by simp [t72, Rep, Reps]⟩⟩
theorem t77_ok : t77.ok Try.prog 77 := ⟨by kernel_rfl, by kernel_rfl, by kernel_rfl, ⟨_, _, _, Try.underlying77⟩, (fun h => by cases h), ⟨rfl, rfl, rfl, rfl, fun F h β => by simp [t77, Rep, Reps]⟩⟩
theorem t78_ok : t78.ok Try.prog 78 := ⟨by kernel_rfl, by kernel_rfl, by kernel_rfl, ⟨_, Try.underlying78, rfl⟩, (fun h => by cases h), ⟨rfl, rfl, rfl, rfl, fun F h β => by
    show Rep F h β t78.z t78.zero
    simp only [t78, Rep, Reps]
    exact ⟨_, rfl, _, _, rfl, (.inl ⟨by trivial, none, 0, by trivial, by intros; rfl⟩), _, _, rfl, (by trivial), rfl⟩⟩⟩
theorem t79_ok : t79.ok Try.prog 79 := ⟨by kernel_rfl, by kernel_rfl, by kernel_rfl, ⟨_, Try.underlying79, rfl⟩, (fun h => by cases h), ⟨rfl, rfl, rfl, rfl, fun F h β => by
    show Rep F h β t79.z t79.zero
    simp only [t79, Rep, Reps]
    exact ⟨_, rfl, _, _, rfl, (.inl ⟨by trivial, none, 0, by trivial, by intros; rfl⟩), _, _, rfl, (by trivial), rfl⟩⟩⟩
theorem t85_ok : t85.ok Try.prog 85 := ⟨by kernel_rfl, by kernel_rfl, by kernel_rfl, Try.underlying85, (fun h => by cases h), ⟨rfl, rfl, rfl, rfl, fun F h β => by simp [t85, Rep, Reps]⟩⟩
theorem t91_ok : t91.ok Try.prog 91 := ⟨by kernel_rfl, by kernel_rfl, by kernel_rfl, Try.underlying91, (fun h => by cases h), ⟨rfl, rfl, rfl, rfl, fun F h β => by simp [t91, Rep, Reps]⟩⟩
theorem t92_ok : t92.ok Try.prog 92 := ⟨by kernel_rfl, by kernel_rfl, by kernel_rfl, ⟨_, Try.underlying92⟩, (fun h => by cases h), ⟨rfl, rfl, rfl, rfl, fun F h β => by simp [t92, Rep, Reps]⟩⟩
theorem t93_ok : t93.ok Try.prog 93 := ⟨by kernel_rfl, by kernel_rfl, by kernel_rfl, ⟨_, Try.underlying93⟩, (fun h => by cases h), ⟨rfl, rfl, rfl, rfl, fun F h β => by simp [t93, Rep, Reps]⟩⟩
theorem t103_ok : t103.ok Try.prog 103 := ⟨by kernel_rfl, by kernel_rfl, by kernel_rfl, Try.underlying103, (fun h => by cases h), ⟨rfl, rfl, rfl, rfl, fun F h β => by simp [t103, Rep, Reps]⟩⟩
theorem t112_ok : t112.ok Try.prog 112 := ⟨by kernel_rfl, by kernel_rfl, by kernel_rfl, Try.underlying112, (fun h => by cases h), ⟨rfl, rfl, rfl, rfl, fun F h β => by simp [t112, Rep, Reps]⟩⟩
theorem t114_ok : t114.ok Try.prog 114 := ⟨by kernel_rfl, by kernel_rfl, by kernel_rfl, Try.underlying114, (fun h => by cases h), ⟨rfl, rfl, rfl, rfl, fun F h β => by simp [t114, Rep, Reps]⟩⟩
theorem t117_ok : t117.ok Try.prog 117 := ⟨by kernel_rfl, by kernel_rfl, by kernel_rfl, Try.underlying117, (fun h => by cases h), ⟨rfl, rfl, rfl, rfl, fun F h β => by simp [t117, Rep, Reps]⟩⟩
theorem t121_ok : t121.ok Try.prog 121 := ⟨by kernel_rfl, by kernel_rfl, by kernel_rfl, Try.underlying121, (fun h => by cases h), ⟨rfl, rfl, rfl, rfl, fun F h β => by simp [t121, Rep, Reps]⟩⟩
theorem t124_ok : t124.ok Try.prog 124 := ⟨by kernel_rfl, by kernel_rfl, by kernel_rfl, Try.underlying124, (fun h => by cases h), ⟨rfl, rfl, rfl, rfl, fun F h β => by simp [t124, Rep, Reps]⟩⟩
theorem t135_ok : t135.ok Try.prog 135 := ⟨by kernel_rfl, by kernel_rfl, by kernel_rfl, ⟨_, _, _, Try.underlying135⟩, (fun h => by cases h), ⟨rfl, rfl, rfl, rfl, fun F h β => by simp [t135, Rep, Reps]⟩⟩
theorem t136_ok : t136.ok Try.prog 136 := ⟨by kernel_rfl, by kernel_rfl, by kernel_rfl, Try.underlying136, (fun h => by cases h), ⟨rfl, rfl, rfl, rfl, fun F h β => by simp [t136, Rep, Reps]⟩⟩
theorem t139_ok : t139.ok Try.prog 139 := ⟨by kernel_rfl, by kernel_rfl, by kernel_rfl, ⟨_, Try.underlying139, rfl⟩, (fun h => by cases h), ⟨rfl, rfl, rfl, rfl, fun F h β => by simp [t139, Rep, Reps]⟩⟩
def G : Ctx := [(2, t2), (3, t3), (4, t4), (5, t5), (9, t9), (12, t12), (20, t20), (21, t21), (22, t22), (25, t25), (29, t29), (30, t30), (33, t33), (36, t36), (38, t38), (41, t41), (50, t50), (51, t51), (53, t53), (66, t66), (67, t67), (68, t68), (71, t71), (72, t72), (77, t77), (78, t78), (79, t79), (85, t85), (91, t91), (92, t92), (93, t93), (103, t103), (112, t112), (114, t114), (117, t117), (121, t121), (124, t124), (135, t135), (136, t136), (139, t139)]
@[simp] theorem G_2 : G.get 2 = some t2 := rfl
@[simp] theorem G_3 : G.get 3 = some t3 := rfl
@[simp] theorem G_4 : G.get 4 = some t4 := rfl
@[simp] theorem G_5 : G.get 5 = some t5 := rfl
@[simp] theorem G_9 : G.get 9 = some t9 := rfl
@[simp] theorem G_12 : G.get 12 = some t12 := rfl
@[simp] theorem G_20 : G.get 20 = some t20 := rfl
@[simp] theorem G_21 : G.get 21 = some t21 := rfl
@[simp] theorem G_22 : G.get 22 = some t22 := rfl
@[simp] theorem G_25 : G.get 25 = some t25 := rfl
@[simp] theorem G_29 : G.get 29 = some t29 := rfl
@[simp] theorem G_30 : G.get 30 = some t30 := rfl
@[simp] theorem G_33 : G.get 33 = some t33 := rfl
@[simp] theorem G_36 : G.get 36 = some t36 := rfl
@[simp] theorem G_38 : G.get 38 = some t38 := rfl
@[simp] theorem G_41 : G.get 41 = some t41 := rfl
@[simp] theorem G_50 : G.get 50 = some t50 := rfl
@[simp] theorem G_51 : G.get 51 = some t51 := rfl
@[simp] theorem G_53 : G.get 53 = some t53 := rfl
@[simp] theorem G_66 : G.get 66 = some t66 := rfl
@[simp] theorem G_67 : G.get 67 = some t67 := rfl
@[simp] theorem G_68 : G.get 68 = some t68 := rfl
@[simp] theorem G_71 : G.get 71 = some t71 := rfl
@[simp] theorem G_72 : G.get 72 = some t72 := rfl
@[simp] theorem G_77 : G.get 77 = some t77 := rfl
@[simp] theorem G_78 : G.get 78 = some t78 := rfl
@[simp] theorem G_79 : G.get 79 = some t79 := rfl
@[simp] theorem G_85 : G.get 85 = some t85 := rfl
@[simp] theorem G_91 : G.get 91 = some t91 := rfl
@[simp] theorem G_92 : G.get 92 = some t92 := rfl
@[simp] theorem G_93 : G.get 93 = some t93 := rfl
@[simp] theorem G_103 : G.get 103 = some t103 := rfl
@[simp] theorem G_112 : G.get 112 = some t112 := rfl
@[simp] theorem G_114 : G.get 114 = some t114 := rfl
@[simp] theorem G_117 : G.get 117 = some t117 := rfl
@[simp] theorem G_121 : G.get 121 = some t121 := rfl
@[simp] theorem G_124 : G.get 124 = some t124 := rfl
@[simp] theorem G_135 : G.get 135 = some t135 := rfl
@[simp] theorem G_136 : G.get 136 = some t136 := rfl
@[simp] theorem G_139 : G.get 139 = some t139 := rfl
theorem G_ok : G.ok Try.prog := by
  intro p hp
  simp only [G, List.mem_cons, List.not_mem_nil, or_false] at hp
  rcases hp with rfl | rfl | rfl | rfl | rfl | rfl | rfl | rfl | rfl | rfl | rfl | rfl | rfl | rfl | rfl | rfl | rfl | rfl | rfl | rfl | rfl | rfl | rfl | rfl | rfl | rfl | rfl | rfl | rfl | rfl | rfl | rfl | rfl | rfl | rfl | rfl | rfl | rfl | rfl | rfl
  · exact t2_ok
  · exact t3_ok
  · exact t4_ok
  · exact t5_ok
  · exact t9_ok
  · exact t12_ok
  · exact t20_ok
  · exact t21_ok
  · exact t22_ok
  · exact t25_ok
  · exact t29_ok
  · exact t30_ok
  · exact t33_ok
  · exact t36_ok
  · exact t38_ok
  · exact t41_ok
  · exact t50_ok
  · exact t51_ok
  · exact t53_ok
  · exact t66_ok
  · exact t67_ok
  · exact t68_ok
  · exact t71_ok
  · exact t72_ok
  · exact t77_ok
  · exact t78_ok
  · exact t79_ok
  · exact t85_ok
  · exact t91_ok
  · exact t92_ok
  · exact t93_ok
  · exact t103_ok
  · exact t112_ok
  · exact t114_ok
  · exact t117_ok
  · exact t121_ok
  · exact t124_ok
  · exact t135_ok
  · exact t136_ok
  · exact t139_ok
theorem mix : Try.prog.follows .mixedOrders = true := by kernel_rfl
end Go.Proofs.Ytdemoobiiijmoaa
