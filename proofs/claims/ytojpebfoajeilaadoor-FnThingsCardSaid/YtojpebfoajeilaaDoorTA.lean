/- What is known of the types of this program: their sizes, zero values and parts. -/
import Derived.Test.YtojpebfoajeilaaDoorProg
import Derived.Test.YtojpebfoajeilaaDoorTY
import Derived.KernelRfl
namespace Go.Proofs.YtojpebfoajeilaaDoor
open Go Go.Eng
set_option linter.unusedSimpArgs false
set_option linter.unusedVariables false
set_option maxRecDepth 20000
/-- int64 -/
def t2 : TI := ⟨1, 8, .int .i64 0, .lit (.int .i64 0), .lit (.int .i64 0), .int .i64, false⟩
@[simp] theorem t2_size : t2.size = 1 := rfl
@[simp] theorem t2_bytes : t2.bytes = 8 := rfl
@[simp] theorem t2_z : t2.z = .lit (.int .i64 0) := rfl
@[simp] theorem t2_y : t2.y = .lit (.int .i64 0) := rfl
@[simp] theorem t2_kind : t2.kind = .int .i64 := rfl
@[simp] theorem t2_cmp : t2.cmp = false := rfl
/-- int -/
def t3 : TI := ⟨1, 8, .int .i64 0, .lit (.int .i64 0), .lit (.int .i64 0), .int .i64, false⟩
@[simp] theorem t3_size : t3.size = 1 := rfl
@[simp] theorem t3_bytes : t3.bytes = 8 := rfl
@[simp] theorem t3_z : t3.z = .lit (.int .i64 0) := rfl
@[simp] theorem t3_y : t3.y = .lit (.int .i64 0) := rfl
@[simp] theorem t3_kind : t3.kind = .int .i64 := rfl
@[simp] theorem t3_cmp : t3.cmp = false := rfl
/-- bool -/
def t4 : TI := ⟨1, 1, .bool false, .lit (.bool false), .lit (.bool false), .bool, false⟩
@[simp] theorem t4_size : t4.size = 1 := rfl
@[simp] theorem t4_bytes : t4.bytes = 1 := rfl
@[simp] theorem t4_z : t4.z = .lit (.bool false) := rfl
@[simp] theorem t4_y : t4.y = .lit (.bool false) := rfl
@[simp] theorem t4_kind : t4.kind = .bool := rfl
@[simp] theorem t4_cmp : t4.cmp = false := rfl
/-- uint8 -/
def t5 : TI := ⟨1, 1, .int .u8 0, .lit (.int .u8 0), .lit (.int .u8 0), .int .u8, false⟩
@[simp] theorem t5_size : t5.size = 1 := rfl
@[simp] theorem t5_bytes : t5.bytes = 1 := rfl
@[simp] theorem t5_z : t5.z = .lit (.int .u8 0) := rfl
@[simp] theorem t5_y : t5.y = .lit (.int .u8 0) := rfl
@[simp] theorem t5_kind : t5.kind = .int .u8 := rfl
@[simp] theorem t5_cmp : t5.cmp = false := rfl
/-- string -/
def t9 : TI := ⟨1, 16, .string ⟨#[]⟩, .lit (.string ⟨#[]⟩), .lit (.string ⟨#[]⟩), .str, false⟩
@[simp] theorem t9_size : t9.size = 1 := rfl
@[simp] theorem t9_bytes : t9.bytes = 16 := rfl
@[simp] theorem t9_z : t9.z = .lit (.string ⟨#[]⟩) := rfl
@[simp] theorem t9_y : t9.y = .lit (.string ⟨#[]⟩) := rfl
@[simp] theorem t9_kind : t9.kind = .str := rfl
@[simp] theorem t9_cmp : t9.cmp = false := rfl
/-- uintptr -/
def t12 : TI := ⟨1, 8, .int .u64 0, .lit (.int .u64 0), .lit (.int .u64 0), .int .u64, false⟩
@[simp] theorem t12_size : t12.size = 1 := rfl
@[simp] theorem t12_bytes : t12.bytes = 8 := rfl
@[simp] theorem t12_z : t12.z = .lit (.int .u64 0) := rfl
@[simp] theorem t12_y : t12.y = .lit (.int .u64 0) := rfl
@[simp] theorem t12_kind : t12.kind = .int .u64 := rfl
@[simp] theorem t12_cmp : t12.cmp = false := rfl
/-- interface {} -/
def t20 : TI := ⟨1, 16, .nilIface, .lit .nilIface, .lit .nilIface, .iface, false⟩
@[simp] theorem t20_size : t20.size = 1 := rfl
@[simp] theorem t20_bytes : t20.bytes = 16 := rfl
@[simp] theorem t20_z : t20.z = .lit .nilIface := rfl
@[simp] theorem t20_y : t20.y = .lit .nilIface := rfl
@[simp] theorem t20_kind : t20.kind = .iface := rfl
@[simp] theorem t20_cmp : t20.cmp = false := rfl
/-- int32 -/
def t21 : TI := ⟨1, 4, .int .i32 0, .lit (.int .i32 0), .lit (.int .i32 0), .int .i32, false⟩
@[simp] theorem t21_size : t21.size = 1 := rfl
@[simp] theorem t21_bytes : t21.bytes = 4 := rfl
@[simp] theorem t21_z : t21.z = .lit (.int .i32 0) := rfl
@[simp] theorem t21_y : t21.y = .lit (.int .i32 0) := rfl
@[simp] theorem t21_kind : t21.kind = .int .i32 := rfl
@[simp] theorem t21_cmp : t21.cmp = false := rfl
/-- []uint8 -/
def t22 : TI := ⟨1, 24, .slice none 0 0, .sl true 0 .any [], yLU, .slice 5, false⟩
@[simp] theorem t22_size : t22.size = 1 := rfl
@[simp] theorem t22_bytes : t22.bytes = 24 := rfl
@[simp] theorem t22_z : t22.z = .sl true 0 .any [] := rfl
@[simp] theorem t22_y : t22.y = yLU := rfl
@[simp] theorem t22_kind : t22.kind = .slice 5 := rfl
@[simp] theorem t22_cmp : t22.cmp = false := rfl
/-- struct { Id int; Kind int; Colour int; Size int; Worth int } -/
def t24 : TI := ⟨5, 40, .agg #[.int .i64 0, .int .i64 0, .int .i64 0, .int .i64 0, .int .i64 0], .agg [.lit (.int .i64 0), .lit (.int .i64 0), .lit (.int .i64 0), .lit (.int .i64 0), .lit (.int .i64 0)], yTThing, .st [(0, 3), (1, 3), (2, 3), (3, 3), (4, 3)], true⟩
@[simp] theorem t24_size : t24.size = 5 := rfl
@[simp] theorem t24_bytes : t24.bytes = 40 := rfl
@[simp] theorem t24_z : t24.z = .agg [.lit (.int .i64 0), .lit (.int .i64 0), .lit (.int .i64 0), .lit (.int .i64 0), .lit (.int .i64 0)] := rfl
@[simp] theorem t24_y : t24.y = yTThing := rfl
@[simp] theorem t24_kind : t24.kind = .st [(0, 3), (1, 3), (2, 3), (3, 3), (4, 3)] := rfl
@[simp] theorem t24_cmp : t24.cmp = true := rfl
/-- impl.Thing = loop.example/g03007/impl.Thing -/
def t25 : TI := ⟨5, 40, .agg #[.int .i64 0, .int .i64 0, .int .i64 0, .int .i64 0, .int .i64 0], .agg [.lit (.int .i64 0), .lit (.int .i64 0), .lit (.int .i64 0), .lit (.int .i64 0), .lit (.int .i64 0)], yTThing, .st [(0, 3), (1, 3), (2, 3), (3, 3), (4, 3)], true⟩
@[simp] theorem t25_size : t25.size = 5 := rfl
@[simp] theorem t25_bytes : t25.bytes = 40 := rfl
@[simp] theorem t25_z : t25.z = .agg [.lit (.int .i64 0), .lit (.int .i64 0), .lit (.int .i64 0), .lit (.int .i64 0), .lit (.int .i64 0)] := rfl
@[simp] theorem t25_y : t25.y = yTThing := rfl
@[simp] theorem t25_kind : t25.kind = .st [(0, 3), (1, 3), (2, 3), (3, 3), (4, 3)] := rfl
@[simp] theorem t25_cmp : t25.cmp = true := rfl
/-- []impl.Thing -/
def t32 : TI := ⟨1, 24, .slice none 0 0, .sl true 0 .any [], yLTThing, .slice 25, false⟩
@[simp] theorem t32_size : t32.size = 1 := rfl
@[simp] theorem t32_bytes : t32.bytes = 24 := rfl
@[simp] theorem t32_z : t32.z = .sl true 0 .any [] := rfl
@[simp] theorem t32_y : t32.y = yLTThing := rfl
@[simp] theorem t32_kind : t32.kind = .slice 25 := rfl
@[simp] theorem t32_cmp : t32.cmp = false := rfl
/-- *spec.l1Cur -/
def t36 : TI := ⟨1, 8, .pointer none, .lit (.pointer none), .lit (.pointer none), .ptr 44, false⟩
@[simp] theorem t36_size : t36.size = 1 := rfl
@[simp] theorem t36_bytes : t36.bytes = 8 := rfl
@[simp] theorem t36_z : t36.z = .lit (.pointer none) := rfl
@[simp] theorem t36_y : t36.y = .lit (.pointer none) := rfl
@[simp] theorem t36_kind : t36.kind = .ptr 44 := rfl
@[simp] theorem t36_cmp : t36.cmp = false := rfl
/-- struct { b []uint8; i int; h int } -/
def t43 : TI := ⟨3, 40, .agg #[.slice none 0 0, .int .i64 0, .int .i64 0], .agg [.sl true 0 .any [], .lit (.int .i64 0), .lit (.int .i64 0)], yTL1Cur, .st [(0, 22), (1, 3), (2, 3)], false⟩
@[simp] theorem t43_size : t43.size = 3 := rfl
@[simp] theorem t43_bytes : t43.bytes = 40 := rfl
@[simp] theorem t43_z : t43.z = .agg [.sl true 0 .any [], .lit (.int .i64 0), .lit (.int .i64 0)] := rfl
@[simp] theorem t43_y : t43.y = yTL1Cur := rfl
@[simp] theorem t43_kind : t43.kind = .st [(0, 22), (1, 3), (2, 3)] := rfl
@[simp] theorem t43_cmp : t43.cmp = false := rfl
/-- spec.l1Cur = loop.example/g03007/spec.l1Cur -/
def t44 : TI := ⟨3, 40, .agg #[.slice none 0 0, .int .i64 0, .int .i64 0], .agg [.sl true 0 .any [], .lit (.int .i64 0), .lit (.int .i64 0)], yTL1Cur, .st [(0, 22), (1, 3), (2, 3)], false⟩
@[simp] theorem t44_size : t44.size = 3 := rfl
@[simp] theorem t44_bytes : t44.bytes = 40 := rfl
@[simp] theorem t44_z : t44.z = .agg [.sl true 0 .any [], .lit (.int .i64 0), .lit (.int .i64 0)] := rfl
@[simp] theorem t44_y : t44.y = yTL1Cur := rfl
@[simp] theorem t44_kind : t44.kind = .st [(0, 22), (1, 3), (2, 3)] := rfl
@[simp] theorem t44_cmp : t44.cmp = false := rfl
/-- []int -/
def t48 : TI := ⟨1, 24, .slice none 0 0, .sl true 0 .any [], yLI, .slice 3, false⟩
@[simp] theorem t48_size : t48.size = 1 := rfl
@[simp] theorem t48_bytes : t48.bytes = 24 := rfl
@[simp] theorem t48_z : t48.z = .sl true 0 .any [] := rfl
@[simp] theorem t48_y : t48.y = yLI := rfl
@[simp] theorem t48_kind : t48.kind = .slice 3 := rfl
@[simp] theorem t48_cmp : t48.cmp = false := rfl
/-- []string -/
def t52 : TI := ⟨1, 24, .slice none 0 0, .sl true 0 .any [], yLS, .slice 9, false⟩
@[simp] theorem t52_size : t52.size = 1 := rfl
@[simp] theorem t52_bytes : t52.bytes = 24 := rfl
@[simp] theorem t52_z : t52.z = .sl true 0 .any [] := rfl
@[simp] theorem t52_y : t52.y = yLS := rfl
@[simp] theorem t52_kind : t52.kind = .slice 9 := rfl
@[simp] theorem t52_cmp : t52.cmp = false := rfl
/-- *strings.Builder -/
def t56 : TI := ⟨1, 8, .pointer none, .lit (.pointer none), .lit (.pointer none), .ptr 58, false⟩
@[simp] theorem t56_size : t56.size = 1 := rfl
@[simp] theorem t56_bytes : t56.bytes = 8 := rfl
@[simp] theorem t56_z : t56.z = .lit (.pointer none) := rfl
@[simp] theorem t56_y : t56.y = .lit (.pointer none) := rfl
@[simp] theorem t56_kind : t56.kind = .ptr 58 := rfl
@[simp] theorem t56_cmp : t56.cmp = false := rfl
/-- struct { addr *strings.Builder; buf []uint8 } -/
def t57 : TI := ⟨2, 32, .agg #[.pointer none, .slice none 0 0], .agg [.lit (.pointer none), .sl true 0 .any []], .any, .st [(0, 56), (1, 22)], false⟩
@[simp] theorem t57_size : t57.size = 2 := rfl
@[simp] theorem t57_bytes : t57.bytes = 32 := rfl
@[simp] theorem t57_z : t57.z = .agg [.lit (.pointer none), .sl true 0 .any []] := rfl
@[simp] theorem t57_y : t57.y = .any := rfl
@[simp] theorem t57_kind : t57.kind = .st [(0, 56), (1, 22)] := rfl
@[simp] theorem t57_cmp : t57.cmp = false := rfl
/-- strings.Builder -/
def t58 : TI := ⟨2, 32, .agg #[.pointer none, .slice none 0 0], .agg [.lit (.pointer none), .sl true 0 .any []], .any, .st [(0, 56), (1, 22)], false⟩
@[simp] theorem t58_size : t58.size = 2 := rfl
@[simp] theorem t58_bytes : t58.bytes = 32 := rfl
@[simp] theorem t58_z : t58.z = .agg [.lit (.pointer none), .sl true 0 .any []] := rfl
@[simp] theorem t58_y : t58.y = .any := rfl
@[simp] theorem t58_kind : t58.kind = .st [(0, 56), (1, 22)] := rfl
@[simp] theorem t58_cmp : t58.cmp = false := rfl
/-- interface { Error() string } -/
def t60 : TI := ⟨1, 16, .nilIface, .lit .nilIface, .lit .nilIface, .iface, false⟩
@[simp] theorem t60_size : t60.size = 1 := rfl
@[simp] theorem t60_bytes : t60.bytes = 16 := rfl
@[simp] theorem t60_z : t60.z = .lit .nilIface := rfl
@[simp] theorem t60_y : t60.y = .lit .nilIface := rfl
@[simp] theorem t60_kind : t60.kind = .iface := rfl
@[simp] theorem t60_cmp : t60.cmp = false := rfl
/-- error -/
def t61 : TI := ⟨1, 16, .nilIface, .lit .nilIface, .lit .nilIface, .iface, false⟩
@[simp] theorem t61_size : t61.size = 1 := rfl
@[simp] theorem t61_bytes : t61.bytes = 16 := rfl
@[simp] theorem t61_z : t61.z = .lit .nilIface := rfl
@[simp] theorem t61_y : t61.y = .lit .nilIface := rfl
@[simp] theorem t61_kind : t61.kind = .iface := rfl
@[simp] theorem t61_cmp : t61.cmp = false := rfl
/-- uint -/
def t64 : TI := ⟨1, 8, .int .u64 0, .lit (.int .u64 0), .lit (.int .u64 0), .int .u64, false⟩
@[simp] theorem t64_size : t64.size = 1 := rfl
@[simp] theorem t64_bytes : t64.bytes = 8 := rfl
@[simp] theorem t64_z : t64.z = .lit (.int .u64 0) := rfl
@[simp] theorem t64_y : t64.y = .lit (.int .u64 0) := rfl
@[simp] theorem t64_kind : t64.kind = .int .u64 := rfl
@[simp] theorem t64_cmp : t64.cmp = false := rfl
/-- func(func(int, int) bool, int, ...int) int -/
def t65 : TI := ⟨1, 8, .nilFunc, .lit .nilFunc, .lit .nilFunc, .func, false⟩
@[simp] theorem t65_size : t65.size = 1 := rfl
@[simp] theorem t65_bytes : t65.bytes = 8 := rfl
@[simp] theorem t65_z : t65.z = .lit .nilFunc := rfl
@[simp] theorem t65_y : t65.y = .lit .nilFunc := rfl
@[simp] theorem t65_kind : t65.kind = .func := rfl
@[simp] theorem t65_cmp : t65.cmp = false := rfl
/-- *uint8 -/
def t67 : TI := ⟨1, 8, .pointer none, .lit (.pointer none), .lit (.pointer none), .ptr 5, false⟩
@[simp] theorem t67_size : t67.size = 1 := rfl
@[simp] theorem t67_bytes : t67.bytes = 8 := rfl
@[simp] theorem t67_z : t67.z = .lit (.pointer none) := rfl
@[simp] theorem t67_y : t67.y = .lit (.pointer none) := rfl
@[simp] theorem t67_kind : t67.kind = .ptr 5 := rfl
@[simp] theorem t67_cmp : t67.cmp = false := rfl
/-- [24]uint8 -/
def t73 : TI := ⟨24, 24, .agg #[.int .u8 0, .int .u8 0, .int .u8 0, .int .u8 0, .int .u8 0, .int .u8 0, .int .u8 0, .int .u8 0, .int .u8 0, .int .u8 0, .int .u8 0, .int .u8 0, .int .u8 0, .int .u8 0, .int .u8 0, .int .u8 0, .int .u8 0, .int .u8 0, .int .u8 0, .int .u8 0, .int .u8 0, .int .u8 0, .int .u8 0, .int .u8 0], .agg [.lit (.int .u8 0), .lit (.int .u8 0), .lit (.int .u8 0), .lit (.int .u8 0), .lit (.int .u8 0), .lit (.int .u8 0), .lit (.int .u8 0), .lit (.int .u8 0), .lit (.int .u8 0), .lit (.int .u8 0), .lit (.int .u8 0), .lit (.int .u8 0), .lit (.int .u8 0), .lit (.int .u8 0), .lit (.int .u8 0), .lit (.int .u8 0), .lit (.int .u8 0), .lit (.int .u8 0), .lit (.int .u8 0), .lit (.int .u8 0), .lit (.int .u8 0), .lit (.int .u8 0), .lit (.int .u8 0), .lit (.int .u8 0)], .any, .arr 24 5, false⟩
@[simp] theorem t73_size : t73.size = 24 := rfl
@[simp] theorem t73_bytes : t73.bytes = 24 := rfl
@[simp] theorem t73_z : t73.z = .agg [.lit (.int .u8 0), .lit (.int .u8 0), .lit (.int .u8 0), .lit (.int .u8 0), .lit (.int .u8 0), .lit (.int .u8 0), .lit (.int .u8 0), .lit (.int .u8 0), .lit (.int .u8 0), .lit (.int .u8 0), .lit (.int .u8 0), .lit (.int .u8 0), .lit (.int .u8 0), .lit (.int .u8 0), .lit (.int .u8 0), .lit (.int .u8 0), .lit (.int .u8 0), .lit (.int .u8 0), .lit (.int .u8 0), .lit (.int .u8 0), .lit (.int .u8 0), .lit (.int .u8 0), .lit (.int .u8 0), .lit (.int .u8 0)] := rfl
@[simp] theorem t73_y : t73.y = .any := rfl
@[simp] theorem t73_kind : t73.kind = .arr 24 5 := rfl
@[simp] theorem t73_cmp : t73.cmp = false := rfl
/-- uint64 -/
def t74 : TI := ⟨1, 8, .int .u64 0, .lit (.int .u64 0), .lit (.int .u64 0), .int .u64, false⟩
@[simp] theorem t74_size : t74.size = 1 := rfl
@[simp] theorem t74_bytes : t74.bytes = 8 := rfl
@[simp] theorem t74_z : t74.z = .lit (.int .u64 0) := rfl
@[simp] theorem t74_y : t74.y = .lit (.int .u64 0) := rfl
@[simp] theorem t74_kind : t74.kind = .int .u64 := rfl
@[simp] theorem t74_cmp : t74.cmp = false := rfl
/-- [20]uint64 -/
def t81 : TI := ⟨20, 160, .agg #[.int .u64 0, .int .u64 0, .int .u64 0, .int .u64 0, .int .u64 0, .int .u64 0, .int .u64 0, .int .u64 0, .int .u64 0, .int .u64 0, .int .u64 0, .int .u64 0, .int .u64 0, .int .u64 0, .int .u64 0, .int .u64 0, .int .u64 0, .int .u64 0, .int .u64 0, .int .u64 0], .agg [.lit (.int .u64 0), .lit (.int .u64 0), .lit (.int .u64 0), .lit (.int .u64 0), .lit (.int .u64 0), .lit (.int .u64 0), .lit (.int .u64 0), .lit (.int .u64 0), .lit (.int .u64 0), .lit (.int .u64 0), .lit (.int .u64 0), .lit (.int .u64 0), .lit (.int .u64 0), .lit (.int .u64 0), .lit (.int .u64 0), .lit (.int .u64 0), .lit (.int .u64 0), .lit (.int .u64 0), .lit (.int .u64 0), .lit (.int .u64 0)], .any, .arr 20 74, false⟩
@[simp] theorem t81_size : t81.size = 20 := rfl
@[simp] theorem t81_bytes : t81.bytes = 160 := rfl
@[simp] theorem t81_z : t81.z = .agg [.lit (.int .u64 0), .lit (.int .u64 0), .lit (.int .u64 0), .lit (.int .u64 0), .lit (.int .u64 0), .lit (.int .u64 0), .lit (.int .u64 0), .lit (.int .u64 0), .lit (.int .u64 0), .lit (.int .u64 0), .lit (.int .u64 0), .lit (.int .u64 0), .lit (.int .u64 0), .lit (.int .u64 0), .lit (.int .u64 0), .lit (.int .u64 0), .lit (.int .u64 0), .lit (.int .u64 0), .lit (.int .u64 0), .lit (.int .u64 0)] := rfl
@[simp] theorem t81_y : t81.y = .any := rfl
@[simp] theorem t81_kind : t81.kind = .arr 20 74 := rfl
@[simp] theorem t81_cmp : t81.cmp = false := rfl
/-- uint32 -/
def t82 : TI := ⟨1, 4, .int .u32 0, .lit (.int .u32 0), .lit (.int .u32 0), .int .u32, false⟩
@[simp] theorem t82_size : t82.size = 1 := rfl
@[simp] theorem t82_bytes : t82.bytes = 4 := rfl
@[simp] theorem t82_z : t82.z = .lit (.int .u32 0) := rfl
@[simp] theorem t82_y : t82.y = .lit (.int .u32 0) := rfl
@[simp] theorem t82_kind : t82.kind = .int .u32 := rfl
@[simp] theorem t82_cmp : t82.cmp = false := rfl
/-- [65]uint8 -/
def t83 : TI := ⟨65, 65, .agg #[.int .u8 0, .int .u8 0, .int .u8 0, .int .u8 0, .int .u8 0, .int .u8 0, .int .u8 0, .int .u8 0, .int .u8 0, .int .u8 0, .int .u8 0, .int .u8 0, .int .u8 0, .int .u8 0, .int .u8 0, .int .u8 0, .int .u8 0, .int .u8 0, .int .u8 0, .int .u8 0, .int .u8 0, .int .u8 0, .int .u8 0, .int .u8 0, .int .u8 0, .int .u8 0, .int .u8 0, .int .u8 0, .int .u8 0, .int .u8 0, .int .u8 0, .int .u8 0, .int .u8 0, .int .u8 0, .int .u8 0, .int .u8 0, .int .u8 0, .int .u8 0, .int .u8 0, .int .u8 0, .int .u8 0, .int .u8 0, .int .u8 0, .int .u8 0, .int .u8 0, .int .u8 0, .int .u8 0, .int .u8 0, .int .u8 0, .int .u8 0, .int .u8 0, .int .u8 0, .int .u8 0, .int .u8 0, .int .u8 0, .int .u8 0, .int .u8 0, .int .u8 0, .int .u8 0, .int .u8 0, .int .u8 0, .int .u8 0, .int .u8 0, .int .u8 0, .int .u8 0], .agg [.lit (.int .u8 0), .lit (.int .u8 0), .lit (.int .u8 0), .lit (.int .u8 0), .lit (.int .u8 0), .lit (.int .u8 0), .lit (.int .u8 0), .lit (.int .u8 0), .lit (.int .u8 0), .lit (.int .u8 0), .lit (.int .u8 0), .lit (.int .u8 0), .lit (.int .u8 0), .lit (.int .u8 0), .lit (.int .u8 0), .lit (.int .u8 0), .lit (.int .u8 0), .lit (.int .u8 0), .lit (.int .u8 0), .lit (.int .u8 0), .lit (.int .u8 0), .lit (.int .u8 0), .lit (.int .u8 0), .lit (.int .u8 0), .lit (.int .u8 0), .lit (.int .u8 0), .lit (.int .u8 0), .lit (.int .u8 0), .lit (.int .u8 0), .lit (.int .u8 0), .lit (.int .u8 0), .lit (.int .u8 0), .lit (.int .u8 0), .lit (.int .u8 0), .lit (.int .u8 0), .lit (.int .u8 0), .lit (.int .u8 0), .lit (.int .u8 0), .lit (.int .u8 0), .lit (.int .u8 0), .lit (.int .u8 0), .lit (.int .u8 0), .lit (.int .u8 0), .lit (.int .u8 0), .lit (.int .u8 0), .lit (.int .u8 0), .lit (.int .u8 0), .lit (.int .u8 0), .lit (.int .u8 0), .lit (.int .u8 0), .lit (.int .u8 0), .lit (.int .u8 0), .lit (.int .u8 0), .lit (.int .u8 0), .lit (.int .u8 0), .lit (.int .u8 0), .lit (.int .u8 0), .lit (.int .u8 0), .lit (.int .u8 0), .lit (.int .u8 0), .lit (.int .u8 0), .lit (.int .u8 0), .lit (.int .u8 0), .lit (.int .u8 0), .lit (.int .u8 0)], .any, .arr 65 5, false⟩
@[simp] theorem t83_size : t83.size = 65 := rfl
@[simp] theorem t83_bytes : t83.bytes = 65 := rfl
@[simp] theorem t83_z : t83.z = .agg [.lit (.int .u8 0), .lit (.int .u8 0), .lit (.int .u8 0), .lit (.int .u8 0), .lit (.int .u8 0), .lit (.int .u8 0), .lit (.int .u8 0), .lit (.int .u8 0), .lit (.int .u8 0), .lit (.int .u8 0), .lit (.int .u8 0), .lit (.int .u8 0), .lit (.int .u8 0), .lit (.int .u8 0), .lit (.int .u8 0), .lit (.int .u8 0), .lit (.int .u8 0), .lit (.int .u8 0), .lit (.int .u8 0), .lit (.int .u8 0), .lit (.int .u8 0), .lit (.int .u8 0), .lit (.int .u8 0), .lit (.int .u8 0), .lit (.int .u8 0), .lit (.int .u8 0), .lit (.int .u8 0), .lit (.int .u8 0), .lit (.int .u8 0), .lit (.int .u8 0), .lit (.int .u8 0), .lit (.int .u8 0), .lit (.int .u8 0), .lit (.int .u8 0), .lit (.int .u8 0), .lit (.int .u8 0), .lit (.int .u8 0), .lit (.int .u8 0), .lit (.int .u8 0), .lit (.int .u8 0), .lit (.int .u8 0), .lit (.int .u8 0), .lit (.int .u8 0), .lit (.int .u8 0), .lit (.int .u8 0), .lit (.int .u8 0), .lit (.int .u8 0), .lit (.int .u8 0), .lit (.int .u8 0), .lit (.int .u8 0), .lit (.int .u8 0), .lit (.int .u8 0), .lit (.int .u8 0), .lit (.int .u8 0), .lit (.int .u8 0), .lit (.int .u8 0), .lit (.int .u8 0), .lit (.int .u8 0), .lit (.int .u8 0), .lit (.int .u8 0), .lit (.int .u8 0), .lit (.int .u8 0), .lit (.int .u8 0), .lit (.int .u8 0), .lit (.int .u8 0)] := rfl
@[simp] theorem t83_y : t83.y = .any := rfl
@[simp] theorem t83_kind : t83.kind = .arr 65 5 := rfl
@[simp] theorem t83_cmp : t83.cmp = false := rfl
/-- [32]uint8 -/
def t86 : TI := ⟨32, 32, .agg #[.int .u8 0, .int .u8 0, .int .u8 0, .int .u8 0, .int .u8 0, .int .u8 0, .int .u8 0, .int .u8 0, .int .u8 0, .int .u8 0, .int .u8 0, .int .u8 0, .int .u8 0, .int .u8 0, .int .u8 0, .int .u8 0, .int .u8 0, .int .u8 0, .int .u8 0, .int .u8 0, .int .u8 0, .int .u8 0, .int .u8 0, .int .u8 0, .int .u8 0, .int .u8 0, .int .u8 0, .int .u8 0, .int .u8 0, .int .u8 0, .int .u8 0, .int .u8 0], .agg [.lit (.int .u8 0), .lit (.int .u8 0), .lit (.int .u8 0), .lit (.int .u8 0), .lit (.int .u8 0), .lit (.int .u8 0), .lit (.int .u8 0), .lit (.int .u8 0), .lit (.int .u8 0), .lit (.int .u8 0), .lit (.int .u8 0), .lit (.int .u8 0), .lit (.int .u8 0), .lit (.int .u8 0), .lit (.int .u8 0), .lit (.int .u8 0), .lit (.int .u8 0), .lit (.int .u8 0), .lit (.int .u8 0), .lit (.int .u8 0), .lit (.int .u8 0), .lit (.int .u8 0), .lit (.int .u8 0), .lit (.int .u8 0), .lit (.int .u8 0), .lit (.int .u8 0), .lit (.int .u8 0), .lit (.int .u8 0), .lit (.int .u8 0), .lit (.int .u8 0), .lit (.int .u8 0), .lit (.int .u8 0)], .any, .arr 32 5, false⟩
@[simp] theorem t86_size : t86.size = 32 := rfl
@[simp] theorem t86_bytes : t86.bytes = 32 := rfl
@[simp] theorem t86_z : t86.z = .agg [.lit (.int .u8 0), .lit (.int .u8 0), .lit (.int .u8 0), .lit (.int .u8 0), .lit (.int .u8 0), .lit (.int .u8 0), .lit (.int .u8 0), .lit (.int .u8 0), .lit (.int .u8 0), .lit (.int .u8 0), .lit (.int .u8 0), .lit (.int .u8 0), .lit (.int .u8 0), .lit (.int .u8 0), .lit (.int .u8 0), .lit (.int .u8 0), .lit (.int .u8 0), .lit (.int .u8 0), .lit (.int .u8 0), .lit (.int .u8 0), .lit (.int .u8 0), .lit (.int .u8 0), .lit (.int .u8 0), .lit (.int .u8 0), .lit (.int .u8 0), .lit (.int .u8 0), .lit (.int .u8 0), .lit (.int .u8 0), .lit (.int .u8 0), .lit (.int .u8 0), .lit (.int .u8 0), .lit (.int .u8 0)] := rfl
@[simp] theorem t86_y : t86.y = .any := rfl
@[simp] theorem t86_kind : t86.kind = .arr 32 5 := rfl
@[simp] theorem t86_cmp : t86.cmp = false := rfl
/-- [64]uint8 -/
def t87 : TI := ⟨64, 64, .agg #[.int .u8 0, .int .u8 0, .int .u8 0, .int .u8 0, .int .u8 0, .int .u8 0, .int .u8 0, .int .u8 0, .int .u8 0, .int .u8 0, .int .u8 0, .int .u8 0, .int .u8 0, .int .u8 0, .int .u8 0, .int .u8 0, .int .u8 0, .int .u8 0, .int .u8 0, .int .u8 0, .int .u8 0, .int .u8 0, .int .u8 0, .int .u8 0, .int .u8 0, .int .u8 0, .int .u8 0, .int .u8 0, .int .u8 0, .int .u8 0, .int .u8 0, .int .u8 0, .int .u8 0, .int .u8 0, .int .u8 0, .int .u8 0, .int .u8 0, .int .u8 0, .int .u8 0, .int .u8 0, .int .u8 0, .int .u8 0, .int .u8 0, .int .u8 0, .int .u8 0, .int .u8 0, .int .u8 0, .int .u8 0, .int .u8 0, .int .u8 0, .int .u8 0, .int .u8 0, .int .u8 0, .int .u8 0, .int .u8 0, .int .u8 0, .int .u8 0, .int .u8 0, .int .u8 0, .int .u8 0, .int .u8 0, .int .u8 0, .int .u8 0, .int .u8 0], .agg [.lit (.int .u8 0), .lit (.int .u8 0), .lit (.int .u8 0), .lit (.int .u8 0), .lit (.int .u8 0), .lit (.int .u8 0), .lit (.int .u8 0), .lit (.int .u8 0), .lit (.int .u8 0), .lit (.int .u8 0), .lit (.int .u8 0), .lit (.int .u8 0), .lit (.int .u8 0), .lit (.int .u8 0), .lit (.int .u8 0), .lit (.int .u8 0), .lit (.int .u8 0), .lit (.int .u8 0), .lit (.int .u8 0), .lit (.int .u8 0), .lit (.int .u8 0), .lit (.int .u8 0), .lit (.int .u8 0), .lit (.int .u8 0), .lit (.int .u8 0), .lit (.int .u8 0), .lit (.int .u8 0), .lit (.int .u8 0), .lit (.int .u8 0), .lit (.int .u8 0), .lit (.int .u8 0), .lit (.int .u8 0), .lit (.int .u8 0), .lit (.int .u8 0), .lit (.int .u8 0), .lit (.int .u8 0), .lit (.int .u8 0), .lit (.int .u8 0), .lit (.int .u8 0), .lit (.int .u8 0), .lit (.int .u8 0), .lit (.int .u8 0), .lit (.int .u8 0), .lit (.int .u8 0), .lit (.int .u8 0), .lit (.int .u8 0), .lit (.int .u8 0), .lit (.int .u8 0), .lit (.int .u8 0), .lit (.int .u8 0), .lit (.int .u8 0), .lit (.int .u8 0), .lit (.int .u8 0), .lit (.int .u8 0), .lit (.int .u8 0), .lit (.int .u8 0), .lit (.int .u8 0), .lit (.int .u8 0), .lit (.int .u8 0), .lit (.int .u8 0), .lit (.int .u8 0), .lit (.int .u8 0), .lit (.int .u8 0), .lit (.int .u8 0)], .any, .arr 64 5, false⟩
@[simp] theorem t87_size : t87.size = 64 := rfl
@[simp] theorem t87_bytes : t87.bytes = 64 := rfl
@[simp] theorem t87_z : t87.z = .agg [.lit (.int .u8 0), .lit (.int .u8 0), .lit (.int .u8 0), .lit (.int .u8 0), .lit (.int .u8 0), .lit (.int .u8 0), .lit (.int .u8 0), .lit (.int .u8 0), .lit (.int .u8 0), .lit (.int .u8 0), .lit (.int .u8 0), .lit (.int .u8 0), .lit (.int .u8 0), .lit (.int .u8 0), .lit (.int .u8 0), .lit (.int .u8 0), .lit (.int .u8 0), .lit (.int .u8 0), .lit (.int .u8 0), .lit (.int .u8 0), .lit (.int .u8 0), .lit (.int .u8 0), .lit (.int .u8 0), .lit (.int .u8 0), .lit (.int .u8 0), .lit (.int .u8 0), .lit (.int .u8 0), .lit (.int .u8 0), .lit (.int .u8 0), .lit (.int .u8 0), .lit (.int .u8 0), .lit (.int .u8 0), .lit (.int .u8 0), .lit (.int .u8 0), .lit (.int .u8 0), .lit (.int .u8 0), .lit (.int .u8 0), .lit (.int .u8 0), .lit (.int .u8 0), .lit (.int .u8 0), .lit (.int .u8 0), .lit (.int .u8 0), .lit (.int .u8 0), .lit (.int .u8 0), .lit (.int .u8 0), .lit (.int .u8 0), .lit (.int .u8 0), .lit (.int .u8 0), .lit (.int .u8 0), .lit (.int .u8 0), .lit (.int .u8 0), .lit (.int .u8 0), .lit (.int .u8 0), .lit (.int .u8 0), .lit (.int .u8 0), .lit (.int .u8 0), .lit (.int .u8 0), .lit (.int .u8 0), .lit (.int .u8 0), .lit (.int .u8 0), .lit (.int .u8 0), .lit (.int .u8 0), .lit (.int .u8 0), .lit (.int .u8 0)] := rfl
@[simp] theorem t87_y : t87.y = .any := rfl
@[simp] theorem t87_kind : t87.kind = .arr 64 5 := rfl
@[simp] theorem t87_cmp : t87.cmp = false := rfl
/-- func(unsafe.Pointer, unsafe.Pointer) bool -/
def t96 : TI := ⟨1, 8, .nilFunc, .lit .nilFunc, .lit .nilFunc, .func, false⟩
@[simp] theorem t96_size : t96.size = 1 := rfl
@[simp] theorem t96_bytes : t96.bytes = 8 := rfl
@[simp] theorem t96_z : t96.z = .lit .nilFunc := rfl
@[simp] theorem t96_y : t96.y = .lit .nilFunc := rfl
@[simp] theorem t96_kind : t96.kind = .func := rfl
@[simp] theorem t96_cmp : t96.cmp = false := rfl
/-- struct { Size_ uintptr; PtrBytes uintptr; Hash uint32; TFlag abi.TFlag; Align_ uint8; FieldAlign_ uint8; Kind_ abi.Kind; Equal func(unsafe.Pointer, unsafe.Pointer) bool; GCData *uint8; Str abi.NameOff; PtrToThis abi.TypeOff } -/
def t99 : TI := ⟨11, 48, .agg #[.int .u64 0, .int .u64 0, .int .u32 0, .int .u8 0, .int .u8 0, .int .u8 0, .int .u8 0, .nilFunc, .pointer none, .int .i32 0, .int .i32 0], .agg [.lit (.int .u64 0), .lit (.int .u64 0), .lit (.int .u32 0), .lit (.int .u8 0), .lit (.int .u8 0), .lit (.int .u8 0), .lit (.int .u8 0), .lit .nilFunc, .lit (.pointer none), .lit (.int .i32 0), .lit (.int .i32 0)], .any, .st [(0, 12), (1, 12), (2, 82), (3, 94), (4, 5), (5, 5), (6, 95), (7, 96), (8, 67), (9, 97), (10, 98)], false⟩
@[simp] theorem t99_size : t99.size = 11 := rfl
@[simp] theorem t99_bytes : t99.bytes = 48 := rfl
@[simp] theorem t99_z : t99.z = .agg [.lit (.int .u64 0), .lit (.int .u64 0), .lit (.int .u32 0), .lit (.int .u8 0), .lit (.int .u8 0), .lit (.int .u8 0), .lit (.int .u8 0), .lit .nilFunc, .lit (.pointer none), .lit (.int .i32 0), .lit (.int .i32 0)] := rfl
@[simp] theorem t99_y : t99.y = .any := rfl
@[simp] theorem t99_kind : t99.kind = .st [(0, 12), (1, 12), (2, 82), (3, 94), (4, 5), (5, 5), (6, 95), (7, 96), (8, 67), (9, 97), (10, 98)] := rfl
@[simp] theorem t99_cmp : t99.cmp = false := rfl
theorem t2_ok : t2.ok Tryd.prog 2 := ⟨by kernel_rfl, by kernel_rfl, by kernel_rfl, Tryd.underlying2, (fun h => by cases h), ⟨rfl, rfl, rfl, rfl, fun F h β => by simp [t2, Rep, Reps]⟩⟩
theorem t3_ok : t3.ok Tryd.prog 3 := ⟨by kernel_rfl, by kernel_rfl, by kernel_rfl, Tryd.underlying3, (fun h => by cases h), ⟨rfl, rfl, rfl, rfl, fun F h β => by simp [t3, Rep, Reps]⟩⟩
theorem t4_ok : t4.ok Tryd.prog 4 := ⟨by kernel_rfl, by kernel_rfl, by kernel_rfl, Tryd.underlying4, (fun h => by cases h), ⟨rfl, rfl, rfl, rfl, fun F h β => by simp [t4, Rep, Reps]⟩⟩
theorem t5_ok : t5.ok Tryd.prog 5 := ⟨by kernel_rfl, by kernel_rfl, by kernel_rfl, Tryd.underlying5, (fun h => by cases h), ⟨rfl, rfl, rfl, rfl, fun F h β => by simp [t5, Rep, Reps]⟩⟩
theorem t9_ok : t9.ok Tryd.prog 9 := ⟨by kernel_rfl, by kernel_rfl, by kernel_rfl, Tryd.underlying9, (fun h => by cases h), ⟨rfl, rfl, rfl, rfl, fun F h β => by simp [t9, Rep, Reps]⟩⟩
theorem t12_ok : t12.ok Tryd.prog 12 := ⟨by kernel_rfl, by kernel_rfl, by kernel_rfl, Tryd.underlying12, (fun h => by cases h), ⟨rfl, rfl, rfl, rfl, fun F h β => by simp [t12, Rep, Reps]⟩⟩
theorem t20_ok : t20.ok Tryd.prog 20 := ⟨by kernel_rfl, by kernel_rfl, by kernel_rfl, ⟨_, Tryd.underlying20⟩, (fun h => by cases h), ⟨rfl, rfl, rfl, rfl, fun F h β => by simp [t20, Rep, Reps]⟩⟩
theorem t21_ok : t21.ok Tryd.prog 21 := ⟨by kernel_rfl, by kernel_rfl, by kernel_rfl, Tryd.underlying21, (fun h => by cases h), ⟨rfl, rfl, rfl, rfl, fun F h β => by simp [t21, Rep, Reps]⟩⟩
theorem t22_ok : t22.ok Tryd.prog 22 := ⟨by kernel_rfl, by kernel_rfl, by kernel_rfl, Tryd.underlying22, (fun h => by cases h), ⟨rfl, rfl, rfl, rfl, fun F h β => by simp [t22, Rep, Reps]⟩⟩
theorem t24_ok : t24.ok Tryd.prog 24 := ⟨by kernel_rfl, by kernel_rfl, by kernel_rfl, ⟨_, Tryd.underlying24, rfl⟩, (fun _ => eqInts_of (by kernel_rfl) (by kernel_rfl) (by kernel_rfl)), ⟨rfl, rfl, rfl, rfl, fun F h β => by simp [t24, Rep, Reps]⟩⟩
theorem t25_ok : t25.ok Tryd.prog 25 := ⟨by kernel_rfl, by kernel_rfl, by kernel_rfl, ⟨_, Tryd.underlying25, rfl⟩, (fun _ => eqInts_of (by kernel_rfl) (by kernel_rfl) (by kernel_rfl)), ⟨rfl, rfl, rfl, rfl, fun F h β => by simp [t25, Rep, Reps]⟩⟩
theorem t32_ok : t32.ok Tryd.prog 32 := ⟨by kernel_rfl, by kernel_rfl, by kernel_rfl, Tryd.underlying32, (fun h => by cases h), ⟨rfl, rfl, rfl, rfl, fun F h β => by simp [t32, Rep, Reps]⟩⟩
theorem t36_ok : t36.ok Tryd.prog 36 := ⟨by kernel_rfl, by kernel_rfl, by kernel_rfl, Tryd.underlying36, (fun h => by cases h), ⟨rfl, rfl, rfl, rfl, fun F h β => by simp [t36, Rep, Reps]⟩⟩
theorem t43_ok : t43.ok Tryd.prog 43 := ⟨by kernel_rfl, by kernel_rfl, by kernel_rfl, ⟨_, Tryd.underlying43, rfl⟩, (fun h => by cases h), ⟨rfl, rfl, rfl, rfl, fun F h β => by
    show Rep F h β t43.z t43.zero
    simp only [t43, Rep, Reps]
    exact ⟨_, rfl, _, _, rfl, (.inl ⟨by trivial, none, 0, by trivial, by intros; rfl⟩), _, _, rfl, (by trivial), _, _, rfl, (by trivial), rfl⟩⟩⟩
theorem t44_ok : t44.ok Tryd.prog 44 := ⟨by kernel_rfl, by kernel_rfl, by kernel_rfl, ⟨_, Tryd.underlying44, rfl⟩, (fun h => by cases h), ⟨rfl, rfl, rfl, rfl, fun F h β => by
    show Rep F h β t44.z t44.zero
    simp only [t44, Rep, Reps]
    exact ⟨_, rfl, _, _, rfl, (.inl ⟨by trivial, none, 0, by trivial, by intros; rfl⟩), _, _, rfl, (by trivial), _, _, rfl, (by trivial), rfl⟩⟩⟩
theorem t48_ok : t48.ok Tryd.prog 48 := ⟨by kernel_rfl, by kernel_rfl, by kernel_rfl, Tryd.underlying48, (fun h => by cases h), ⟨rfl, rfl, rfl, rfl, fun F h β => by simp [t48, Rep, Reps]⟩⟩
theorem t52_ok : t52.ok Tryd.prog 52 := ⟨by kernel_rfl, by kernel_rfl, by kernel_rfl, Tryd.underlying52, (fun h => by cases h), ⟨rfl, rfl, rfl, rfl, fun F h β => by simp [t52, Rep, Reps]⟩⟩
theorem t56_ok : t56.ok Tryd.prog 56 := ⟨by kernel_rfl, by kernel_rfl, by kernel_rfl, Tryd.underlying56, (fun h => by cases h), ⟨rfl, rfl, rfl, rfl, fun F h β => by simp [t56, Rep, Reps]⟩⟩
theorem t57_ok : t57.ok Tryd.prog 57 := ⟨by kernel_rfl, by kernel_rfl, by kernel_rfl, ⟨_, Tryd.underlying57, rfl⟩, (fun h => by cases h), ⟨rfl, rfl, rfl, rfl, fun F h β => by
    show Rep F h β t57.z t57.zero
    simp only [t57, Rep, Reps]
    exact ⟨_, rfl, _, _, rfl, (by trivial), _, _, rfl, (.inl ⟨by trivial, none, 0, by trivial, by intros; rfl⟩), rfl⟩⟩⟩
theorem t58_ok : t58.ok Tryd.prog 58 := ⟨by kernel_rfl, by kernel_rfl, by kernel_rfl, ⟨_, Tryd.underlying58, rfl⟩, (fun h => by cases h), ⟨rfl, rfl, rfl, rfl, fun F h β => by
    show Rep F h β t58.z t58.zero
    simp only [t58, Rep, Reps]
    exact ⟨_, rfl, _, _, rfl, (by trivial), _, _, rfl, (.inl ⟨by trivial, none, 0, by trivial, by intros; rfl⟩), rfl⟩⟩⟩
theorem t60_ok : t60.ok Tryd.prog 60 := ⟨by kernel_rfl, by kernel_rfl, by kernel_rfl, ⟨_, Tryd.underlying60⟩, (fun h => by cases h), ⟨rfl, rfl, rfl, rfl, fun F h β => by simp [t60, Rep, Reps]⟩⟩
theorem t61_ok : t61.ok Tryd.prog 61 := ⟨by kernel_rfl, by kernel_rfl, by kernel_rfl, ⟨_, Tryd.underlying61⟩, (fun h => by cases h), ⟨rfl, rfl, rfl, rfl, fun F h β => by simp [t61, Rep, Reps]⟩⟩
theorem t64_ok : t64.ok Tryd.prog 64 := ⟨by kernel_rfl, by kernel_rfl, by kernel_rfl, Tryd.underlying64, (fun h => by cases h), ⟨rfl, rfl, rfl, rfl, fun F h β => by simp [t64, Rep, Reps]⟩⟩
theorem t65_ok : t65.ok Tryd.prog 65 := ⟨by kernel_rfl, by kernel_rfl, by kernel_rfl, ⟨_, _, _, Tryd.underlying65⟩, (fun h => by cases h), ⟨rfl, rfl, rfl, rfl, fun F h β => by simp [t65, Rep, Reps]⟩⟩
theorem t67_ok : t67.ok Tryd.prog 67 := ⟨by kernel_rfl, by kernel_rfl, by kernel_rfl, Tryd.underlying67, (fun h => by cases h), ⟨rfl, rfl, rfl, rfl, fun F h β => by simp [t67, Rep, Reps]⟩⟩
theorem t73_ok : t73.ok Tryd.prog 73 := ⟨by kernel_rfl, by kernel_rfl, by kernel_rfl, Tryd.underlying73, (fun h => by cases h), ⟨rfl, rfl, rfl, rfl, fun F h β => by simp [t73, Rep, Reps]⟩⟩
theorem t74_ok : t74.ok Tryd.prog 74 := ⟨by kernel_rfl, by kernel_rfl, by kernel_rfl, Tryd.underlying74, (fun h => by cases h), ⟨rfl, rfl, rfl, rfl, fun F h β => by simp [t74, Rep, Reps]⟩⟩
theorem t81_ok : t81.ok Tryd.prog 81 := ⟨by kernel_rfl, by kernel_rfl, by kernel_rfl, Tryd.underlying81, (fun h => by cases h), ⟨rfl, rfl, rfl, rfl, fun F h β => by simp [t81, Rep, Reps]⟩⟩
theorem t82_ok : t82.ok Tryd.prog 82 := ⟨by kernel_rfl, by kernel_rfl, by kernel_rfl, Tryd.underlying82, (fun h => by cases h), ⟨rfl, rfl, rfl, rfl, fun F h β => by simp [t82, Rep, Reps]⟩⟩
theorem t83_ok : t83.ok Tryd.prog 83 := ⟨by kernel_rfl, by kernel_rfl, by kernel_rfl, Tryd.underlying83, (fun h => by cases h), ⟨rfl, rfl, rfl, rfl, fun F h β => by simp [t83, Rep, Reps]⟩⟩
theorem t86_ok : t86.ok Tryd.prog 86 := ⟨by kernel_rfl, by kernel_rfl, by kernel_rfl, Tryd.underlying86, (fun h => by cases h), ⟨rfl, rfl, rfl, rfl, fun F h β => by simp [t86, Rep, Reps]⟩⟩
theorem t87_ok : t87.ok Tryd.prog 87 := ⟨by kernel_rfl, by kernel_rfl, by kernel_rfl, Tryd.underlying87, (fun h => by cases h), ⟨rfl, rfl, rfl, rfl, fun F h β => by simp [t87, Rep, Reps]⟩⟩
theorem t96_ok : t96.ok Tryd.prog 96 := ⟨by kernel_rfl, by kernel_rfl, by kernel_rfl, ⟨_, _, _, Tryd.underlying96⟩, (fun h => by cases h), ⟨rfl, rfl, rfl, rfl, fun F h β => by simp [t96, Rep, Reps]⟩⟩
theorem t99_ok : t99.ok Tryd.prog 99 := ⟨by kernel_rfl, by kernel_rfl, by kernel_rfl, ⟨_, Tryd.underlying99, rfl⟩, (fun h => by cases h), ⟨rfl, rfl, rfl, rfl, fun F h β => by simp [t99, Rep, Reps]⟩⟩
def G : Ctx := [(2, t2), (3, t3), (4, t4), (5, t5), (9, t9), (12, t12), (20, t20), (21, t21), (22, t22), (24, t24), (25, t25), (32, t32), (36, t36), (43, t43), (44, t44), (48, t48), (52, t52), (56, t56), (57, t57), (58, t58), (60, t60), (61, t61), (64, t64), (65, t65), (67, t67), (73, t73), (74, t74), (81, t81), (82, t82), (83, t83), (86, t86), (87, t87), (96, t96), (99, t99)]
@[simp] theorem G_2 : G.get 2 = some t2 := rfl
@[simp] theorem G_3 : G.get 3 = some t3 := rfl
@[simp] theorem G_4 : G.get 4 = some t4 := rfl
@[simp] theorem G_5 : G.get 5 = some t5 := rfl
@[simp] theorem G_9 : G.get 9 = some t9 := rfl
@[simp] theorem G_12 : G.get 12 = some t12 := rfl
@[simp] theorem G_20 : G.get 20 = some t20 := rfl
@[simp] theorem G_21 : G.get 21 = some t21 := rfl
@[simp] theorem G_22 : G.get 22 = some t22 := rfl
@[simp] theorem G_24 : G.get 24 = some t24 := rfl
@[simp] theorem G_25 : G.get 25 = some t25 := rfl
@[simp] theorem G_32 : G.get 32 = some t32 := rfl
@[simp] theorem G_36 : G.get 36 = some t36 := rfl
@[simp] theorem G_43 : G.get 43 = some t43 := rfl
@[simp] theorem G_44 : G.get 44 = some t44 := rfl
@[simp] theorem G_48 : G.get 48 = some t48 := rfl
@[simp] theorem G_52 : G.get 52 = some t52 := rfl
@[simp] theorem G_56 : G.get 56 = some t56 := rfl
@[simp] theorem G_57 : G.get 57 = some t57 := rfl
@[simp] theorem G_58 : G.get 58 = some t58 := rfl
@[simp] theorem G_60 : G.get 60 = some t60 := rfl
@[simp] theorem G_61 : G.get 61 = some t61 := rfl
@[simp] theorem G_64 : G.get 64 = some t64 := rfl
@[simp] theorem G_65 : G.get 65 = some t65 := rfl
@[simp] theorem G_67 : G.get 67 = some t67 := rfl
@[simp] theorem G_73 : G.get 73 = some t73 := rfl
@[simp] theorem G_74 : G.get 74 = some t74 := rfl
@[simp] theorem G_81 : G.get 81 = some t81 := rfl
@[simp] theorem G_82 : G.get 82 = some t82 := rfl
@[simp] theorem G_83 : G.get 83 = some t83 := rfl
@[simp] theorem G_86 : G.get 86 = some t86 := rfl
@[simp] theorem G_87 : G.get 87 = some t87 := rfl
@[simp] theorem G_96 : G.get 96 = some t96 := rfl
@[simp] theorem G_99 : G.get 99 = some t99 := rfl
theorem G_ok : G.ok Tryd.prog := by
  intro p hp
  simp only [G, List.mem_cons, List.not_mem_nil, or_false] at hp
  rcases hp with rfl | rfl | rfl | rfl | rfl | rfl | rfl | rfl | rfl | rfl | rfl | rfl | rfl | rfl | rfl | rfl | rfl | rfl | rfl | rfl | rfl | rfl | rfl | rfl | rfl | rfl | rfl | rfl | rfl | rfl | rfl | rfl | rfl | rfl
  · exact t2_ok
  · exact t3_ok
  · exact t4_ok
  · exact t5_ok
  · exact t9_ok
  · exact t12_ok
  · exact t20_ok
  · exact t21_ok
  · exact t22_ok
  · exact t24_ok
  · exact t25_ok
  · exact t32_ok
  · exact t36_ok
  · exact t43_ok
  · exact t44_ok
  · exact t48_ok
  · exact t52_ok
  · exact t56_ok
  · exact t57_ok
  · exact t58_ok
  · exact t60_ok
  · exact t61_ok
  · exact t64_ok
  · exact t65_ok
  · exact t67_ok
  · exact t73_ok
  · exact t74_ok
  · exact t81_ok
  · exact t82_ok
  · exact t83_ok
  · exact t86_ok
  · exact t87_ok
  · exact t96_ok
  · exact t99_ok
theorem mix : Tryd.prog.follows .mixedOrders = true := by kernel_rfl
end Go.Proofs.YtojpebfoajeilaaDoor
