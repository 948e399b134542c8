/- What is known of the types of this program: their sizes, zero values and parts. -/
import Derived.Test.YtdbhfkbfajljpaaDoorProg
import Derived.Test.YtdbhfkbfajljpaaDoorTY
import Derived.KernelRfl
namespace Go.Proofs.YtdbhfkbfajljpaaDoor
open Go Go.Eng
set_option linter.unusedSimpArgs false
set_option linter.unusedVariables false
set_option maxRecDepth 20000
/-- int64 -/
def t2 : TI := ⟨1, 8, .int .i64 0, .lit (.int .i64 0), .lit (.int .i64 0), .int .i64, false⟩
@[simp] theorem t2_size : t2.size = 1 := rfl
@[simp] theorem t2_bytes : t2.bytes = 8 := rfl
@[simp] theorem t2_z : t2.z = .lit (.int .i64 0) := rfl
@[simp] theorem t2_y : t2.y = .lit (.int .i64 0) := rfl
@[simp] theorem t2_kind : t2.kind = .int .i64 := rfl
@[simp] theorem t2_cmp : t2.cmp = false := rfl
/-- int -/
def t3 : TI := ⟨1, 8, .int .i64 0, .lit (.int .i64 0), .lit (.int .i64 0), .int .i64, false⟩
@[simp] theorem t3_size : t3.size = 1 := rfl
@[simp] theorem t3_bytes : t3.bytes = 8 := rfl
@[simp] theorem t3_z : t3.z = .lit (.int .i64 0) := rfl
@[simp] theorem t3_y : t3.y = .lit (.int .i64 0) := rfl
@[simp] theorem t3_kind : t3.kind = .int .i64 := rfl
@[simp] theorem t3_cmp : t3.cmp = false := rfl
/-- bool -/
def t4 : TI := ⟨1, 1, .bool false, .lit (.bool false), .lit (.bool false), .bool, false⟩
@[simp] theorem t4_size : t4.size = 1 := rfl
@[simp] theorem t4_bytes : t4.bytes = 1 := rfl
@[simp] theorem t4_z : t4.z = .lit (.bool false) := rfl
@[simp] theorem t4_y : t4.y = .lit (.bool false) := rfl
@[simp] theorem t4_kind : t4.kind = .bool := rfl
@[simp] theorem t4_cmp : t4.cmp = false := rfl
/-- uint8 -/
def t5 : TI := ⟨1, 1, .int .u8 0, .lit (.int .u8 0), .lit (.int .u8 0), .int .u8, false⟩
@[simp] theorem t5_size : t5.size = 1 := rfl
@[simp] theorem t5_bytes : t5.bytes = 1 := rfl
@[simp] theorem t5_z : t5.z = .lit (.int .u8 0) := rfl
@[simp] theorem t5_y : t5.y = .lit (.int .u8 0) := rfl
@[simp] theorem t5_kind : t5.kind = .int .u8 := rfl
@[simp] theorem t5_cmp : t5.cmp = false := rfl
/-- string -/
def t9 : TI := ⟨1, 16, .string ⟨#[]⟩, .lit (.string ⟨#[]⟩), .lit (.string ⟨#[]⟩), .str, false⟩
@[simp] theorem t9_size : t9.size = 1 := rfl
@[simp] theorem t9_bytes : t9.bytes = 16 := rfl
@[simp] theorem t9_z : t9.z = .lit (.string ⟨#[]⟩) := rfl
@[simp] theorem t9_y : t9.y = .lit (.string ⟨#[]⟩) := rfl
@[simp] theorem t9_kind : t9.kind = .str := rfl
@[simp] theorem t9_cmp : t9.cmp = false := rfl
/-- uintptr -/
def t12 : TI := ⟨1, 8, .int .u64 0, .lit (.int .u64 0), .lit (.int .u64 0), .int .u64, false⟩
@[simp] theorem t12_size : t12.size = 1 := rfl
@[simp] theorem t12_bytes : t12.bytes = 8 := rfl
@[simp] theorem t12_z : t12.z = .lit (.int .u64 0) := rfl
@[simp] theorem t12_y : t12.y = .lit (.int .u64 0) := rfl
@[simp] theorem t12_kind : t12.kind = .int .u64 := rfl
@[simp] theorem t12_cmp : t12.cmp = false := rfl
/-- interface {} -/
def t20 : TI := ⟨1, 16, .nilIface, .lit .nilIface, .lit .nilIface, .iface, false⟩
@[simp] theorem t20_size : t20.size = 1 := rfl
@[simp] theorem t20_bytes : t20.bytes = 16 := rfl
@[simp] theorem t20_z : t20.z = .lit .nilIface := rfl
@[simp] theorem t20_y : t20.y = .lit .nilIface := rfl
@[simp] theorem t20_kind : t20.kind = .iface := rfl
@[simp] theorem t20_cmp : t20.cmp = false := rfl
/-- int32 -/
def t21 : TI := ⟨1, 4, .int .i32 0, .lit (.int .i32 0), .lit (.int .i32 0), .int .i32, false⟩
@[simp] theorem t21_size : t21.size = 1 := rfl
@[simp] theorem t21_bytes : t21.bytes = 4 := rfl
@[simp] theorem t21_z : t21.z = .lit (.int .i32 0) := rfl
@[simp] theorem t21_y : t21.y = .lit (.int .i32 0) := rfl
@[simp] theorem t21_kind : t21.kind = .int .i32 := rfl
@[simp] theorem t21_cmp : t21.cmp = false := rfl
/-- []uint8 -/
def t22 : TI := ⟨1, 24, .slice none 0 0, .sl true 0 .any [], yLU, .slice 5, false⟩
@[simp] theorem t22_size : t22.size = 1 := rfl
@[simp] theorem t22_bytes : t22.bytes = 24 := rfl
@[simp] theorem t22_z : t22.z = .sl true 0 .any [] := rfl
@[simp] theorem t22_y : t22.y = yLU := rfl
@[simp] theorem t22_kind : t22.kind = .slice 5 := rfl
@[simp] theorem t22_cmp : t22.cmp = false := rfl
/-- []bool -/
def t24 : TI := ⟨1, 24, .slice none 0 0, .sl true 0 .any [], yLB, .slice 4, false⟩
@[simp] theorem t24_size : t24.size = 1 := rfl
@[simp] theorem t24_bytes : t24.bytes = 24 := rfl
@[simp] theorem t24_z : t24.z = .sl true 0 .any [] := rfl
@[simp] theorem t24_y : t24.y = yLB := rfl
@[simp] theorem t24_kind : t24.kind = .slice 4 := rfl
@[simp] theorem t24_cmp : t24.cmp = false := rfl
/-- struct { Id int; Kind int; Colour int; Size int; Worth int } -/
def t33 : TI := ⟨5, 40, .agg #[.int .i64 0, .int .i64 0, .int .i64 0, .int .i64 0, .int .i64 0], .agg [.lit (.int .i64 0), .lit (.int .i64 0), .lit (.int .i64 0), .lit (.int .i64 0), .lit (.int .i64 0)], yTThing, .st [(0, 3), (1, 3), (2, 3), (3, 3), (4, 3)], true⟩
@[simp] theorem t33_size : t33.size = 5 := rfl
@[simp] theorem t33_bytes : t33.bytes = 40 := rfl
@[simp] theorem t33_z : t33.z = .agg [.lit (.int .i64 0), .lit (.int .i64 0), .lit (.int .i64 0), .lit (.int .i64 0), .lit (.int .i64 0)] := rfl
@[simp] theorem t33_y : t33.y = yTThing := rfl
@[simp] theorem t33_kind : t33.kind = .st [(0, 3), (1, 3), (2, 3), (3, 3), (4, 3)] := rfl
@[simp] theorem t33_cmp : t33.cmp = true := rfl
/-- impl.Thing = loop.example/g03007/impl.Thing -/
def t34 : TI := ⟨5, 40, .agg #[.int .i64 0, .int .i64 0, .int .i64 0, .int .i64 0, .int .i64 0], .agg [.lit (.int .i64 0), .lit (.int .i64 0), .lit (.int .i64 0), .lit (.int .i64 0), .lit (.int .i64 0)], yTThing, .st [(0, 3), (1, 3), (2, 3), (3, 3), (4, 3)], true⟩
@[simp] theorem t34_size : t34.size = 5 := rfl
@[simp] theorem t34_bytes : t34.bytes = 40 := rfl
@[simp] theorem t34_z : t34.z = .agg [.lit (.int .i64 0), .lit (.int .i64 0), .lit (.int .i64 0), .lit (.int .i64 0), .lit (.int .i64 0)] := rfl
@[simp] theorem t34_y : t34.y = yTThing := rfl
@[simp] theorem t34_kind : t34.kind = .st [(0, 3), (1, 3), (2, 3), (3, 3), (4, 3)] := rfl
@[simp] theorem t34_cmp : t34.cmp = true := rfl
/-- struct { Thing impl.Thing; Place int; At int; Finder int } -/
def t35 : TI := ⟨8, 64, .agg #[.int .i64 0, .int .i64 0, .int .i64 0, .int .i64 0, .int .i64 0, .int .i64 0, .int .i64 0, .int .i64 0], .agg [.lit (.int .i64 0), .lit (.int .i64 0), .lit (.int .i64 0), .lit (.int .i64 0), .lit (.int .i64 0), .lit (.int .i64 0), .lit (.int .i64 0), .lit (.int .i64 0)], yTFind, .st [(0, 34), (5, 3), (6, 3), (7, 3)], true⟩
@[simp] theorem t35_size : t35.size = 8 := rfl
@[simp] theorem t35_bytes : t35.bytes = 64 := rfl
@[simp] theorem t35_z : t35.z = .agg [.lit (.int .i64 0), .lit (.int .i64 0), .lit (.int .i64 0), .lit (.int .i64 0), .lit (.int .i64 0), .lit (.int .i64 0), .lit (.int .i64 0), .lit (.int .i64 0)] := rfl
@[simp] theorem t35_y : t35.y = yTFind := rfl
@[simp] theorem t35_kind : t35.kind = .st [(0, 34), (5, 3), (6, 3), (7, 3)] := rfl
@[simp] theorem t35_cmp : t35.cmp = true := rfl
/-- impl.Find = loop.example/g03007/impl.Find -/
def t36 : TI := ⟨8, 64, .agg #[.int .i64 0, .int .i64 0, .int .i64 0, .int .i64 0, .int .i64 0, .int .i64 0, .int .i64 0, .int .i64 0], .agg [.lit (.int .i64 0), .lit (.int .i64 0), .lit (.int .i64 0), .lit (.int .i64 0), .lit (.int .i64 0), .lit (.int .i64 0), .lit (.int .i64 0), .lit (.int .i64 0)], yTFind, .st [(0, 34), (5, 3), (6, 3), (7, 3)], true⟩
@[simp] theorem t36_size : t36.size = 8 := rfl
@[simp] theorem t36_bytes : t36.bytes = 64 := rfl
@[simp] theorem t36_z : t36.z = .agg [.lit (.int .i64 0), .lit (.int .i64 0), .lit (.int .i64 0), .lit (.int .i64 0), .lit (.int .i64 0), .lit (.int .i64 0), .lit (.int .i64 0), .lit (.int .i64 0)] := rfl
@[simp] theorem t36_y : t36.y = yTFind := rfl
@[simp] theorem t36_kind : t36.kind = .st [(0, 34), (5, 3), (6, 3), (7, 3)] := rfl
@[simp] theorem t36_cmp : t36.cmp = true := rfl
/-- *spec.l1Cur -/
def t41 : TI := ⟨1, 8, .pointer none, .lit (.pointer none), .lit (.pointer none), .ptr 57, false⟩
@[simp] theorem t41_size : t41.size = 1 := rfl
@[simp] theorem t41_bytes : t41.bytes = 8 := rfl
@[simp] theorem t41_z : t41.z = .lit (.pointer none) := rfl
@[simp] theorem t41_y : t41.y = .lit (.pointer none) := rfl
@[simp] theorem t41_kind : t41.kind = .ptr 57 := rfl
@[simp] theorem t41_cmp : t41.cmp = false := rfl
/-- []int -/
def t44 : TI := ⟨1, 24, .slice none 0 0, .sl true 0 .any [], yLI, .slice 3, false⟩
@[simp] theorem t44_size : t44.size = 1 := rfl
@[simp] theorem t44_bytes : t44.bytes = 24 := rfl
@[simp] theorem t44_z : t44.z = .sl true 0 .any [] := rfl
@[simp] theorem t44_y : t44.y = yLI := rfl
@[simp] theorem t44_kind : t44.kind = .slice 3 := rfl
@[simp] theorem t44_cmp : t44.cmp = false := rfl
/-- impl.week = loop.example/g03007/impl.week -/
def t48 : TI := ⟨1, 1, .int .u8 0, .lit (.int .u8 0), .lit (.int .u8 0), .int .u8, false⟩
@[simp] theorem t48_size : t48.size = 1 := rfl
@[simp] theorem t48_bytes : t48.bytes = 1 := rfl
@[simp] theorem t48_z : t48.z = .lit (.int .u8 0) := rfl
@[simp] theorem t48_y : t48.y = .lit (.int .u8 0) := rfl
@[simp] theorem t48_kind : t48.kind = .int .u8 := rfl
@[simp] theorem t48_cmp : t48.cmp = false := rfl
/-- func(impl.Find) bool -/
def t53 : TI := ⟨1, 8, .nilFunc, .lit .nilFunc, .lit .nilFunc, .func, false⟩
@[simp] theorem t53_size : t53.size = 1 := rfl
@[simp] theorem t53_bytes : t53.bytes = 8 := rfl
@[simp] theorem t53_z : t53.z = .lit .nilFunc := rfl
@[simp] theorem t53_y : t53.y = .lit .nilFunc := rfl
@[simp] theorem t53_kind : t53.kind = .func := rfl
@[simp] theorem t53_cmp : t53.cmp = false := rfl
/-- struct { b []uint8; i int; h int } -/
def t56 : TI := ⟨3, 40, .agg #[.slice none 0 0, .int .i64 0, .int .i64 0], .agg [.sl true 0 .any [], .lit (.int .i64 0), .lit (.int .i64 0)], yTL1Cur, .st [(0, 22), (1, 3), (2, 3)], false⟩
@[simp] theorem t56_size : t56.size = 3 := rfl
@[simp] theorem t56_bytes : t56.bytes = 40 := rfl
@[simp] theorem t56_z : t56.z = .agg [.sl true 0 .any [], .lit (.int .i64 0), .lit (.int .i64 0)] := rfl
@[simp] theorem t56_y : t56.y = yTL1Cur := rfl
@[simp] theorem t56_kind : t56.kind = .st [(0, 22), (1, 3), (2, 3)] := rfl
@[simp] theorem t56_cmp : t56.cmp = false := rfl
/-- spec.l1Cur = loop.example/g03007/spec.l1Cur -/
def t57 : TI := ⟨3, 40, .agg #[.slice none 0 0, .int .i64 0, .int .i64 0], .agg [.sl true 0 .any [], .lit (.int .i64 0), .lit (.int .i64 0)], yTL1Cur, .st [(0, 22), (1, 3), (2, 3)], false⟩
@[simp] theorem t57_size : t57.size = 3 := rfl
@[simp] theorem t57_bytes : t57.bytes = 40 := rfl
@[simp] theorem t57_z : t57.z = .agg [.sl true 0 .any [], .lit (.int .i64 0), .lit (.int .i64 0)] := rfl
@[simp] theorem t57_y : t57.y = yTL1Cur := rfl
@[simp] theorem t57_kind : t57.kind = .st [(0, 22), (1, 3), (2, 3)] := rfl
@[simp] theorem t57_cmp : t57.cmp = false := rfl
/-- []impl.Find -/
def t59 : TI := ⟨1, 24, .slice none 0 0, .sl true 0 .any [], yLTFind, .slice 36, false⟩
@[simp] theorem t59_size : t59.size = 1 := rfl
@[simp] theorem t59_bytes : t59.bytes = 24 := rfl
@[simp] theorem t59_z : t59.z = .sl true 0 .any [] := rfl
@[simp] theorem t59_y : t59.y = yLTFind := rfl
@[simp] theorem t59_kind : t59.kind = .slice 36 := rfl
@[simp] theorem t59_cmp : t59.cmp = false := rfl
/-- [4]func(impl.Find) bool -/
def t61 : TI := ⟨4, 32, .agg #[.nilFunc, .nilFunc, .nilFunc, .nilFunc], .agg [.lit .nilFunc, .lit .nilFunc, .lit .nilFunc, .lit .nilFunc], .any, .arr 4 53, false⟩
@[simp] theorem t61_size : t61.size = 4 := rfl
@[simp] theorem t61_bytes : t61.bytes = 32 := rfl
@[simp] theorem t61_z : t61.z = .agg [.lit .nilFunc, .lit .nilFunc, .lit .nilFunc, .lit .nilFunc] := rfl
@[simp] theorem t61_y : t61.y = .any := rfl
@[simp] theorem t61_kind : t61.kind = .arr 4 53 := rfl
@[simp] theorem t61_cmp : t61.cmp = false := rfl
/-- [9]int -/
def t63 : TI := ⟨9, 72, .agg #[.int .i64 0, .int .i64 0, .int .i64 0, .int .i64 0, .int .i64 0, .int .i64 0, .int .i64 0, .int .i64 0, .int .i64 0], .agg [.lit (.int .i64 0), .lit (.int .i64 0), .lit (.int .i64 0), .lit (.int .i64 0), .lit (.int .i64 0), .lit (.int .i64 0), .lit (.int .i64 0), .lit (.int .i64 0), .lit (.int .i64 0)], .any, .arr 9 3, false⟩
@[simp] theorem t63_size : t63.size = 9 := rfl
@[simp] theorem t63_bytes : t63.bytes = 72 := rfl
@[simp] theorem t63_z : t63.z = .agg [.lit (.int .i64 0), .lit (.int .i64 0), .lit (.int .i64 0), .lit (.int .i64 0), .lit (.int .i64 0), .lit (.int .i64 0), .lit (.int .i64 0), .lit (.int .i64 0), .lit (.int .i64 0)] := rfl
@[simp] theorem t63_y : t63.y = .any := rfl
@[simp] theorem t63_kind : t63.kind = .arr 9 3 := rfl
@[simp] theorem t63_cmp : t63.cmp = false := rfl
/-- uint -/
def t67 : TI := ⟨1, 8, .int .u64 0, .lit (.int .u64 0), .lit (.int .u64 0), .int .u64, false⟩
@[simp] theorem t67_size : t67.size = 1 := rfl
@[simp] theorem t67_bytes : t67.bytes = 8 := rfl
@[simp] theorem t67_z : t67.z = .lit (.int .u64 0) := rfl
@[simp] theorem t67_y : t67.y = .lit (.int .u64 0) := rfl
@[simp] theorem t67_kind : t67.kind = .int .u64 := rfl
@[simp] theorem t67_cmp : t67.cmp = false := rfl
/-- uint32 -/
def t81 : TI := ⟨1, 4, .int .u32 0, .lit (.int .u32 0), .lit (.int .u32 0), .int .u32, false⟩
@[simp] theorem t81_size : t81.size = 1 := rfl
@[simp] theorem t81_bytes : t81.bytes = 4 := rfl
@[simp] theorem t81_z : t81.z = .lit (.int .u32 0) := rfl
@[simp] theorem t81_y : t81.y = .lit (.int .u32 0) := rfl
@[simp] theorem t81_kind : t81.kind = .int .u32 := rfl
@[simp] theorem t81_cmp : t81.cmp = false := rfl
/-- func(unsafe.Pointer, unsafe.Pointer) bool -/
def t84 : TI := ⟨1, 8, .nilFunc, .lit .nilFunc, .lit .nilFunc, .func, false⟩
@[simp] theorem t84_size : t84.size = 1 := rfl
@[simp] theorem t84_bytes : t84.bytes = 8 := rfl
@[simp] theorem t84_z : t84.z = .lit .nilFunc := rfl
@[simp] theorem t84_y : t84.y = .lit .nilFunc := rfl
@[simp] theorem t84_kind : t84.kind = .func := rfl
@[simp] theorem t84_cmp : t84.cmp = false := rfl
/-- *uint8 -/
def t85 : TI := ⟨1, 8, .pointer none, .lit (.pointer none), .lit (.pointer none), .ptr 5, false⟩
@[simp] theorem t85_size : t85.size = 1 := rfl
@[simp] theorem t85_bytes : t85.bytes = 8 := rfl
@[simp] theorem t85_z : t85.z = .lit (.pointer none) := rfl
@[simp] theorem t85_y : t85.y = .lit (.pointer none) := rfl
@[simp] theorem t85_kind : t85.kind = .ptr 5 := rfl
@[simp] theorem t85_cmp : t85.cmp = false := rfl
/-- struct { Size_ uintptr; PtrBytes uintptr; Hash uint32; TFlag abi.TFlag; Align_ uint8; FieldAlign_ uint8; Kind_ abi.Kind; Equal func(unsafe.Pointer, unsafe.Pointer) bool; GCData *uint8; Str abi.NameOff; PtrToThis abi.TypeOff } -/
def t88 : TI := ⟨11, 48, .agg #[.int .u64 0, .int .u64 0, .int .u32 0, .int .u8 0, .int .u8 0, .int .u8 0, .int .u8 0, .nilFunc, .pointer none, .int .i32 0, .int .i32 0], .agg [.lit (.int .u64 0), .lit (.int .u64 0), .lit (.int .u32 0), .lit (.int .u8 0), .lit (.int .u8 0), .lit (.int .u8 0), .lit (.int .u8 0), .lit .nilFunc, .lit (.pointer none), .lit (.int .i32 0), .lit (.int .i32 0)], .any, .st [(0, 12), (1, 12), (2, 81), (3, 82), (4, 5), (5, 5), (6, 83), (7, 84), (8, 85), (9, 86), (10, 87)], false⟩
@[simp] theorem t88_size : t88.size = 11 := rfl
@[simp] theorem t88_bytes : t88.bytes = 48 := rfl
@[simp] theorem t88_z : t88.z = .agg [.lit (.int .u64 0), .lit (.int .u64 0), .lit (.int .u32 0), .lit (.int .u8 0), .lit (.int .u8 0), .lit (.int .u8 0), .lit (.int .u8 0), .lit .nilFunc, .lit (.pointer none), .lit (.int .i32 0), .lit (.int .i32 0)] := rfl
@[simp] theorem t88_y : t88.y = .any := rfl
@[simp] theorem t88_kind : t88.kind = .st [(0, 12), (1, 12), (2, 81), (3, 82), (4, 5), (5, 5), (6, 83), (7, 84), (8, 85), (9, 86), (10, 87)] := rfl
@[simp] theorem t88_cmp : t88.cmp = false := rfl
/-- struct { kind int; colour int; size int; place int } -/
def t92 : TI := ⟨4, 32, .agg #[.int .i64 0, .int .i64 0, .int .i64 0, .int .i64 0], .agg [.lit (.int .i64 0), .lit (.int .i64 0), .lit (.int .i64 0), .lit (.int .i64 0)], .any, .st [(0, 3), (1, 3), (2, 3), (3, 3)], true⟩
@[simp] theorem t92_size : t92.size = 4 := rfl
@[simp] theorem t92_bytes : t92.bytes = 32 := rfl
@[simp] theorem t92_z : t92.z = .agg [.lit (.int .i64 0), .lit (.int .i64 0), .lit (.int .i64 0), .lit (.int .i64 0)] := rfl
@[simp] theorem t92_y : t92.y = .any := rfl
@[simp] theorem t92_kind : t92.kind = .st [(0, 3), (1, 3), (2, 3), (3, 3)] := rfl
@[simp] theorem t92_cmp : t92.cmp = true := rfl
theorem t2_ok : t2.ok Tryd.prog 2 := ⟨by kernel_rfl, by kernel_rfl, by kernel_rfl, Tryd.underlying2, (fun h => by cases h), ⟨rfl, rfl, rfl, rfl, fun F h β => by simp [t2, Rep, Reps]⟩⟩
theorem t3_ok : t3.ok Tryd.prog 3 := ⟨by kernel_rfl, by kernel_rfl, by kernel_rfl, Tryd.underlying3, (fun h => by cases h), ⟨rfl, rfl, rfl, rfl, fun F h β => by simp [t3, Rep, Reps]⟩⟩
theorem t4_ok : t4.ok Tryd.prog 4 := ⟨by kernel_rfl, by kernel_rfl, by kernel_rfl, Tryd.underlying4, (fun h => by cases h), ⟨rfl, rfl, rfl, rfl, fun F h β => by simp [t4, Rep, Reps]⟩⟩
theorem t5_ok : t5.ok Tryd.prog 5 := ⟨by kernel_rfl, by kernel_rfl, by kernel_rfl, Tryd.underlying5, (fun h => by cases h), ⟨rfl, rfl, rfl, rfl, fun F h β => by simp [t5, Rep, Reps]⟩⟩
theorem t9_ok : t9.ok Tryd.prog 9 := ⟨by kernel_rfl, by kernel_rfl, by kernel_rfl, Tryd.underlying9, (fun h => by cases h), ⟨rfl, rfl, rfl, rfl, fun F h β => by simp [t9, Rep, Reps]⟩⟩
theorem t12_ok : t12.ok Tryd.prog 12 := ⟨by kernel_rfl, by kernel_rfl, by kernel_rfl, Tryd.underlying12, (fun h => by cases h), ⟨rfl, rfl, rfl, rfl, fun F h β => by simp [t12, Rep, Reps]⟩⟩
theorem t20_ok : t20.ok Tryd.prog 20 := ⟨by kernel_rfl, by kernel_rfl, by kernel_rfl, ⟨_, Tryd.underlying20⟩, (fun h => by cases h), ⟨rfl, rfl, rfl, rfl, fun F h β => by simp [t20, Rep, Reps]⟩⟩
theorem t21_ok : t21.ok Tryd.prog 21 := ⟨by kernel_rfl, by kernel_rfl, by kernel_rfl, Tryd.underlying21, (fun h => by cases h), ⟨rfl, rfl, rfl, rfl, fun F h β => by simp [t21, Rep, Reps]⟩⟩
theorem t22_ok : t22.ok Tryd.prog 22 := ⟨by kernel_rfl, by kernel_rfl, by kernel_rfl, Tryd.underlying22, (fun h => by cases h), ⟨rfl, rfl, rfl, rfl, fun F h β => by simp [t22, Rep, Reps]⟩⟩
theorem t24_ok : t24.ok Tryd.prog 24 := ⟨by kernel_rfl, by kernel_rfl, by kernel_rfl, Tryd.underlying24, (fun h => by cases h), ⟨rfl, rfl, rfl, rfl, fun F h β => by simp [t24, Rep, Reps]⟩⟩
theorem t33_ok : t33.ok Tryd.prog 33 := ⟨by kernel_rfl, by kernel_rfl, by kernel_rfl, ⟨_, Tryd.underlying33, rfl⟩, (fun _ => eqInts_of (by kernel_rfl) (by kernel_rfl) (by kernel_rfl)), ⟨rfl, rfl, rfl, rfl, fun F h β => by simp [t33, Rep, Reps]⟩⟩
theorem t34_ok : t34.ok Tryd.prog 34 := ⟨by kernel_rfl, by kernel_rfl, by kernel_rfl, ⟨_, Tryd.underlying34, rfl⟩, (fun _ => eqInts_of (by kernel_rfl) (by kernel_rfl) (by kernel_rfl)), ⟨rfl, rfl, rfl, rfl, fun F h β => by simp [t34, Rep, Reps]⟩⟩
theorem t35_ok : t35.ok Tryd.prog 35 := ⟨by kernel_rfl, by kernel_rfl, by kernel_rfl, ⟨_, Tryd.underlying35, rfl⟩, (fun _ => eqInts_of (by kernel_rfl) (by kernel_rfl) (by kernel_rfl)), ⟨rfl, rfl, rfl, rfl, fun F h β => by simp [t35, Rep, Reps]⟩⟩
theorem t36_ok : t36.ok Tryd.prog 36 := ⟨by kernel_rfl, by kernel_rfl, by kernel_rfl, ⟨_, Tryd.underlying36, rfl⟩, (fun _ => eqInts_of (by kernel_rfl) (by kernel_rfl) (by kernel_rfl)), ⟨rfl, rfl, rfl, rfl, fun F h β => by simp [t36, Rep, Reps]⟩⟩
theorem t41_ok : t41.ok Tryd.prog 41 := ⟨by kernel_rfl, by kernel_rfl, by kernel_rfl, Tryd.underlying41, (fun h => by cases h), ⟨rfl, rfl, rfl, rfl, fun F h β => by simp [t41, Rep, Reps]⟩⟩
theorem t44_ok : t44.ok Tryd.prog 44 := ⟨by kernel_rfl, by kernel_rfl, by kernel_rfl, Tryd.underlying44, (fun h => by cases h), ⟨rfl, rfl, rfl, rfl, fun F h β => by simp [t44, Rep, Reps]⟩⟩
theorem t48_ok : t48.ok Tryd.prog 48 := ⟨by kernel_rfl, by kernel_rfl, by kernel_rfl, Tryd.underlying48, (fun h => by cases h), ⟨rfl, rfl, rfl, rfl, fun F h β => by simp [t48, Rep, Reps]⟩⟩
theorem t53_ok : t53.ok Tryd.prog 53 := ⟨by kernel_rfl, by kernel_rfl, by kernel_rfl, ⟨_, _, _, Tryd.underlying53⟩, (fun h => by cases h), ⟨rfl, rfl, rfl, rfl, fun F h β => by simp [t53, Rep, Reps]⟩⟩
theorem t56_ok : t56.ok Tryd.prog 56 := ⟨by kernel_rfl, by kernel_rfl, by kernel_rfl, ⟨_, Tryd.underlying56, rfl⟩, (fun h => by cases h), ⟨rfl, rfl, rfl, rfl, fun F h β => by
    show Rep F h β t56.z t56.zero
    simp only [t56, Rep, Reps]
    exact ⟨_, rfl, _, _, rfl, (.inl ⟨by trivial, none, 0, by trivial, by intros; rfl⟩), _, _, rfl, (by trivial), _, _, rfl, (by trivial), rfl⟩⟩⟩
theorem t57_ok : t57.ok Tryd.prog 57 := ⟨by kernel_rfl, by kernel_rfl, by kernel_rfl, ⟨_, Tryd.underlying57, rfl⟩, (fun h => by cases h), ⟨rfl, rfl, rfl, rfl, fun F h β => by
    show Rep F h β t57.z t57.zero
    simp only [t57, Rep, Reps]
    exact ⟨_, rfl, _, _, rfl, (.inl ⟨by trivial, none, 0, by trivial, by intros; rfl⟩), _, _, rfl, (by trivial), _, _, rfl, (by trivial), rfl⟩⟩⟩
theorem t59_ok : t59.ok Tryd.prog 59 := ⟨by kernel_rfl, by kernel_rfl, by kernel_rfl, Tryd.underlying59, (fun h => by cases h), ⟨rfl, rfl, rfl, rfl, fun F h β => by simp [t59, Rep, Reps]⟩⟩
theorem t61_ok : t61.ok Tryd.prog 61 := ⟨by kernel_rfl, by kernel_rfl, by kernel_rfl, Tryd.underlying61, (fun h => by cases h), ⟨rfl, rfl, rfl, rfl, fun F h β => by simp [t61, Rep, Reps]⟩⟩
theorem t63_ok : t63.ok Tryd.prog 63 := ⟨by kernel_rfl, by kernel_rfl, by kernel_rfl, Tryd.underlying63, (fun h => by cases h), ⟨rfl, rfl, rfl, rfl, fun F h β => by simp [t63, Rep, Reps]⟩⟩
theorem t67_ok : t67.ok Tryd.prog 67 := ⟨by kernel_rfl, by kernel_rfl, by kernel_rfl, Tryd.underlying67, (fun h => by cases h), ⟨rfl, rfl, rfl, rfl, fun F h β => by simp [t67, Rep, Reps]⟩⟩
theorem t81_ok : t81.ok Tryd.prog 81 := ⟨by kernel_rfl, by kernel_rfl, by kernel_rfl, Tryd.underlying81, (fun h => by cases h), ⟨rfl, rfl, rfl, rfl, fun F h β => by simp [t81, Rep, Reps]⟩⟩
theorem t84_ok : t84.ok Tryd.prog 84 := ⟨by kernel_rfl, by kernel_rfl, by kernel_rfl, ⟨_, _, _, Tryd.underlying84⟩, (fun h => by cases h), ⟨rfl, rfl, rfl, rfl, fun F h β => by simp [t84, Rep, Reps]⟩⟩
theorem t85_ok : t85.ok Tryd.prog 85 := ⟨by kernel_rfl, by kernel_rfl, by kernel_rfl, Tryd.underlying85, (fun h => by cases h), ⟨rfl, rfl, rfl, rfl, fun F h β => by simp [t85, Rep, Reps]⟩⟩
theorem t88_ok : t88.ok Tryd.prog 88 := ⟨by kernel_rfl, by kernel_rfl, by kernel_rfl, ⟨_, Tryd.underlying88, rfl⟩, (fun h => by cases h), ⟨rfl, rfl, rfl, rfl, fun F h β => by simp [t88, Rep, Reps]⟩⟩
theorem t92_ok : t92.ok Tryd.prog 92 := ⟨by kernel_rfl, by kernel_rfl, by kernel_rfl, ⟨_, Tryd.underlying92, rfl⟩, (fun _ => eqInts_of (by kernel_rfl) (by kernel_rfl) (by kernel_rfl)), ⟨rfl, rfl, rfl, rfl, fun F h β => by simp [t92, Rep, Reps]⟩⟩
def G : Ctx := [(2, t2), (3, t3), (4, t4), (5, t5), (9, t9), (12, t12), (20, t20), (21, t21), (22, t22), (24, t24), (33, t33), (34, t34), (35, t35), (36, t36), (41, t41), (44, t44), (48, t48), (53, t53), (56, t56), (57, t57), (59, t59), (61, t61), (63, t63), (67, t67), (81, t81), (84, t84), (85, t85), (88, t88), (92, t92)]
@[simp] theorem G_2 : G.get 2 = some t2 := rfl
@[simp] theorem G_3 : G.get 3 = some t3 := rfl
@[simp] theorem G_4 : G.get 4 = some t4 := rfl
@[simp] theorem G_5 : G.get 5 = some t5 := rfl
@[simp] theorem G_9 : G.get 9 = some t9 := rfl
@[simp] theorem G_12 : G.get 12 = some t12 := rfl
@[simp] theorem G_20 : G.get 20 = some t20 := rfl
@[simp] theorem G_21 : G.get 21 = some t21 := rfl
@[simp] theorem G_22 : G.get 22 = some t22 := rfl
@[simp] theorem G_24 : G.get 24 = some t24 := rfl
@[simp] theorem G_33 : G.get 33 = some t33 := rfl
@[simp] theorem G_34 : G.get 34 = some t34 := rfl
@[simp] theorem G_35 : G.get 35 = some t35 := rfl
@[simp] theorem G_36 : G.get 36 = some t36 := rfl
@[simp] theorem G_41 : G.get 41 = some t41 := rfl
@[simp] theorem G_44 : G.get 44 = some t44 := rfl
@[simp] theorem G_48 : G.get 48 = some t48 := rfl
@[simp] theorem G_53 : G.get 53 = some t53 := rfl
@[simp] theorem G_56 : G.get 56 = some t56 := rfl
@[simp] theorem G_57 : G.get 57 = some t57 := rfl
@[simp] theorem G_59 : G.get 59 = some t59 := rfl
@[simp] theorem G_61 : G.get 61 = some t61 := rfl
@[simp] theorem G_63 : G.get 63 = some t63 := rfl
@[simp] theorem G_67 : G.get 67 = some t67 := rfl
@[simp] theorem G_81 : G.get 81 = some t81 := rfl
@[simp] theorem G_84 : G.get 84 = some t84 := rfl
@[simp] theorem G_85 : G.get 85 = some t85 := rfl
@[simp] theorem G_88 : G.get 88 = some t88 := rfl
@[simp] theorem G_92 : G.get 92 = some t92 := rfl
theorem G_ok : G.ok Tryd.prog := by
  intro p hp
  simp only [G, List.mem_cons, List.not_mem_nil, or_false] at hp
  rcases hp with rfl | rfl | rfl | rfl | rfl | rfl | rfl | rfl | rfl | rfl | rfl | rfl | rfl | rfl | rfl | rfl | rfl | rfl | rfl | rfl | rfl | rfl | rfl | rfl | rfl | rfl | rfl | rfl | rfl
  · exact t2_ok
  · exact t3_ok
  · exact t4_ok
  · exact t5_ok
  · exact t9_ok
  · exact t12_ok
  · exact t20_ok
  · exact t21_ok
  · exact t22_ok
  · exact t24_ok
  · exact t33_ok
  · exact t34_ok
  · exact t35_ok
  · exact t36_ok
  · exact t41_ok
  · exact t44_ok
  · exact t48_ok
  · exact t53_ok
  · exact t56_ok
  · exact t57_ok
  · exact t59_ok
  · exact t61_ok
  · exact t63_ok
  · exact t67_ok
  · exact t81_ok
  · exact t84_ok
  · exact t85_ok
  · exact t88_ok
  · exact t92_ok
theorem mix : Tryd.prog.follows .mixedOrders = true := by kernel_rfl
end Go.Proofs.YtdbhfkbfajljpaaDoor
