/- What is known of the types of this program: their sizes, zero values and parts. -/
import Derived.Test.YtdbhfkbfajljpaaProg
import Derived.Test.YtdbhfkbfajljpaaTY
import Derived.KernelRfl
namespace Go.Proofs.Ytdbhfkbfajljpaa
open Go Go.Eng
set_option linter.unusedSimpArgs false
set_option linter.unusedVariables false
set_option maxRecDepth 20000
/-- int64 -/
def t2 : TI := ⟨1, 8, .int .i64 0, .lit (.int .i64 0), .lit (.int .i64 0), .int .i64, false⟩
@[simp] theorem t2_size : t2.size = 1 := rfl
@[simp] theorem t2_bytes : t2.bytes = 8 := rfl
@[simp] theorem t2_z : t2.z = .lit (.int .i64 0) := rfl
@[simp] theorem t2_y : t2.y = .lit (.int .i64 0) := rfl
@[simp] theorem t2_kind : t2.kind = .int .i64 := rfl
@[simp] theorem t2_cmp : t2.cmp = false := rfl
/-- int -/
def t3 : TI := ⟨1, 8, .int .i64 0, .lit (.int .i64 0), .lit (.int .i64 0), .int .i64, false⟩
@[simp] theorem t3_size : t3.size = 1 := rfl
@[simp] theorem t3_bytes : t3.bytes = 8 := rfl
@[simp] theorem t3_z : t3.z = .lit (.int .i64 0) := rfl
@[simp] theorem t3_y : t3.y = .lit (.int .i64 0) := rfl
@[simp] theorem t3_kind : t3.kind = .int .i64 := rfl
@[simp] theorem t3_cmp : t3.cmp = false := rfl
/-- bool -/
def t4 : TI := ⟨1, 1, .bool false, .lit (.bool false), .lit (.bool false), .bool, false⟩
@[simp] theorem t4_size : t4.size = 1 := rfl
@[simp] theorem t4_bytes : t4.bytes = 1 := rfl
@[simp] theorem t4_z : t4.z = .lit (.bool false) := rfl
@[simp] theorem t4_y : t4.y = .lit (.bool false) := rfl
@[simp] theorem t4_kind : t4.kind = .bool := rfl
@[simp] theorem t4_cmp : t4.cmp = false := rfl
/-- uint8 -/
def t5 : TI := ⟨1, 1, .int .u8 0, .lit (.int .u8 0), .lit (.int .u8 0), .int .u8, false⟩
@[simp] theorem t5_size : t5.size = 1 := rfl
@[simp] theorem t5_bytes : t5.bytes = 1 := rfl
@[simp] theorem t5_z : t5.z = .lit (.int .u8 0) := rfl
@[simp] theorem t5_y : t5.y = .lit (.int .u8 0) := rfl
@[simp] theorem t5_kind : t5.kind = .int .u8 := rfl
@[simp] theorem t5_cmp : t5.cmp = false := rfl
/-- string -/
def t9 : TI := ⟨1, 16, .string ⟨#[]⟩, .lit (.string ⟨#[]⟩), .lit (.string ⟨#[]⟩), .str, false⟩
@[simp] theorem t9_size : t9.size = 1 := rfl
@[simp] theorem t9_bytes : t9.bytes = 16 := rfl
@[simp] theorem t9_z : t9.z = .lit (.string ⟨#[]⟩) := rfl
@[simp] theorem t9_y : t9.y = .lit (.string ⟨#[]⟩) := rfl
@[simp] theorem t9_kind : t9.kind = .str := rfl
@[simp] theorem t9_cmp : t9.cmp = false := rfl
/-- uintptr -/
def t12 : TI := ⟨1, 8, .int .u64 0, .lit (.int .u64 0), .lit (.int .u64 0), .int .u64, false⟩
@[simp] theorem t12_size : t12.size = 1 := rfl
@[simp] theorem t12_bytes : t12.bytes = 8 := rfl
@[simp] theorem t12_z : t12.z = .lit (.int .u64 0) := rfl
@[simp] theorem t12_y : t12.y = .lit (.int .u64 0) := rfl
@[simp] theorem t12_kind : t12.kind = .int .u64 := rfl
@[simp] theorem t12_cmp : t12.cmp = false := rfl
/-- interface {} -/
def t20 : TI := ⟨1, 16, .nilIface, .lit .nilIface, .lit .nilIface, .iface, false⟩
@[simp] theorem t20_size : t20.size = 1 := rfl
@[simp] theorem t20_bytes : t20.bytes = 16 := rfl
@[simp] theorem t20_z : t20.z = .lit .nilIface := rfl
@[simp] theorem t20_y : t20.y = .lit .nilIface := rfl
@[simp] theorem t20_kind : t20.kind = .iface := rfl
@[simp] theorem t20_cmp : t20.cmp = false := rfl
/-- int32 -/
def t21 : TI := ⟨1, 4, .int .i32 0, .lit (.int .i32 0), .lit (.int .i32 0), .int .i32, false⟩
@[simp] theorem t21_size : t21.size = 1 := rfl
@[simp] theorem t21_bytes : t21.bytes = 4 := rfl
@[simp] theorem t21_z : t21.z = .lit (.int .i32 0) := rfl
@[simp] theorem t21_y : t21.y = .lit (.int .i32 0) := rfl
@[simp] theorem t21_kind : t21.kind = .int .i32 := rfl
@[simp] theorem t21_cmp : t21.cmp = false := rfl
/-- []uint8 -/
def t22 : TI := ⟨1, 24, .slice none 0 0, .sl true 0 .any [], yLU, .slice 5, false⟩
@[simp] theorem t22_size : t22.size = 1 := rfl
@[simp] theorem t22_bytes : t22.bytes = 24 := rfl
@[simp] theorem t22_z : t22.z = .sl true 0 .any [] := rfl
@[simp] theorem t22_y : t22.y = yLU := rfl
@[simp] theorem t22_kind : t22.kind = .slice 5 := rfl
@[simp] theorem t22_cmp : t22.cmp = false := rfl
/-- []int -/
def t35 : TI := ⟨1, 24, .slice none 0 0, .sl true 0 .any [], yLI, .slice 3, false⟩
@[simp] theorem t35_size : t35.size = 1 := rfl
@[simp] theorem t35_bytes : t35.bytes = 24 := rfl
@[simp] theorem t35_z : t35.z = .sl true 0 .any [] := rfl
@[simp] theorem t35_y : t35.y = yLI := rfl
@[simp] theorem t35_kind : t35.kind = .slice 3 := rfl
@[simp] theorem t35_cmp : t35.cmp = false := rfl
/-- []impl.Entry -/
def t41 : TI := ⟨1, 24, .slice none 0 0, .sl true 0 .any [], yLTEntry, .slice 53, false⟩
@[simp] theorem t41_size : t41.size = 1 := rfl
@[simp] theorem t41_bytes : t41.bytes = 24 := rfl
@[simp] theorem t41_z : t41.z = .sl true 0 .any [] := rfl
@[simp] theorem t41_y : t41.y = yLTEntry := rfl
@[simp] theorem t41_kind : t41.kind = .slice 53 := rfl
@[simp] theorem t41_cmp : t41.cmp = false := rfl
/-- []impl.Share -/
def t42 : TI := ⟨1, 24, .slice none 0 0, .sl true 0 .any [], yLTShare, .slice 71, false⟩
@[simp] theorem t42_size : t42.size = 1 := rfl
@[simp] theorem t42_bytes : t42.bytes = 24 := rfl
@[simp] theorem t42_z : t42.z = .sl true 0 .any [] := rfl
@[simp] theorem t42_y : t42.y = yLTShare := rfl
@[simp] theorem t42_kind : t42.kind = .slice 71 := rfl
@[simp] theorem t42_cmp : t42.cmp = false := rfl
/-- struct { From int; To int; Cents int; At int } -/
def t52 : TI := ⟨4, 32, .agg #[.int .i64 0, .int .i64 0, .int .i64 0, .int .i64 0], .agg [.lit (.int .i64 0), .lit (.int .i64 0), .lit (.int .i64 0), .lit (.int .i64 0)], yTEntry, .st [(0, 3), (1, 3), (2, 3), (3, 3)], true⟩
@[simp] theorem t52_size : t52.size = 4 := rfl
@[simp] theorem t52_bytes : t52.bytes = 32 := rfl
@[simp] theorem t52_z : t52.z = .agg [.lit (.int .i64 0), .lit (.int .i64 0), .lit (.int .i64 0), .lit (.int .i64 0)] := rfl
@[simp] theorem t52_y : t52.y = yTEntry := rfl
@[simp] theorem t52_kind : t52.kind = .st [(0, 3), (1, 3), (2, 3), (3, 3)] := rfl
@[simp] theorem t52_cmp : t52.cmp = true := rfl
/-- impl.Entry = loop.example/g03007/impl.Entry -/
def t53 : TI := ⟨4, 32, .agg #[.int .i64 0, .int .i64 0, .int .i64 0, .int .i64 0], .agg [.lit (.int .i64 0), .lit (.int .i64 0), .lit (.int .i64 0), .lit (.int .i64 0)], yTEntry, .st [(0, 3), (1, 3), (2, 3), (3, 3)], true⟩
@[simp] theorem t53_size : t53.size = 4 := rfl
@[simp] theorem t53_bytes : t53.bytes = 32 := rfl
@[simp] theorem t53_z : t53.z = .agg [.lit (.int .i64 0), .lit (.int .i64 0), .lit (.int .i64 0), .lit (.int .i64 0)] := rfl
@[simp] theorem t53_y : t53.y = yTEntry := rfl
@[simp] theorem t53_kind : t53.kind = .st [(0, 3), (1, 3), (2, 3), (3, 3)] := rfl
@[simp] theorem t53_cmp : t53.cmp = true := rfl
/-- *spec.l1Cur -/
def t57 : TI := ⟨1, 8, .pointer none, .lit (.pointer none), .lit (.pointer none), .ptr 80, false⟩
@[simp] theorem t57_size : t57.size = 1 := rfl
@[simp] theorem t57_bytes : t57.bytes = 8 := rfl
@[simp] theorem t57_z : t57.z = .lit (.pointer none) := rfl
@[simp] theorem t57_y : t57.y = .lit (.pointer none) := rfl
@[simp] theorem t57_kind : t57.kind = .ptr 80 := rfl
@[simp] theorem t57_cmp : t57.cmp = false := rfl
/-- struct { Who int; Cents int } -/
def t70 : TI := ⟨2, 16, .agg #[.int .i64 0, .int .i64 0], .agg [.lit (.int .i64 0), .lit (.int .i64 0)], yTShare, .st [(0, 3), (1, 3)], true⟩
@[simp] theorem t70_size : t70.size = 2 := rfl
@[simp] theorem t70_bytes : t70.bytes = 16 := rfl
@[simp] theorem t70_z : t70.z = .agg [.lit (.int .i64 0), .lit (.int .i64 0)] := rfl
@[simp] theorem t70_y : t70.y = yTShare := rfl
@[simp] theorem t70_kind : t70.kind = .st [(0, 3), (1, 3)] := rfl
@[simp] theorem t70_cmp : t70.cmp = true := rfl
/-- impl.Share = loop.example/g03007/impl.Share -/
def t71 : TI := ⟨2, 16, .agg #[.int .i64 0, .int .i64 0], .agg [.lit (.int .i64 0), .lit (.int .i64 0)], yTShare, .st [(0, 3), (1, 3)], true⟩
@[simp] theorem t71_size : t71.size = 2 := rfl
@[simp] theorem t71_bytes : t71.bytes = 16 := rfl
@[simp] theorem t71_z : t71.z = .agg [.lit (.int .i64 0), .lit (.int .i64 0)] := rfl
@[simp] theorem t71_y : t71.y = yTShare := rfl
@[simp] theorem t71_kind : t71.kind = .st [(0, 3), (1, 3)] := rfl
@[simp] theorem t71_cmp : t71.cmp = true := rfl
/-- [2]int -/
def t72 : TI := ⟨2, 16, .agg #[.int .i64 0, .int .i64 0], .agg [.lit (.int .i64 0), .lit (.int .i64 0)], .any, .arr 2 3, false⟩
@[simp] theorem t72_size : t72.size = 2 := rfl
@[simp] theorem t72_bytes : t72.bytes = 16 := rfl
@[simp] theorem t72_z : t72.z = .agg [.lit (.int .i64 0), .lit (.int .i64 0)] := rfl
@[simp] theorem t72_y : t72.y = .any := rfl
@[simp] theorem t72_kind : t72.kind = .arr 2 3 := rfl
@[simp] theorem t72_cmp : t72.cmp = false := rfl
/-- struct { b []uint8; i int; h int } -/
def t79 : TI := ⟨3, 40, .agg #[.slice none 0 0, .int .i64 0, .int .i64 0], .agg [.sl true 0 .any [], .lit (.int .i64 0), .lit (.int .i64 0)], yTL1Cur, .st [(0, 22), (1, 3), (2, 3)], false⟩
@[simp] theorem t79_size : t79.size = 3 := rfl
@[simp] theorem t79_bytes : t79.bytes = 40 := rfl
@[simp] theorem t79_z : t79.z = .agg [.sl true 0 .any [], .lit (.int .i64 0), .lit (.int .i64 0)] := rfl
@[simp] theorem t79_y : t79.y = yTL1Cur := rfl
@[simp] theorem t79_kind : t79.kind = .st [(0, 22), (1, 3), (2, 3)] := rfl
@[simp] theorem t79_cmp : t79.cmp = false := rfl
/-- spec.l1Cur = loop.example/g03007/spec.l1Cur -/
def t80 : TI := ⟨3, 40, .agg #[.slice none 0 0, .int .i64 0, .int .i64 0], .agg [.sl true 0 .any [], .lit (.int .i64 0), .lit (.int .i64 0)], yTL1Cur, .st [(0, 22), (1, 3), (2, 3)], false⟩
@[simp] theorem t80_size : t80.size = 3 := rfl
@[simp] theorem t80_bytes : t80.bytes = 40 := rfl
@[simp] theorem t80_z : t80.z = .agg [.sl true 0 .any [], .lit (.int .i64 0), .lit (.int .i64 0)] := rfl
@[simp] theorem t80_y : t80.y = yTL1Cur := rfl
@[simp] theorem t80_kind : t80.kind = .st [(0, 22), (1, 3), (2, 3)] := rfl
@[simp] theorem t80_cmp : t80.cmp = false := rfl
/-- uint -/
def t81 : TI := ⟨1, 8, .int .u64 0, .lit (.int .u64 0), .lit (.int .u64 0), .int .u64, false⟩
@[simp] theorem t81_size : t81.size = 1 := rfl
@[simp] theorem t81_bytes : t81.bytes = 8 := rfl
@[simp] theorem t81_z : t81.z = .lit (.int .u64 0) := rfl
@[simp] theorem t81_y : t81.y = .lit (.int .u64 0) := rfl
@[simp] theorem t81_kind : t81.kind = .int .u64 := rfl
@[simp] theorem t81_cmp : t81.cmp = false := rfl
/-- [][]int -/
def t89 : TI := ⟨1, 24, .slice none 0 0, .sl true 0 .any [], yLLI, .slice 35, false⟩
@[simp] theorem t89_size : t89.size = 1 := rfl
@[simp] theorem t89_bytes : t89.bytes = 24 := rfl
@[simp] theorem t89_z : t89.z = .sl true 0 .any [] := rfl
@[simp] theorem t89_y : t89.y = yLLI := rfl
@[simp] theorem t89_kind : t89.kind = .slice 35 := rfl
@[simp] theorem t89_cmp : t89.cmp = false := rfl
/-- slices.sortedHint -/
def t94 : TI := ⟨1, 8, .int .i64 0, .lit (.int .i64 0), .lit (.int .i64 0), .int .i64, false⟩
@[simp] theorem t94_size : t94.size = 1 := rfl
@[simp] theorem t94_bytes : t94.bytes = 8 := rfl
@[simp] theorem t94_z : t94.z = .lit (.int .i64 0) := rfl
@[simp] theorem t94_y : t94.y = .lit (.int .i64 0) := rfl
@[simp] theorem t94_kind : t94.kind = .int .i64 := rfl
@[simp] theorem t94_cmp : t94.cmp = false := rfl
/-- uint32 -/
def t102 : TI := ⟨1, 4, .int .u32 0, .lit (.int .u32 0), .lit (.int .u32 0), .int .u32, false⟩
@[simp] theorem t102_size : t102.size = 1 := rfl
@[simp] theorem t102_bytes : t102.bytes = 4 := rfl
@[simp] theorem t102_z : t102.z = .lit (.int .u32 0) := rfl
@[simp] theorem t102_y : t102.y = .lit (.int .u32 0) := rfl
@[simp] theorem t102_kind : t102.kind = .int .u32 := rfl
@[simp] theorem t102_cmp : t102.cmp = false := rfl
/-- uint64 -/
def t104 : TI := ⟨1, 8, .int .u64 0, .lit (.int .u64 0), .lit (.int .u64 0), .int .u64, false⟩
@[simp] theorem t104_size : t104.size = 1 := rfl
@[simp] theorem t104_bytes : t104.bytes = 8 := rfl
@[simp] theorem t104_z : t104.z = .lit (.int .u64 0) := rfl
@[simp] theorem t104_y : t104.y = .lit (.int .u64 0) := rfl
@[simp] theorem t104_kind : t104.kind = .int .u64 := rfl
@[simp] theorem t104_cmp : t104.cmp = false := rfl
/-- slices.xorshift -/
def t105 : TI := ⟨1, 8, .int .u64 0, .lit (.int .u64 0), .lit (.int .u64 0), .int .u64, false⟩
@[simp] theorem t105_size : t105.size = 1 := rfl
@[simp] theorem t105_bytes : t105.bytes = 8 := rfl
@[simp] theorem t105_z : t105.z = .lit (.int .u64 0) := rfl
@[simp] theorem t105_y : t105.y = .lit (.int .u64 0) := rfl
@[simp] theorem t105_kind : t105.kind = .int .u64 := rfl
@[simp] theorem t105_cmp : t105.cmp = false := rfl
/-- *int -/
def t109 : TI := ⟨1, 8, .pointer none, .lit (.pointer none), .lit (.pointer none), .ptr 3, false⟩
@[simp] theorem t109_size : t109.size = 1 := rfl
@[simp] theorem t109_bytes : t109.bytes = 8 := rfl
@[simp] theorem t109_z : t109.z = .lit (.pointer none) := rfl
@[simp] theorem t109_y : t109.y = .lit (.pointer none) := rfl
@[simp] theorem t109_kind : t109.kind = .ptr 3 := rfl
@[simp] theorem t109_cmp : t109.cmp = false := rfl
/-- *slices.xorshift -/
def t111 : TI := ⟨1, 8, .pointer none, .lit (.pointer none), .lit (.pointer none), .ptr 105, false⟩
@[simp] theorem t111_size : t111.size = 1 := rfl
@[simp] theorem t111_bytes : t111.bytes = 8 := rfl
@[simp] theorem t111_z : t111.z = .lit (.pointer none) := rfl
@[simp] theorem t111_y : t111.y = .lit (.pointer none) := rfl
@[simp] theorem t111_kind : t111.kind = .ptr 105 := rfl
@[simp] theorem t111_cmp : t111.cmp = false := rfl
/-- func(unsafe.Pointer, unsafe.Pointer) bool -/
def t123 : TI := ⟨1, 8, .nilFunc, .lit .nilFunc, .lit .nilFunc, .func, false⟩
@[simp] theorem t123_size : t123.size = 1 := rfl
@[simp] theorem t123_bytes : t123.bytes = 8 := rfl
@[simp] theorem t123_z : t123.z = .lit .nilFunc := rfl
@[simp] theorem t123_y : t123.y = .lit .nilFunc := rfl
@[simp] theorem t123_kind : t123.kind = .func := rfl
@[simp] theorem t123_cmp : t123.cmp = false := rfl
/-- *uint8 -/
def t124 : TI := ⟨1, 8, .pointer none, .lit (.pointer none), .lit (.pointer none), .ptr 5, false⟩
@[simp] theorem t124_size : t124.size = 1 := rfl
@[simp] theorem t124_bytes : t124.bytes = 8 := rfl
@[simp] theorem t124_z : t124.z = .lit (.pointer none) := rfl
@[simp] theorem t124_y : t124.y = .lit (.pointer none) := rfl
@[simp] theorem t124_kind : t124.kind = .ptr 5 := rfl
@[simp] theorem t124_cmp : t124.cmp = false := rfl
/-- struct { Size_ uintptr; PtrBytes uintptr; Hash uint32; TFlag abi.TFlag; Align_ uint8; FieldAlign_ uint8; Kind_ abi.Kind; Equal func(unsafe.Pointer, unsafe.Pointer) bool; GCData *uint8; Str abi.NameOff; PtrToThis abi.TypeOff } -/
def t127 : TI := ⟨11, 48, .agg #[.int .u64 0, .int .u64 0, .int .u32 0, .int .u8 0, .int .u8 0, .int .u8 0, .int .u8 0, .nilFunc, .pointer none, .int .i32 0, .int .i32 0], .agg [.lit (.int .u64 0), .lit (.int .u64 0), .lit (.int .u32 0), .lit (.int .u8 0), .lit (.int .u8 0), .lit (.int .u8 0), .lit (.int .u8 0), .lit .nilFunc, .lit (.pointer none), .lit (.int .i32 0), .lit (.int .i32 0)], .any, .st [(0, 12), (1, 12), (2, 102), (3, 121), (4, 5), (5, 5), (6, 122), (7, 123), (8, 124), (9, 125), (10, 126)], false⟩
@[simp] theorem t127_size : t127.size = 11 := rfl
@[simp] theorem t127_bytes : t127.bytes = 48 := rfl
@[simp] theorem t127_z : t127.z = .agg [.lit (.int .u64 0), .lit (.int .u64 0), .lit (.int .u32 0), .lit (.int .u8 0), .lit (.int .u8 0), .lit (.int .u8 0), .lit (.int .u8 0), .lit .nilFunc, .lit (.pointer none), .lit (.int .i32 0), .lit (.int .i32 0)] := rfl
@[simp] theorem t127_y : t127.y = .any := rfl
@[simp] theorem t127_kind : t127.kind = .st [(0, 12), (1, 12), (2, 102), (3, 121), (4, 5), (5, 5), (6, 122), (7, 123), (8, 124), (9, 125), (10, 126)] := rfl
@[simp] theorem t127_cmp : t127.cmp = false := rfl
theorem t2_ok : t2.ok Try.prog 2 := ⟨by kernel_rfl, by kernel_rfl, by kernel_rfl, Try.underlying2, (fun h => by cases h), ⟨rfl, rfl, rfl, rfl, fun F h β => by simp [t2, Rep, Reps]⟩⟩
theorem t3_ok : t3.ok Try.prog 3 := ⟨by kernel_rfl, by kernel_rfl, by kernel_rfl, Try.underlying3, (fun h => by cases h), ⟨rfl, rfl, rfl, rfl, fun F h β => by simp [t3, Rep, Reps]⟩⟩
theorem t4_ok : t4.ok Try.prog 4 := ⟨by kernel_rfl, by kernel_rfl, by kernel_rfl, Try.underlying4, (fun h => by cases h), ⟨rfl, rfl, rfl, rfl, fun F h β => by simp [t4, Rep, Reps]⟩⟩
theorem t5_ok : t5.ok Try.prog 5 := ⟨by kernel_rfl, by kernel_rfl, by kernel_rfl, Try.underlying5, (fun h => by cases h), ⟨rfl, rfl, rfl, rfl, fun F h β => by simp [t5, Rep, Reps]⟩⟩
theorem t9_ok : t9.ok Try.prog 9 := ⟨by kernel_rfl, by kernel_rfl, by kernel_rfl, Try.underlying9, (fun h => by cases h), ⟨rfl, rfl, rfl, rfl, fun F h β => by simp [t9, Rep, Reps]⟩⟩
theorem t12_ok : t12.ok Try.prog 12 := ⟨by kernel_rfl, by kernel_rfl, by kernel_rfl, Try.underlying12, (fun h => by cases h), ⟨rfl, rfl, rfl, rfl, fun F h β => by simp [t12, Rep, Reps]⟩⟩
theorem t20_ok : t20.ok Try.prog 20 := ⟨by kernel_rfl, by kernel_rfl, by kernel_rfl, ⟨_, Try.underlying20⟩, (fun h => by cases h), ⟨rfl, rfl, rfl, rfl, fun F h β => by simp [t20, Rep, Reps]⟩⟩
theorem t21_ok : t21.ok Try.prog 21 := ⟨by kernel_rfl, by kernel_rfl, by kernel_rfl, Try.underlying21, (fun h => by cases h), ⟨rfl, rfl, rfl, rfl, fun F h β => by simp [t21, Rep, Reps]⟩⟩
theorem t22_ok : t22.ok Try.prog 22 := ⟨by kernel_rfl, by kernel_rfl, by kernel_rfl, Try.underlying22, (fun h => by cases h), ⟨rfl, rfl, rfl, rfl, fun F h β => by simp [t22, Rep, Reps]⟩⟩
theorem t35_ok : t35.ok Try.prog 35 := ⟨by kernel_rfl, by kernel_rfl, by kernel_rfl, Try.underlying35, (fun h => by cases h), ⟨rfl, rfl, rfl, rfl, fun F h β => by simp [t35, Rep, Reps]⟩⟩
theorem t41_ok : t41.ok Try.prog 41 := ⟨by kernel_rfl, by kernel_rfl, by kernel_rfl, Try.underlying41, (fun h => by cases h), ⟨rfl, rfl, rfl, rfl, fun F h β => by simp [t41, Rep, Reps]⟩⟩
theorem t42_ok : t42.ok Try.prog 42 := ⟨by kernel_rfl, by kernel_rfl, by kernel_rfl, Try.underlying42, (fun h => by cases h), ⟨rfl, rfl, rfl, rfl, fun F h β => by simp [t42, Rep, Reps]⟩⟩
theorem t52_ok : t52.ok Try.prog 52 := ⟨by kernel_rfl, by kernel_rfl, by kernel_rfl, ⟨_, Try.underlying52, rfl⟩, (fun _ => eqInts_of (by kernel_rfl) (by kernel_rfl) (by kernel_rfl)), ⟨rfl, rfl, rfl, rfl, fun F h β => by simp [t52, Rep, Reps]⟩⟩
theorem t53_ok : t53.ok Try.prog 53 := ⟨by kernel_rfl, by kernel_rfl, by kernel_rfl, ⟨_, Try.underlying53, rfl⟩, (fun _ => eqInts_of (by kernel_rfl) (by kernel_rfl) (by kernel_rfl)), ⟨rfl, rfl, rfl, rfl, fun F h β => by simp [t53, Rep, Reps]⟩⟩
theorem t57_ok : t57.ok Try.prog 57 := ⟨by kernel_rfl, by kernel_rfl, by kernel_rfl, Try.underlying57, (fun h => by cases h), ⟨rfl, rfl, rfl, rfl, fun F h β => by simp [t57, Rep, Reps]⟩⟩
theorem t70_ok : t70.ok Try.prog 70 := ⟨by kernel_rfl, by kernel_rfl, by kernel_rfl, ⟨_, Try.underlying70, rfl⟩, (fun _ => eqInts_of (by kernel_rfl) (by kernel_rfl) (by kernel_rfl)), ⟨rfl, rfl, rfl, rfl, fun F h β => by simp [t70, Rep, Reps]⟩⟩
theorem t71_ok : t71.ok Try.prog 71 := ⟨by kernel_rfl, by kernel_rfl, by kernel_rfl, ⟨_, Try.underlying71, rfl⟩, (fun _ => eqInts_of (by kernel_rfl) (by kernel_rfl) (by kernel_rfl)), ⟨rfl, rfl, rfl, rfl, fun F h β => by simp [t71, Rep, Reps]⟩⟩
theorem t72_ok : t72.ok Try.prog 72 := ⟨by kernel_rfl, by kernel_rfl, by kernel_rfl, Try.underlying72, (fun h => by cases h), ⟨rfl, rfl, rfl, rfl, fun F h β => by simp [t72, Rep, Reps]⟩⟩
theorem t79_ok : t79.ok Try.prog 79 := ⟨by kernel_rfl, by kernel_rfl, by kernel_rfl, ⟨_, Try.underlying79, rfl⟩, (fun h => by cases h), ⟨rfl, rfl, rfl, rfl, fun F h β => by
    show Rep F h β t79.z t79.zero
    simp only [t79, Rep, Reps]
    exact ⟨_, rfl, _, _, rfl, (.inl ⟨by trivial, none, 0, by trivial, by intros; rfl⟩), _, _, rfl, (by trivial), _, _, rfl, (by trivial), rfl⟩⟩⟩
theorem t80_ok : t80.ok Try.prog 80 := ⟨by kernel_rfl, by kernel_rfl, by kernel_rfl, ⟨_, Try.underlying80, rfl⟩, (fun h => by cases h), ⟨rfl, rfl, rfl, rfl, fun F h β => by
    show Rep F h β t80.z t80.zero
    simp only [t80, Rep, Reps]
    exact ⟨_, rfl, _, _, rfl, (.inl ⟨by trivial, none, 0, by trivial, by intros; rfl⟩), _, _, rfl, (by trivial), _, _, rfl, (by trivial), rfl⟩⟩⟩
theorem t81_ok : t81.ok Try.prog 81 := ⟨by kernel_rfl, by kernel_rfl, by kernel_rfl, Try.underlying81, (fun h => by cases h), ⟨rfl, rfl, rfl, rfl, fun F h β => by simp [t81, Rep, Reps]⟩⟩
theorem t89_ok : t89.ok Try.prog 89 := ⟨by kernel_rfl, by kernel_rfl, by kernel_rfl, Try.underlying89, (fun h => by cases h), ⟨rfl, rfl, rfl, rfl, fun F h β => by simp [t89, Rep, Reps]⟩⟩
theorem t94_ok : t94.ok Try.prog 94 := ⟨by kernel_rfl, by kernel_rfl, by kernel_rfl, Try.underlying94, (fun h => by cases h), ⟨rfl, rfl, rfl, rfl, fun F h β => by simp [t94, Rep, Reps]⟩⟩
theorem t102_ok : t102.ok Try.prog 102 := ⟨by kernel_rfl, by kernel_rfl, by kernel_rfl, Try.underlying102, (fun h => by cases h), ⟨rfl, rfl, rfl, rfl, fun F h β => by simp [t102, Rep, Reps]⟩⟩
theorem t104_ok : t104.ok Try.prog 104 := ⟨by kernel_rfl, by kernel_rfl, by kernel_rfl, Try.underlying104, (fun h => by cases h), ⟨rfl, rfl, rfl, rfl, fun F h β => by simp [t104, Rep, Reps]⟩⟩
theorem t105_ok : t105.ok Try.prog 105 := ⟨by kernel_rfl, by kernel_rfl, by kernel_rfl, Try.underlying105, (fun h => by cases h), ⟨rfl, rfl, rfl, rfl, fun F h β => by simp [t105, Rep, Reps]⟩⟩
theorem t109_ok : t109.ok Try.prog 109 := ⟨by kernel_rfl, by kernel_rfl, by kernel_rfl, Try.underlying109, (fun h => by cases h), ⟨rfl, rfl, rfl, rfl, fun F h β => by simp [t109, Rep, Reps]⟩⟩
theorem t111_ok : t111.ok Try.prog 111 := ⟨by kernel_rfl, by kernel_rfl, by kernel_rfl, Try.underlying111, (fun h => by cases h), ⟨rfl, rfl, rfl, rfl, fun F h β => by simp [t111, Rep, Reps]⟩⟩
theorem t123_ok : t123.ok Try.prog 123 := ⟨by kernel_rfl, by kernel_rfl, by kernel_rfl, ⟨_, _, _, Try.underlying123⟩, (fun h => by cases h), ⟨rfl, rfl, rfl, rfl, fun F h β => by simp [t123, Rep, Reps]⟩⟩
theorem t124_ok : t124.ok Try.prog 124 := ⟨by kernel_rfl, by kernel_rfl, by kernel_rfl, Try.underlying124, (fun h => by cases h), ⟨rfl, rfl, rfl, rfl, fun F h β => by simp [t124, Rep, Reps]⟩⟩
theorem t127_ok : t127.ok Try.prog 127 := ⟨by kernel_rfl, by kernel_rfl, by kernel_rfl, ⟨_, Try.underlying127, rfl⟩, (fun h => by cases h), ⟨rfl, rfl, rfl, rfl, fun F h β => by simp [t127, Rep, Reps]⟩⟩
def G : Ctx := [(2, t2), (3, t3), (4, t4), (5, t5), (9, t9), (12, t12), (20, t20), (21, t21), (22, t22), (35, t35), (41, t41), (42, t42), (52, t52), (53, t53), (57, t57), (70, t70), (71, t71), (72, t72), (79, t79), (80, t80), (81, t81), (89, t89), (94, t94), (102, t102), (104, t104), (105, t105), (109, t109), (111, t111), (123, t123), (124, t124), (127, t127)]
@[simp] theorem G_2 : G.get 2 = some t2 := rfl
@[simp] theorem G_3 : G.get 3 = some t3 := rfl
@[simp] theorem G_4 : G.get 4 = some t4 := rfl
@[simp] theorem G_5 : G.get 5 = some t5 := rfl
@[simp] theorem G_9 : G.get 9 = some t9 := rfl
@[simp] theorem G_12 : G.get 12 = some t12 := rfl
@[simp] theorem G_20 : G.get 20 = some t20 := rfl
@[simp] theorem G_21 : G.get 21 = some t21 := rfl
@[simp] theorem G_22 : G.get 22 = some t22 := rfl
@[simp] theorem G_35 : G.get 35 = some t35 := rfl
@[simp] theorem G_41 : G.get 41 = some t41 := rfl
@[simp] theorem G_42 : G.get 42 = some t42 := rfl
@[simp] theorem G_52 : G.get 52 = some t52 := rfl
@[simp] theorem G_53 : G.get 53 = some t53 := rfl
@[simp] theorem G_57 : G.get 57 = some t57 := rfl
@[simp] theorem G_70 : G.get 70 = some t70 := rfl
@[simp] theorem G_71 : G.get 71 = some t71 := rfl
@[simp] theorem G_72 : G.get 72 = some t72 := rfl
@[simp] theorem G_79 : G.get 79 = some t79 := rfl
@[simp] theorem G_80 : G.get 80 = some t80 := rfl
@[simp] theorem G_81 : G.get 81 = some t81 := rfl
@[simp] theorem G_89 : G.get 89 = some t89 := rfl
@[simp] theorem G_94 : G.get 94 = some t94 := rfl
@[simp] theorem G_102 : G.get 102 = some t102 := rfl
@[simp] theorem G_104 : G.get 104 = some t104 := rfl
@[simp] theorem G_105 : G.get 105 = some t105 := rfl
@[simp] theorem G_109 : G.get 109 = some t109 := rfl
@[simp] theorem G_111 : G.get 111 = some t111 := rfl
@[simp] theorem G_123 : G.get 123 = some t123 := rfl
@[simp] theorem G_124 : G.get 124 = some t124 := rfl
@[simp] theorem G_127 : G.get 127 = some t127 := rfl
theorem G_ok : G.ok Try.prog := by
  intro p hp
  simp only [G, List.mem_cons, List.not_mem_nil, or_false] at hp
  rcases hp with rfl | rfl | rfl | rfl | rfl | rfl | rfl | rfl | rfl | rfl | rfl | rfl | rfl | rfl | rfl | rfl | rfl | rfl | rfl | rfl | rfl | rfl | rfl | rfl | rfl | rfl | rfl | rfl | rfl | rfl | rfl
  · exact t2_ok
  · exact t3_ok
  · exact t4_ok
  · exact t5_ok
  · exact t9_ok
  · exact t12_ok
  · exact t20_ok
  · exact t21_ok
  · exact t22_ok
  · exact t35_ok
  · exact t41_ok
  · exact t42_ok
  · exact t52_ok
  · exact t53_ok
  · exact t57_ok
  · exact t70_ok
  · exact t71_ok
  · exact t72_ok
  · exact t79_ok
  · exact t80_ok
  · exact t81_ok
  · exact t89_ok
  · exact t94_ok
  · exact t102_ok
  · exact t104_ok
  · exact t105_ok
  · exact t109_ok
  · exact t111_ok
  · exact t123_ok
  · exact t124_ok
  · exact t127_ok
theorem mix : Try.prog.follows .mixedOrders = true := by kernel_rfl
end Go.Proofs.Ytdbhfkbfajljpaa
