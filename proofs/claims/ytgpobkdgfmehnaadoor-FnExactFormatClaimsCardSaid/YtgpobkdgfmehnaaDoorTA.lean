/- What is known of the types of this program: their sizes, zero values and parts. -/
import Derived.Test.YtgpobkdgfmehnaaDoorProg
import Derived.Test.YtgpobkdgfmehnaaDoorTY
import Derived.KernelRfl
namespace Go.Proofs.YtgpobkdgfmehnaaDoor
open Go Go.Eng
set_option linter.unusedSimpArgs false
set_option linter.unusedVariables false
set_option maxRecDepth 20000
/-- int64 -/
def t2 : TI := ⟨1, 8, .int .i64 0, .lit (.int .i64 0), .lit (.int .i64 0), .int .i64, false⟩
@[simp] theorem t2_size : t2.size = 1 := rfl
@[simp] theorem t2_bytes : t2.bytes = 8 := rfl
@[simp] theorem t2_z : t2.z = .lit (.int .i64 0) := rfl
@[simp] theorem t2_y : t2.y = .lit (.int .i64 0) := rfl
@[simp] theorem t2_kind : t2.kind = .int .i64 := rfl
@[simp] theorem t2_cmp : t2.cmp = false := rfl
/-- int -/
def t3 : TI := ⟨1, 8, .int .i64 0, .lit (.int .i64 0), .lit (.int .i64 0), .int .i64, false⟩
@[simp] theorem t3_size : t3.size = 1 := rfl
@[simp] theorem t3_bytes : t3.bytes = 8 := rfl
@[simp] theorem t3_z : t3.z = .lit (.int .i64 0) := rfl
@[simp] theorem t3_y : t3.y = .lit (.int .i64 0) := rfl
@[simp] theorem t3_kind : t3.kind = .int .i64 := rfl
@[simp] theorem t3_cmp : t3.cmp = false := rfl
/-- bool -/
def t4 : TI := ⟨1, 1, .bool false, .lit (.bool false), .lit (.bool false), .bool, false⟩
@[simp] theorem t4_size : t4.size = 1 := rfl
@[simp] theorem t4_bytes : t4.bytes = 1 := rfl
@[simp] theorem t4_z : t4.z = .lit (.bool false) := rfl
@[simp] theorem t4_y : t4.y = .lit (.bool false) := rfl
@[simp] theorem t4_kind : t4.kind = .bool := rfl
@[simp] theorem t4_cmp : t4.cmp = false := rfl
/-- uint8 -/
def t5 : TI := ⟨1, 1, .int .u8 0, .lit (.int .u8 0), .lit (.int .u8 0), .int .u8, false⟩
@[simp] theorem t5_size : t5.size = 1 := rfl
@[simp] theorem t5_bytes : t5.bytes = 1 := rfl
@[simp] theorem t5_z : t5.z = .lit (.int .u8 0) := rfl
@[simp] theorem t5_y : t5.y = .lit (.int .u8 0) := rfl
@[simp] theorem t5_kind : t5.kind = .int .u8 := rfl
@[simp] theorem t5_cmp : t5.cmp = false := rfl
/-- string -/
def t9 : TI := ⟨1, 16, .string ⟨#[]⟩, .lit (.string ⟨#[]⟩), .lit (.string ⟨#[]⟩), .str, false⟩
@[simp] theorem t9_size : t9.size = 1 := rfl
@[simp] theorem t9_bytes : t9.bytes = 16 := rfl
@[simp] theorem t9_z : t9.z = .lit (.string ⟨#[]⟩) := rfl
@[simp] theorem t9_y : t9.y = .lit (.string ⟨#[]⟩) := rfl
@[simp] theorem t9_kind : t9.kind = .str := rfl
@[simp] theorem t9_cmp : t9.cmp = false := rfl
/-- uintptr -/
def t12 : TI := ⟨1, 8, .int .u64 0, .lit (.int .u64 0), .lit (.int .u64 0), .int .u64, false⟩
@[simp] theorem t12_size : t12.size = 1 := rfl
@[simp] theorem t12_bytes : t12.bytes = 8 := rfl
@[simp] theorem t12_z : t12.z = .lit (.int .u64 0) := rfl
@[simp] theorem t12_y : t12.y = .lit (.int .u64 0) := rfl
@[simp] theorem t12_kind : t12.kind = .int .u64 := rfl
@[simp] theorem t12_cmp : t12.cmp = false := rfl
/-- interface {} -/
def t20 : TI := ⟨1, 16, .nilIface, .lit .nilIface, .lit .nilIface, .iface, false⟩
@[simp] theorem t20_size : t20.size = 1 := rfl
@[simp] theorem t20_bytes : t20.bytes = 16 := rfl
@[simp] theorem t20_z : t20.z = .lit .nilIface := rfl
@[simp] theorem t20_y : t20.y = .lit .nilIface := rfl
@[simp] theorem t20_kind : t20.kind = .iface := rfl
@[simp] theorem t20_cmp : t20.cmp = false := rfl
/-- int32 -/
def t21 : TI := ⟨1, 4, .int .i32 0, .lit (.int .i32 0), .lit (.int .i32 0), .int .i32, false⟩
@[simp] theorem t21_size : t21.size = 1 := rfl
@[simp] theorem t21_bytes : t21.bytes = 4 := rfl
@[simp] theorem t21_z : t21.z = .lit (.int .i32 0) := rfl
@[simp] theorem t21_y : t21.y = .lit (.int .i32 0) := rfl
@[simp] theorem t21_kind : t21.kind = .int .i32 := rfl
@[simp] theorem t21_cmp : t21.cmp = false := rfl
/-- []laws.Claim -/
def t22 : TI := ⟨1, 24, .slice none 0 0, .sl true 0 .any [], yLTClaim, .slice 36, false⟩
@[simp] theorem t22_size : t22.size = 1 := rfl
@[simp] theorem t22_bytes : t22.bytes = 24 := rfl
@[simp] theorem t22_z : t22.z = .sl true 0 .any [] := rfl
@[simp] theorem t22_y : t22.y = yLTClaim := rfl
@[simp] theorem t22_kind : t22.kind = .slice 36 := rfl
@[simp] theorem t22_cmp : t22.cmp = false := rfl
/-- func([]impl.Claim) string -/
def t24 : TI := ⟨1, 8, .nilFunc, .lit .nilFunc, .lit .nilFunc, .func, false⟩
@[simp] theorem t24_size : t24.size = 1 := rfl
@[simp] theorem t24_bytes : t24.bytes = 8 := rfl
@[simp] theorem t24_z : t24.z = .lit .nilFunc := rfl
@[simp] theorem t24_y : t24.y = .lit .nilFunc := rfl
@[simp] theorem t24_kind : t24.kind = .func := rfl
@[simp] theorem t24_cmp : t24.cmp = false := rfl
/-- []impl.Claim -/
def t25 : TI := ⟨1, 24, .slice none 0 0, .sl true 0 .any [], yLTClaim, .slice 32, false⟩
@[simp] theorem t25_size : t25.size = 1 := rfl
@[simp] theorem t25_bytes : t25.bytes = 24 := rfl
@[simp] theorem t25_z : t25.z = .sl true 0 .any [] := rfl
@[simp] theorem t25_y : t25.y = yLTClaim := rfl
@[simp] theorem t25_kind : t25.kind = .slice 32 := rfl
@[simp] theorem t25_cmp : t25.cmp = false := rfl
/-- []string -/
def t29 : TI := ⟨1, 24, .slice none 0 0, .sl true 0 .any [], yLS, .slice 9, false⟩
@[simp] theorem t29_size : t29.size = 1 := rfl
@[simp] theorem t29_bytes : t29.bytes = 24 := rfl
@[simp] theorem t29_z : t29.z = .sl true 0 .any [] := rfl
@[simp] theorem t29_y : t29.y = yLS := rfl
@[simp] theorem t29_kind : t29.kind = .slice 9 := rfl
@[simp] theorem t29_cmp : t29.cmp = false := rfl
/-- struct { Id int; Who int; Thing int; At int; State int } -/
def t31 : TI := ⟨5, 40, .agg #[.int .i64 0, .int .i64 0, .int .i64 0, .int .i64 0, .int .i64 0], .agg [.lit (.int .i64 0), .lit (.int .i64 0), .lit (.int .i64 0), .lit (.int .i64 0), .lit (.int .i64 0)], yTClaim, .st [(0, 3), (1, 3), (2, 3), (3, 3), (4, 3)], true⟩
@[simp] theorem t31_size : t31.size = 5 := rfl
@[simp] theorem t31_bytes : t31.bytes = 40 := rfl
@[simp] theorem t31_z : t31.z = .agg [.lit (.int .i64 0), .lit (.int .i64 0), .lit (.int .i64 0), .lit (.int .i64 0), .lit (.int .i64 0)] := rfl
@[simp] theorem t31_y : t31.y = yTClaim := rfl
@[simp] theorem t31_kind : t31.kind = .st [(0, 3), (1, 3), (2, 3), (3, 3), (4, 3)] := rfl
@[simp] theorem t31_cmp : t31.cmp = true := rfl
/-- impl.Claim = loop.example/g03007/impl.Claim -/
def t32 : TI := ⟨5, 40, .agg #[.int .i64 0, .int .i64 0, .int .i64 0, .int .i64 0, .int .i64 0], .agg [.lit (.int .i64 0), .lit (.int .i64 0), .lit (.int .i64 0), .lit (.int .i64 0), .lit (.int .i64 0)], yTClaim, .st [(0, 3), (1, 3), (2, 3), (3, 3), (4, 3)], true⟩
@[simp] theorem t32_size : t32.size = 5 := rfl
@[simp] theorem t32_bytes : t32.bytes = 40 := rfl
@[simp] theorem t32_z : t32.z = .agg [.lit (.int .i64 0), .lit (.int .i64 0), .lit (.int .i64 0), .lit (.int .i64 0), .lit (.int .i64 0)] := rfl
@[simp] theorem t32_y : t32.y = yTClaim := rfl
@[simp] theorem t32_kind : t32.kind = .st [(0, 3), (1, 3), (2, 3), (3, 3), (4, 3)] := rfl
@[simp] theorem t32_cmp : t32.cmp = true := rfl
/-- laws.Claim = loop.example/g03007/laws.Claim -/
def t36 : TI := ⟨5, 40, .agg #[.int .i64 0, .int .i64 0, .int .i64 0, .int .i64 0, .int .i64 0], .agg [.lit (.int .i64 0), .lit (.int .i64 0), .lit (.int .i64 0), .lit (.int .i64 0), .lit (.int .i64 0)], yTClaim, .st [(0, 3), (1, 3), (2, 3), (3, 3), (4, 3)], true⟩
@[simp] theorem t36_size : t36.size = 5 := rfl
@[simp] theorem t36_bytes : t36.bytes = 40 := rfl
@[simp] theorem t36_z : t36.z = .agg [.lit (.int .i64 0), .lit (.int .i64 0), .lit (.int .i64 0), .lit (.int .i64 0), .lit (.int .i64 0)] := rfl
@[simp] theorem t36_y : t36.y = yTClaim := rfl
@[simp] theorem t36_kind : t36.kind = .st [(0, 3), (1, 3), (2, 3), (3, 3), (4, 3)] := rfl
@[simp] theorem t36_cmp : t36.cmp = true := rfl
/-- []uint8 -/
def t38 : TI := ⟨1, 24, .slice none 0 0, .sl true 0 .any [], yLU, .slice 5, false⟩
@[simp] theorem t38_size : t38.size = 1 := rfl
@[simp] theorem t38_bytes : t38.bytes = 24 := rfl
@[simp] theorem t38_z : t38.z = .sl true 0 .any [] := rfl
@[simp] theorem t38_y : t38.y = yLU := rfl
@[simp] theorem t38_kind : t38.kind = .slice 5 := rfl
@[simp] theorem t38_cmp : t38.cmp = false := rfl
/-- map[int]bool -/
def t43 : TI := ⟨1, 8, .map none, .fm 0 [] .any [], .any, .map 3 4, false⟩
@[simp] theorem t43_size : t43.size = 1 := rfl
@[simp] theorem t43_bytes : t43.bytes = 8 := rfl
@[simp] theorem t43_z : t43.z = .fm 0 [] .any [] := rfl
@[simp] theorem t43_y : t43.y = .any := rfl
@[simp] theorem t43_kind : t43.kind = .map 3 4 := rfl
@[simp] theorem t43_cmp : t43.cmp = false := rfl
/-- [24]uint8 -/
def t45 : TI := ⟨24, 24, .agg #[.int .u8 0, .int .u8 0, .int .u8 0, .int .u8 0, .int .u8 0, .int .u8 0, .int .u8 0, .int .u8 0, .int .u8 0, .int .u8 0, .int .u8 0, .int .u8 0, .int .u8 0, .int .u8 0, .int .u8 0, .int .u8 0, .int .u8 0, .int .u8 0, .int .u8 0, .int .u8 0, .int .u8 0, .int .u8 0, .int .u8 0, .int .u8 0], .agg [.lit (.int .u8 0), .lit (.int .u8 0), .lit (.int .u8 0), .lit (.int .u8 0), .lit (.int .u8 0), .lit (.int .u8 0), .lit (.int .u8 0), .lit (.int .u8 0), .lit (.int .u8 0), .lit (.int .u8 0), .lit (.int .u8 0), .lit (.int .u8 0), .lit (.int .u8 0), .lit (.int .u8 0), .lit (.int .u8 0), .lit (.int .u8 0), .lit (.int .u8 0), .lit (.int .u8 0), .lit (.int .u8 0), .lit (.int .u8 0), .lit (.int .u8 0), .lit (.int .u8 0), .lit (.int .u8 0), .lit (.int .u8 0)], .any, .arr 24 5, false⟩
@[simp] theorem t45_size : t45.size = 24 := rfl
@[simp] theorem t45_bytes : t45.bytes = 24 := rfl
@[simp] theorem t45_z : t45.z = .agg [.lit (.int .u8 0), .lit (.int .u8 0), .lit (.int .u8 0), .lit (.int .u8 0), .lit (.int .u8 0), .lit (.int .u8 0), .lit (.int .u8 0), .lit (.int .u8 0), .lit (.int .u8 0), .lit (.int .u8 0), .lit (.int .u8 0), .lit (.int .u8 0), .lit (.int .u8 0), .lit (.int .u8 0), .lit (.int .u8 0), .lit (.int .u8 0), .lit (.int .u8 0), .lit (.int .u8 0), .lit (.int .u8 0), .lit (.int .u8 0), .lit (.int .u8 0), .lit (.int .u8 0), .lit (.int .u8 0), .lit (.int .u8 0)] := rfl
@[simp] theorem t45_y : t45.y = .any := rfl
@[simp] theorem t45_kind : t45.kind = .arr 24 5 := rfl
@[simp] theorem t45_cmp : t45.cmp = false := rfl
/-- uint64 -/
def t46 : TI := ⟨1, 8, .int .u64 0, .lit (.int .u64 0), .lit (.int .u64 0), .int .u64, false⟩
@[simp] theorem t46_size : t46.size = 1 := rfl
@[simp] theorem t46_bytes : t46.bytes = 8 := rfl
@[simp] theorem t46_z : t46.z = .lit (.int .u64 0) := rfl
@[simp] theorem t46_y : t46.y = .lit (.int .u64 0) := rfl
@[simp] theorem t46_kind : t46.kind = .int .u64 := rfl
@[simp] theorem t46_cmp : t46.cmp = false := rfl
/-- [20]uint64 -/
def t53 : TI := ⟨20, 160, .agg #[.int .u64 0, .int .u64 0, .int .u64 0, .int .u64 0, .int .u64 0, .int .u64 0, .int .u64 0, .int .u64 0, .int .u64 0, .int .u64 0, .int .u64 0, .int .u64 0, .int .u64 0, .int .u64 0, .int .u64 0, .int .u64 0, .int .u64 0, .int .u64 0, .int .u64 0, .int .u64 0], .agg [.lit (.int .u64 0), .lit (.int .u64 0), .lit (.int .u64 0), .lit (.int .u64 0), .lit (.int .u64 0), .lit (.int .u64 0), .lit (.int .u64 0), .lit (.int .u64 0), .lit (.int .u64 0), .lit (.int .u64 0), .lit (.int .u64 0), .lit (.int .u64 0), .lit (.int .u64 0), .lit (.int .u64 0), .lit (.int .u64 0), .lit (.int .u64 0), .lit (.int .u64 0), .lit (.int .u64 0), .lit (.int .u64 0), .lit (.int .u64 0)], .any, .arr 20 46, false⟩
@[simp] theorem t53_size : t53.size = 20 := rfl
@[simp] theorem t53_bytes : t53.bytes = 160 := rfl
@[simp] theorem t53_z : t53.z = .agg [.lit (.int .u64 0), .lit (.int .u64 0), .lit (.int .u64 0), .lit (.int .u64 0), .lit (.int .u64 0), .lit (.int .u64 0), .lit (.int .u64 0), .lit (.int .u64 0), .lit (.int .u64 0), .lit (.int .u64 0), .lit (.int .u64 0), .lit (.int .u64 0), .lit (.int .u64 0), .lit (.int .u64 0), .lit (.int .u64 0), .lit (.int .u64 0), .lit (.int .u64 0), .lit (.int .u64 0), .lit (.int .u64 0), .lit (.int .u64 0)] := rfl
@[simp] theorem t53_y : t53.y = .any := rfl
@[simp] theorem t53_kind : t53.kind = .arr 20 46 := rfl
@[simp] theorem t53_cmp : t53.cmp = false := rfl
/-- uint32 -/
def t54 : TI := ⟨1, 4, .int .u32 0, .lit (.int .u32 0), .lit (.int .u32 0), .int .u32, false⟩
@[simp] theorem t54_size : t54.size = 1 := rfl
@[simp] theorem t54_bytes : t54.bytes = 4 := rfl
@[simp] theorem t54_z : t54.z = .lit (.int .u32 0) := rfl
@[simp] theorem t54_y : t54.y = .lit (.int .u32 0) := rfl
@[simp] theorem t54_kind : t54.kind = .int .u32 := rfl
@[simp] theorem t54_cmp : t54.cmp = false := rfl
/-- [65]uint8 -/
def t55 : TI := ⟨65, 65, .agg #[.int .u8 0, .int .u8 0, .int .u8 0, .int .u8 0, .int .u8 0, .int .u8 0, .int .u8 0, .int .u8 0, .int .u8 0, .int .u8 0, .int .u8 0, .int .u8 0, .int .u8 0, .int .u8 0, .int .u8 0, .int .u8 0, .int .u8 0, .int .u8 0, .int .u8 0, .int .u8 0, .int .u8 0, .int .u8 0, .int .u8 0, .int .u8 0, .int .u8 0, .int .u8 0, .int .u8 0, .int .u8 0, .int .u8 0, .int .u8 0, .int .u8 0, .int .u8 0, .int .u8 0, .int .u8 0, .int .u8 0, .int .u8 0, .int .u8 0, .int .u8 0, .int .u8 0, .int .u8 0, .int .u8 0, .int .u8 0, .int .u8 0, .int .u8 0, .int .u8 0, .int .u8 0, .int .u8 0, .int .u8 0, .int .u8 0, .int .u8 0, .int .u8 0, .int .u8 0, .int .u8 0, .int .u8 0, .int .u8 0, .int .u8 0, .int .u8 0, .int .u8 0, .int .u8 0, .int .u8 0, .int .u8 0, .int .u8 0, .int .u8 0, .int .u8 0, .int .u8 0], .agg [.lit (.int .u8 0), .lit (.int .u8 0), .lit (.int .u8 0), .lit (.int .u8 0), .lit (.int .u8 0), .lit (.int .u8 0), .lit (.int .u8 0), .lit (.int .u8 0), .lit (.int .u8 0), .lit (.int .u8 0), .lit (.int .u8 0), .lit (.int .u8 0), .lit (.int .u8 0), .lit (.int .u8 0), .lit (.int .u8 0), .lit (.int .u8 0), .lit (.int .u8 0), .lit (.int .u8 0), .lit (.int .u8 0), .lit (.int .u8 0), .lit (.int .u8 0), .lit (.int .u8 0), .lit (.int .u8 0), .lit (.int .u8 0), .lit (.int .u8 0), .lit (.int .u8 0), .lit (.int .u8 0), .lit (.int .u8 0), .lit (.int .u8 0), .lit (.int .u8 0), .lit (.int .u8 0), .lit (.int .u8 0), .lit (.int .u8 0), .lit (.int .u8 0), .lit (.int .u8 0), .lit (.int .u8 0), .lit (.int .u8 0), .lit (.int .u8 0), .lit (.int .u8 0), .lit (.int .u8 0), .lit (.int .u8 0), .lit (.int .u8 0), .lit (.int .u8 0), .lit (.int .u8 0), .lit (.int .u8 0), .lit (.int .u8 0), .lit (.int .u8 0), .lit (.int .u8 0), .lit (.int .u8 0), .lit (.int .u8 0), .lit (.int .u8 0), .lit (.int .u8 0), .lit (.int .u8 0), .lit (.int .u8 0), .lit (.int .u8 0), .lit (.int .u8 0), .lit (.int .u8 0), .lit (.int .u8 0), .lit (.int .u8 0), .lit (.int .u8 0), .lit (.int .u8 0), .lit (.int .u8 0), .lit (.int .u8 0), .lit (.int .u8 0), .lit (.int .u8 0)], .any, .arr 65 5, false⟩
@[simp] theorem t55_size : t55.size = 65 := rfl
@[simp] theorem t55_bytes : t55.bytes = 65 := rfl
@[simp] theorem t55_z : t55.z = .agg [.lit (.int .u8 0), .lit (.int .u8 0), .lit (.int .u8 0), .lit (.int .u8 0), .lit (.int .u8 0), .lit (.int .u8 0), .lit (.int .u8 0), .lit (.int .u8 0), .lit (.int .u8 0), .lit (.int .u8 0), .lit (.int .u8 0), .lit (.int .u8 0), .lit (.int .u8 0), .lit (.int .u8 0), .lit (.int .u8 0), .lit (.int .u8 0), .lit (.int .u8 0), .lit (.int .u8 0), .lit (.int .u8 0), .lit (.int .u8 0), .lit (.int .u8 0), .lit (.int .u8 0), .lit (.int .u8 0), .lit (.int .u8 0), .lit (.int .u8 0), .lit (.int .u8 0), .lit (.int .u8 0), .lit (.int .u8 0), .lit (.int .u8 0), .lit (.int .u8 0), .lit (.int .u8 0), .lit (.int .u8 0), .lit (.int .u8 0), .lit (.int .u8 0), .lit (.int .u8 0), .lit (.int .u8 0), .lit (.int .u8 0), .lit (.int .u8 0), .lit (.int .u8 0), .lit (.int .u8 0), .lit (.int .u8 0), .lit (.int .u8 0), .lit (.int .u8 0), .lit (.int .u8 0), .lit (.int .u8 0), .lit (.int .u8 0), .lit (.int .u8 0), .lit (.int .u8 0), .lit (.int .u8 0), .lit (.int .u8 0), .lit (.int .u8 0), .lit (.int .u8 0), .lit (.int .u8 0), .lit (.int .u8 0), .lit (.int .u8 0), .lit (.int .u8 0), .lit (.int .u8 0), .lit (.int .u8 0), .lit (.int .u8 0), .lit (.int .u8 0), .lit (.int .u8 0), .lit (.int .u8 0), .lit (.int .u8 0), .lit (.int .u8 0), .lit (.int .u8 0)] := rfl
@[simp] theorem t55_y : t55.y = .any := rfl
@[simp] theorem t55_kind : t55.kind = .arr 65 5 := rfl
@[simp] theorem t55_cmp : t55.cmp = false := rfl
/-- uint -/
def t57 : TI := ⟨1, 8, .int .u64 0, .lit (.int .u64 0), .lit (.int .u64 0), .int .u64, false⟩
@[simp] theorem t57_size : t57.size = 1 := rfl
@[simp] theorem t57_bytes : t57.bytes = 8 := rfl
@[simp] theorem t57_z : t57.z = .lit (.int .u64 0) := rfl
@[simp] theorem t57_y : t57.y = .lit (.int .u64 0) := rfl
@[simp] theorem t57_kind : t57.kind = .int .u64 := rfl
@[simp] theorem t57_cmp : t57.cmp = false := rfl
/-- [32]uint8 -/
def t60 : TI := ⟨32, 32, .agg #[.int .u8 0, .int .u8 0, .int .u8 0, .int .u8 0, .int .u8 0, .int .u8 0, .int .u8 0, .int .u8 0, .int .u8 0, .int .u8 0, .int .u8 0, .int .u8 0, .int .u8 0, .int .u8 0, .int .u8 0, .int .u8 0, .int .u8 0, .int .u8 0, .int .u8 0, .int .u8 0, .int .u8 0, .int .u8 0, .int .u8 0, .int .u8 0, .int .u8 0, .int .u8 0, .int .u8 0, .int .u8 0, .int .u8 0, .int .u8 0, .int .u8 0, .int .u8 0], .agg [.lit (.int .u8 0), .lit (.int .u8 0), .lit (.int .u8 0), .lit (.int .u8 0), .lit (.int .u8 0), .lit (.int .u8 0), .lit (.int .u8 0), .lit (.int .u8 0), .lit (.int .u8 0), .lit (.int .u8 0), .lit (.int .u8 0), .lit (.int .u8 0), .lit (.int .u8 0), .lit (.int .u8 0), .lit (.int .u8 0), .lit (.int .u8 0), .lit (.int .u8 0), .lit (.int .u8 0), .lit (.int .u8 0), .lit (.int .u8 0), .lit (.int .u8 0), .lit (.int .u8 0), .lit (.int .u8 0), .lit (.int .u8 0), .lit (.int .u8 0), .lit (.int .u8 0), .lit (.int .u8 0), .lit (.int .u8 0), .lit (.int .u8 0), .lit (.int .u8 0), .lit (.int .u8 0), .lit (.int .u8 0)], .any, .arr 32 5, false⟩
@[simp] theorem t60_size : t60.size = 32 := rfl
@[simp] theorem t60_bytes : t60.bytes = 32 := rfl
@[simp] theorem t60_z : t60.z = .agg [.lit (.int .u8 0), .lit (.int .u8 0), .lit (.int .u8 0), .lit (.int .u8 0), .lit (.int .u8 0), .lit (.int .u8 0), .lit (.int .u8 0), .lit (.int .u8 0), .lit (.int .u8 0), .lit (.int .u8 0), .lit (.int .u8 0), .lit (.int .u8 0), .lit (.int .u8 0), .lit (.int .u8 0), .lit (.int .u8 0), .lit (.int .u8 0), .lit (.int .u8 0), .lit (.int .u8 0), .lit (.int .u8 0), .lit (.int .u8 0), .lit (.int .u8 0), .lit (.int .u8 0), .lit (.int .u8 0), .lit (.int .u8 0), .lit (.int .u8 0), .lit (.int .u8 0), .lit (.int .u8 0), .lit (.int .u8 0), .lit (.int .u8 0), .lit (.int .u8 0), .lit (.int .u8 0), .lit (.int .u8 0)] := rfl
@[simp] theorem t60_y : t60.y = .any := rfl
@[simp] theorem t60_kind : t60.kind = .arr 32 5 := rfl
@[simp] theorem t60_cmp : t60.cmp = false := rfl
/-- [64]uint8 -/
def t61 : TI := ⟨64, 64, .agg #[.int .u8 0, .int .u8 0, .int .u8 0, .int .u8 0, .int .u8 0, .int .u8 0, .int .u8 0, .int .u8 0, .int .u8 0, .int .u8 0, .int .u8 0, .int .u8 0, .int .u8 0, .int .u8 0, .int .u8 0, .int .u8 0, .int .u8 0, .int .u8 0, .int .u8 0, .int .u8 0, .int .u8 0, .int .u8 0, .int .u8 0, .int .u8 0, .int .u8 0, .int .u8 0, .int .u8 0, .int .u8 0, .int .u8 0, .int .u8 0, .int .u8 0, .int .u8 0, .int .u8 0, .int .u8 0, .int .u8 0, .int .u8 0, .int .u8 0, .int .u8 0, .int .u8 0, .int .u8 0, .int .u8 0, .int .u8 0, .int .u8 0, .int .u8 0, .int .u8 0, .int .u8 0, .int .u8 0, .int .u8 0, .int .u8 0, .int .u8 0, .int .u8 0, .int .u8 0, .int .u8 0, .int .u8 0, .int .u8 0, .int .u8 0, .int .u8 0, .int .u8 0, .int .u8 0, .int .u8 0, .int .u8 0, .int .u8 0, .int .u8 0, .int .u8 0], .agg [.lit (.int .u8 0), .lit (.int .u8 0), .lit (.int .u8 0), .lit (.int .u8 0), .lit (.int .u8 0), .lit (.int .u8 0), .lit (.int .u8 0), .lit (.int .u8 0), .lit (.int .u8 0), .lit (.int .u8 0), .lit (.int .u8 0), .lit (.int .u8 0), .lit (.int .u8 0), .lit (.int .u8 0), .lit (.int .u8 0), .lit (.int .u8 0), .lit (.int .u8 0), .lit (.int .u8 0), .lit (.int .u8 0), .lit (.int .u8 0), .lit (.int .u8 0), .lit (.int .u8 0), .lit (.int .u8 0), .lit (.int .u8 0), .lit (.int .u8 0), .lit (.int .u8 0), .lit (.int .u8 0), .lit (.int .u8 0), .lit (.int .u8 0), .lit (.int .u8 0), .lit (.int .u8 0), .lit (.int .u8 0), .lit (.int .u8 0), .lit (.int .u8 0), .lit (.int .u8 0), .lit (.int .u8 0), .lit (.int .u8 0), .lit (.int .u8 0), .lit (.int .u8 0), .lit (.int .u8 0), .lit (.int .u8 0), .lit (.int .u8 0), .lit (.int .u8 0), .lit (.int .u8 0), .lit (.int .u8 0), .lit (.int .u8 0), .lit (.int .u8 0), .lit (.int .u8 0), .lit (.int .u8 0), .lit (.int .u8 0), .lit (.int .u8 0), .lit (.int .u8 0), .lit (.int .u8 0), .lit (.int .u8 0), .lit (.int .u8 0), .lit (.int .u8 0), .lit (.int .u8 0), .lit (.int .u8 0), .lit (.int .u8 0), .lit (.int .u8 0), .lit (.int .u8 0), .lit (.int .u8 0), .lit (.int .u8 0), .lit (.int .u8 0)], .any, .arr 64 5, false⟩
@[simp] theorem t61_size : t61.size = 64 := rfl
@[simp] theorem t61_bytes : t61.bytes = 64 := rfl
@[simp] theorem t61_z : t61.z = .agg [.lit (.int .u8 0), .lit (.int .u8 0), .lit (.int .u8 0), .lit (.int .u8 0), .lit (.int .u8 0), .lit (.int .u8 0), .lit (.int .u8 0), .lit (.int .u8 0), .lit (.int .u8 0), .lit (.int .u8 0), .lit (.int .u8 0), .lit (.int .u8 0), .lit (.int .u8 0), .lit (.int .u8 0), .lit (.int .u8 0), .lit (.int .u8 0), .lit (.int .u8 0), .lit (.int .u8 0), .lit (.int .u8 0), .lit (.int .u8 0), .lit (.int .u8 0), .lit (.int .u8 0), .lit (.int .u8 0), .lit (.int .u8 0), .lit (.int .u8 0), .lit (.int .u8 0), .lit (.int .u8 0), .lit (.int .u8 0), .lit (.int .u8 0), .lit (.int .u8 0), .lit (.int .u8 0), .lit (.int .u8 0), .lit (.int .u8 0), .lit (.int .u8 0), .lit (.int .u8 0), .lit (.int .u8 0), .lit (.int .u8 0), .lit (.int .u8 0), .lit (.int .u8 0), .lit (.int .u8 0), .lit (.int .u8 0), .lit (.int .u8 0), .lit (.int .u8 0), .lit (.int .u8 0), .lit (.int .u8 0), .lit (.int .u8 0), .lit (.int .u8 0), .lit (.int .u8 0), .lit (.int .u8 0), .lit (.int .u8 0), .lit (.int .u8 0), .lit (.int .u8 0), .lit (.int .u8 0), .lit (.int .u8 0), .lit (.int .u8 0), .lit (.int .u8 0), .lit (.int .u8 0), .lit (.int .u8 0), .lit (.int .u8 0), .lit (.int .u8 0), .lit (.int .u8 0), .lit (.int .u8 0), .lit (.int .u8 0), .lit (.int .u8 0)] := rfl
@[simp] theorem t61_y : t61.y = .any := rfl
@[simp] theorem t61_kind : t61.kind = .arr 64 5 := rfl
@[simp] theorem t61_cmp : t61.cmp = false := rfl
/-- func(unsafe.Pointer, unsafe.Pointer) bool -/
def t71 : TI := ⟨1, 8, .nilFunc, .lit .nilFunc, .lit .nilFunc, .func, false⟩
@[simp] theorem t71_size : t71.size = 1 := rfl
@[simp] theorem t71_bytes : t71.bytes = 8 := rfl
@[simp] theorem t71_z : t71.z = .lit .nilFunc := rfl
@[simp] theorem t71_y : t71.y = .lit .nilFunc := rfl
@[simp] theorem t71_kind : t71.kind = .func := rfl
@[simp] theorem t71_cmp : t71.cmp = false := rfl
/-- *uint8 -/
def t72 : TI := ⟨1, 8, .pointer none, .lit (.pointer none), .lit (.pointer none), .ptr 5, false⟩
@[simp] theorem t72_size : t72.size = 1 := rfl
@[simp] theorem t72_bytes : t72.bytes = 8 := rfl
@[simp] theorem t72_z : t72.z = .lit (.pointer none) := rfl
@[simp] theorem t72_y : t72.y = .lit (.pointer none) := rfl
@[simp] theorem t72_kind : t72.kind = .ptr 5 := rfl
@[simp] theorem t72_cmp : t72.cmp = false := rfl
/-- struct { Size_ uintptr; PtrBytes uintptr; Hash uint32; TFlag abi.TFlag; Align_ uint8; FieldAlign_ uint8; Kind_ abi.Kind; Equal func(unsafe.Pointer, unsafe.Pointer) bool; GCData *uint8; Str abi.NameOff; PtrToThis abi.TypeOff } -/
def t75 : TI := ⟨11, 48, .agg #[.int .u64 0, .int .u64 0, .int .u32 0, .int .u8 0, .int .u8 0, .int .u8 0, .int .u8 0, .nilFunc, .pointer none, .int .i32 0, .int .i32 0], .agg [.lit (.int .u64 0), .lit (.int .u64 0), .lit (.int .u32 0), .lit (.int .u8 0), .lit (.int .u8 0), .lit (.int .u8 0), .lit (.int .u8 0), .lit .nilFunc, .lit (.pointer none), .lit (.int .i32 0), .lit (.int .i32 0)], .any, .st [(0, 12), (1, 12), (2, 54), (3, 69), (4, 5), (5, 5), (6, 70), (7, 71), (8, 72), (9, 73), (10, 74)], false⟩
@[simp] theorem t75_size : t75.size = 11 := rfl
@[simp] theorem t75_bytes : t75.bytes = 48 := rfl
@[simp] theorem t75_z : t75.z = .agg [.lit (.int .u64 0), .lit (.int .u64 0), .lit (.int .u32 0), .lit (.int .u8 0), .lit (.int .u8 0), .lit (.int .u8 0), .lit (.int .u8 0), .lit .nilFunc, .lit (.pointer none), .lit (.int .i32 0), .lit (.int .i32 0)] := rfl
@[simp] theorem t75_y : t75.y = .any := rfl
@[simp] theorem t75_kind : t75.kind = .st [(0, 12), (1, 12), (2, 54), (3, 69), (4, 5), (5, 5), (6, 70), (7, 71), (8, 72), (9, 73), (10, 74)] := rfl
@[simp] theorem t75_cmp : t75.cmp = false := rfl
theorem t2_ok : t2.ok Tryd.prog 2 := ⟨by kernel_rfl, by kernel_rfl, by kernel_rfl, Tryd.underlying2, (fun h => by cases h), ⟨rfl, rfl, rfl, rfl, fun F h β => by simp [t2, Rep, Reps]⟩⟩
theorem t3_ok : t3.ok Tryd.prog 3 := ⟨by kernel_rfl, by kernel_rfl, by kernel_rfl, Tryd.underlying3, (fun h => by cases h), ⟨rfl, rfl, rfl, rfl, fun F h β => by simp [t3, Rep, Reps]⟩⟩
theorem t4_ok : t4.ok Tryd.prog 4 := ⟨by kernel_rfl, by kernel_rfl, by kernel_rfl, Tryd.underlying4, (fun h => by cases h), ⟨rfl, rfl, rfl, rfl, fun F h β => by simp [t4, Rep, Reps]⟩⟩
theorem t5_ok : t5.ok Tryd.prog 5 := ⟨by kernel_rfl, by kernel_rfl, by kernel_rfl, Tryd.underlying5, (fun h => by cases h), ⟨rfl, rfl, rfl, rfl, fun F h β => by simp [t5, Rep, Reps]⟩⟩
theorem t9_ok : t9.ok Tryd.prog 9 := ⟨by kernel_rfl, by kernel_rfl, by kernel_rfl, Tryd.underlying9, (fun h => by cases h), ⟨rfl, rfl, rfl, rfl, fun F h β => by simp [t9, Rep, Reps]⟩⟩
theorem t12_ok : t12.ok Tryd.prog 12 := ⟨by kernel_rfl, by kernel_rfl, by kernel_rfl, Tryd.underlying12, (fun h => by cases h), ⟨rfl, rfl, rfl, rfl, fun F h β => by simp [t12, Rep, Reps]⟩⟩
theorem t20_ok : t20.ok Tryd.prog 20 := ⟨by kernel_rfl, by kernel_rfl, by kernel_rfl, ⟨_, Tryd.underlying20⟩, (fun h => by cases h), ⟨rfl, rfl, rfl, rfl, fun F h β => by simp [t20, Rep, Reps]⟩⟩
theorem t21_ok : t21.ok Tryd.prog 21 := ⟨by kernel_rfl, by kernel_rfl, by kernel_rfl, Tryd.underlying21, (fun h => by cases h), ⟨rfl, rfl, rfl, rfl, fun F h β => by simp [t21, Rep, Reps]⟩⟩
theorem t22_ok : t22.ok Tryd.prog 22 := ⟨by kernel_rfl, by kernel_rfl, by kernel_rfl, Tryd.underlying22, (fun h => by cases h), ⟨rfl, rfl, rfl, rfl, fun F h β => by simp [t22, Rep, Reps]⟩⟩
theorem t24_ok : t24.ok Tryd.prog 24 := ⟨by kernel_rfl, by kernel_rfl, by kernel_rfl, ⟨_, _, _, Tryd.underlying24⟩, (fun h => by cases h), ⟨rfl, rfl, rfl, rfl, fun F h β => by simp [t24, Rep, Reps]⟩⟩
theorem t25_ok : t25.ok Tryd.prog 25 := ⟨by kernel_rfl, by kernel_rfl, by kernel_rfl, Tryd.underlying25, (fun h => by cases h), ⟨rfl, rfl, rfl, rfl, fun F h β => by simp [t25, Rep, Reps]⟩⟩
theorem t29_ok : t29.ok Tryd.prog 29 := ⟨by kernel_rfl, by kernel_rfl, by kernel_rfl, Tryd.underlying29, (fun h => by cases h), ⟨rfl, rfl, rfl, rfl, fun F h β => by simp [t29, Rep, Reps]⟩⟩
theorem t31_ok : t31.ok Tryd.prog 31 := ⟨by kernel_rfl, by kernel_rfl, by kernel_rfl, ⟨_, Tryd.underlying31, rfl⟩, (fun _ => eqInts_of (by kernel_rfl) (by kernel_rfl) (by kernel_rfl)), ⟨rfl, rfl, rfl, rfl, fun F h β => by simp [t31, Rep, Reps]⟩⟩
theorem t32_ok : t32.ok Tryd.prog 32 := ⟨by kernel_rfl, by kernel_rfl, by kernel_rfl, ⟨_, Tryd.underlying32, rfl⟩, (fun _ => eqInts_of (by kernel_rfl) (by kernel_rfl) (by kernel_rfl)), ⟨rfl, rfl, rfl, rfl, fun F h β => by simp [t32, Rep, Reps]⟩⟩
theorem t36_ok : t36.ok Tryd.prog 36 := ⟨by kernel_rfl, by kernel_rfl, by kernel_rfl, ⟨_, Tryd.underlying36, rfl⟩, (fun _ => eqInts_of (by kernel_rfl) (by kernel_rfl) (by kernel_rfl)), ⟨rfl, rfl, rfl, rfl, fun F h β => by simp [t36, Rep, Reps]⟩⟩
theorem t38_ok : t38.ok Tryd.prog 38 := ⟨by kernel_rfl, by kernel_rfl, by kernel_rfl, Tryd.underlying38, (fun h => by cases h), ⟨rfl, rfl, rfl, rfl, fun F h β => by simp [t38, Rep, Reps]⟩⟩
theorem t43_ok : t43.ok Tryd.prog 43 := ⟨by kernel_rfl, by kernel_rfl, by kernel_rfl, Tryd.underlying43, (fun h => by cases h), ⟨rfl, rfl, rfl, rfl, fun F h β => by simp [t43, Rep, Reps]⟩⟩
theorem t45_ok : t45.ok Tryd.prog 45 := ⟨by kernel_rfl, by kernel_rfl, by kernel_rfl, Tryd.underlying45, (fun h => by cases h), ⟨rfl, rfl, rfl, rfl, fun F h β => by simp [t45, Rep, Reps]⟩⟩
theorem t46_ok : t46.ok Tryd.prog 46 := ⟨by kernel_rfl, by kernel_rfl, by kernel_rfl, Tryd.underlying46, (fun h => by cases h), ⟨rfl, rfl, rfl, rfl, fun F h β => by simp [t46, Rep, Reps]⟩⟩
theorem t53_ok : t53.ok Tryd.prog 53 := ⟨by kernel_rfl, by kernel_rfl, by kernel_rfl, Tryd.underlying53, (fun h => by cases h), ⟨rfl, rfl, rfl, rfl, fun F h β => by simp [t53, Rep, Reps]⟩⟩
theorem t54_ok : t54.ok Tryd.prog 54 := ⟨by kernel_rfl, by kernel_rfl, by kernel_rfl, Tryd.underlying54, (fun h => by cases h), ⟨rfl, rfl, rfl, rfl, fun F h β => by simp [t54, Rep, Reps]⟩⟩
theorem t55_ok : t55.ok Tryd.prog 55 := ⟨by kernel_rfl, by kernel_rfl, by kernel_rfl, Tryd.underlying55, (fun h => by cases h), ⟨rfl, rfl, rfl, rfl, fun F h β => by simp [t55, Rep, Reps]⟩⟩
theorem t57_ok : t57.ok Tryd.prog 57 := ⟨by kernel_rfl, by kernel_rfl, by kernel_rfl, Tryd.underlying57, (fun h => by cases h), ⟨rfl, rfl, rfl, rfl, fun F h β => by simp [t57, Rep, Reps]⟩⟩
theorem t60_ok : t60.ok Tryd.prog 60 := ⟨by kernel_rfl, by kernel_rfl, by kernel_rfl, Tryd.underlying60, (fun h => by cases h), ⟨rfl, rfl, rfl, rfl, fun F h β => by simp [t60, Rep, Reps]⟩⟩
theorem t61_ok : t61.ok Tryd.prog 61 := ⟨by kernel_rfl, by kernel_rfl, by kernel_rfl, Tryd.underlying61, (fun h => by cases h), ⟨rfl, rfl, rfl, rfl, fun F h β => by simp [t61, Rep, Reps]⟩⟩
theorem t71_ok : t71.ok Tryd.prog 71 := ⟨by kernel_rfl, by kernel_rfl, by kernel_rfl, ⟨_, _, _, Tryd.underlying71⟩, (fun h => by cases h), ⟨rfl, rfl, rfl, rfl, fun F h β => by simp [t71, Rep, Reps]⟩⟩
theorem t72_ok : t72.ok Tryd.prog 72 := ⟨by kernel_rfl, by kernel_rfl, by kernel_rfl, Tryd.underlying72, (fun h => by cases h), ⟨rfl, rfl, rfl, rfl, fun F h β => by simp [t72, Rep, Reps]⟩⟩
theorem t75_ok : t75.ok Tryd.prog 75 := ⟨by kernel_rfl, by kernel_rfl, by kernel_rfl, ⟨_, Tryd.underlying75, rfl⟩, (fun h => by cases h), ⟨rfl, rfl, rfl, rfl, fun F h β => by simp [t75, Rep, Reps]⟩⟩
def G : Ctx := [(2, t2), (3, t3), (4, t4), (5, t5), (9, t9), (12, t12), (20, t20), (21, t21), (22, t22), (24, t24), (25, t25), (29, t29), (31, t31), (32, t32), (36, t36), (38, t38), (43, t43), (45, t45), (46, t46), (53, t53), (54, t54), (55, t55), (57, t57), (60, t60), (61, t61), (71, t71), (72, t72), (75, t75)]
@[simp] theorem G_2 : G.get 2 = some t2 := rfl
@[simp] theorem G_3 : G.get 3 = some t3 := rfl
@[simp] theorem G_4 : G.get 4 = some t4 := rfl
@[simp] theorem G_5 : G.get 5 = some t5 := rfl
@[simp] theorem G_9 : G.get 9 = some t9 := rfl
@[simp] theorem G_12 : G.get 12 = some t12 := rfl
@[simp] theorem G_20 : G.get 20 = some t20 := rfl
@[simp] theorem G_21 : G.get 21 = some t21 := rfl
@[simp] theorem G_22 : G.get 22 = some t22 := rfl
@[simp] theorem G_24 : G.get 24 = some t24 := rfl
@[simp] theorem G_25 : G.get 25 = some t25 := rfl
@[simp] theorem G_29 : G.get 29 = some t29 := rfl
@[simp] theorem G_31 : G.get 31 = some t31 := rfl
@[simp] theorem G_32 : G.get 32 = some t32 := rfl
@[simp] theorem G_36 : G.get 36 = some t36 := rfl
@[simp] theorem G_38 : G.get 38 = some t38 := rfl
@[simp] theorem G_43 : G.get 43 = some t43 := rfl
@[simp] theorem G_45 : G.get 45 = some t45 := rfl
@[simp] theorem G_46 : G.get 46 = some t46 := rfl
@[simp] theorem G_53 : G.get 53 = some t53 := rfl
@[simp] theorem G_54 : G.get 54 = some t54 := rfl
@[simp] theorem G_55 : G.get 55 = some t55 := rfl
@[simp] theorem G_57 : G.get 57 = some t57 := rfl
@[simp] theorem G_60 : G.get 60 = some t60 := rfl
@[simp] theorem G_61 : G.get 61 = some t61 := rfl
@[simp] theorem G_71 : G.get 71 = some t71 := rfl
@[simp] theorem G_72 : G.get 72 = some t72 := rfl
@[simp] theorem G_75 : G.get 75 = some t75 := rfl
theorem G_ok : G.ok Tryd.prog := by
  intro p hp
  simp only [G, List.mem_cons, List.not_mem_nil, or_false] at hp
  rcases hp with rfl | rfl | rfl | rfl | rfl | rfl | rfl | rfl | rfl | rfl | rfl | rfl | rfl | rfl | rfl | rfl | rfl | rfl | rfl | rfl | rfl | rfl | rfl | rfl | rfl | rfl | rfl | rfl
  · exact t2_ok
  · exact t3_ok
  · exact t4_ok
  · exact t5_ok
  · exact t9_ok
  · exact t12_ok
  · exact t20_ok
  · exact t21_ok
  · exact t22_ok
  · exact t24_ok
  · exact t25_ok
  · exact t29_ok
  · exact t31_ok
  · exact t32_ok
  · exact t36_ok
  · exact t38_ok
  · exact t43_ok
  · exact t45_ok
  · exact t46_ok
  · exact t53_ok
  · exact t54_ok
  · exact t55_ok
  · exact t57_ok
  · exact t60_ok
  · exact t61_ok
  · exact t71_ok
  · exact t72_ok
  · exact t75_ok
theorem mix : Tryd.prog.follows .mixedOrders = true := by kernel_rfl
end Go.Proofs.YtgpobkdgfmehnaaDoor
