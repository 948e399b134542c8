/- What is known of the types of this program: their sizes, zero values and parts. -/
import Derived.Test.YtobofamoagbacaaDoorProg
import Derived.Test.YtobofamoagbacaaDoorTY
import Derived.KernelRfl
namespace Go.Proofs.YtobofamoagbacaaDoor
open Go Go.Eng
set_option linter.unusedSimpArgs false
set_option linter.unusedVariables false
set_option maxRecDepth 20000
/-- int64 -/
def t2 : TI := ⟨1, 8, .int .i64 0, .lit (.int .i64 0), .lit (.int .i64 0), .int .i64, false⟩
@[simp] theorem t2_size : t2.size = 1 := rfl
@[simp] theorem t2_bytes : t2.bytes = 8 := rfl
@[simp] theorem t2_z : t2.z = .lit (.int .i64 0) := rfl
@[simp] theorem t2_y : t2.y = .lit (.int .i64 0) := rfl
@[simp] theorem t2_kind : t2.kind = .int .i64 := rfl
@[simp] theorem t2_cmp : t2.cmp = false := rfl
/-- int -/
def t3 : TI := ⟨1, 8, .int .i64 0, .lit (.int .i64 0), .lit (.int .i64 0), .int .i64, false⟩
@[simp] theorem t3_size : t3.size = 1 := rfl
@[simp] theorem t3_bytes : t3.bytes = 8 := rfl
@[simp] theorem t3_z : t3.z = .lit (.int .i64 0) := rfl
@[simp] theorem t3_y : t3.y = .lit (.int .i64 0) := rfl
@[simp] theorem t3_kind : t3.kind = .int .i64 := rfl
@[simp] theorem t3_cmp : t3.cmp = false := rfl
/-- bool -/
def t4 : TI := ⟨1, 1, .bool false, .lit (.bool false), .lit (.bool false), .bool, false⟩
@[simp] theorem t4_size : t4.size = 1 := rfl
@[simp] theorem t4_bytes : t4.bytes = 1 := rfl
@[simp] theorem t4_z : t4.z = .lit (.bool false) := rfl
@[simp] theorem t4_y : t4.y = .lit (.bool false) := rfl
@[simp] theorem t4_kind : t4.kind = .bool := rfl
@[simp] theorem t4_cmp : t4.cmp = false := rfl
/-- uint8 -/
def t5 : TI := ⟨1, 1, .int .u8 0, .lit (.int .u8 0), .lit (.int .u8 0), .int .u8, false⟩
@[simp] theorem t5_size : t5.size = 1 := rfl
@[simp] theorem t5_bytes : t5.bytes = 1 := rfl
@[simp] theorem t5_z : t5.z = .lit (.int .u8 0) := rfl
@[simp] theorem t5_y : t5.y = .lit (.int .u8 0) := rfl
@[simp] theorem t5_kind : t5.kind = .int .u8 := rfl
@[simp] theorem t5_cmp : t5.cmp = false := rfl
/-- string -/
def t9 : TI := ⟨1, 16, .string ⟨#[]⟩, .lit (.string ⟨#[]⟩), .lit (.string ⟨#[]⟩), .str, false⟩
@[simp] theorem t9_size : t9.size = 1 := rfl
@[simp] theorem t9_bytes : t9.bytes = 16 := rfl
@[simp] theorem t9_z : t9.z = .lit (.string ⟨#[]⟩) := rfl
@[simp] theorem t9_y : t9.y = .lit (.string ⟨#[]⟩) := rfl
@[simp] theorem t9_kind : t9.kind = .str := rfl
@[simp] theorem t9_cmp : t9.cmp = false := rfl
/-- uintptr -/
def t12 : TI := ⟨1, 8, .int .u64 0, .lit (.int .u64 0), .lit (.int .u64 0), .int .u64, false⟩
@[simp] theorem t12_size : t12.size = 1 := rfl
@[simp] theorem t12_bytes : t12.bytes = 8 := rfl
@[simp] theorem t12_z : t12.z = .lit (.int .u64 0) := rfl
@[simp] theorem t12_y : t12.y = .lit (.int .u64 0) := rfl
@[simp] theorem t12_kind : t12.kind = .int .u64 := rfl
@[simp] theorem t12_cmp : t12.cmp = false := rfl
/-- interface {} -/
def t20 : TI := ⟨1, 16, .nilIface, .lit .nilIface, .lit .nilIface, .iface, false⟩
@[simp] theorem t20_size : t20.size = 1 := rfl
@[simp] theorem t20_bytes : t20.bytes = 16 := rfl
@[simp] theorem t20_z : t20.z = .lit .nilIface := rfl
@[simp] theorem t20_y : t20.y = .lit .nilIface := rfl
@[simp] theorem t20_kind : t20.kind = .iface := rfl
@[simp] theorem t20_cmp : t20.cmp = false := rfl
/-- int32 -/
def t21 : TI := ⟨1, 4, .int .i32 0, .lit (.int .i32 0), .lit (.int .i32 0), .int .i32, false⟩
@[simp] theorem t21_size : t21.size = 1 := rfl
@[simp] theorem t21_bytes : t21.bytes = 4 := rfl
@[simp] theorem t21_z : t21.z = .lit (.int .i32 0) := rfl
@[simp] theorem t21_y : t21.y = .lit (.int .i32 0) := rfl
@[simp] theorem t21_kind : t21.kind = .int .i32 := rfl
@[simp] theorem t21_cmp : t21.cmp = false := rfl
/-- struct { Id int; Kind int; Colour int; Size int; Worth int } -/
def t24 : TI := ⟨5, 40, .agg #[.int .i64 0, .int .i64 0, .int .i64 0, .int .i64 0, .int .i64 0], .agg [.lit (.int .i64 0), .lit (.int .i64 0), .lit (.int .i64 0), .lit (.int .i64 0), .lit (.int .i64 0)], yTThing, .st [(0, 3), (1, 3), (2, 3), (3, 3), (4, 3)], true⟩
@[simp] theorem t24_size : t24.size = 5 := rfl
@[simp] theorem t24_bytes : t24.bytes = 40 := rfl
@[simp] theorem t24_z : t24.z = .agg [.lit (.int .i64 0), .lit (.int .i64 0), .lit (.int .i64 0), .lit (.int .i64 0), .lit (.int .i64 0)] := rfl
@[simp] theorem t24_y : t24.y = yTThing := rfl
@[simp] theorem t24_kind : t24.kind = .st [(0, 3), (1, 3), (2, 3), (3, 3), (4, 3)] := rfl
@[simp] theorem t24_cmp : t24.cmp = true := rfl
/-- laws.Thing = loop.example/g03007/laws.Thing -/
def t25 : TI := ⟨5, 40, .agg #[.int .i64 0, .int .i64 0, .int .i64 0, .int .i64 0, .int .i64 0], .agg [.lit (.int .i64 0), .lit (.int .i64 0), .lit (.int .i64 0), .lit (.int .i64 0), .lit (.int .i64 0)], yTThing, .st [(0, 3), (1, 3), (2, 3), (3, 3), (4, 3)], true⟩
@[simp] theorem t25_size : t25.size = 5 := rfl
@[simp] theorem t25_bytes : t25.bytes = 40 := rfl
@[simp] theorem t25_z : t25.z = .agg [.lit (.int .i64 0), .lit (.int .i64 0), .lit (.int .i64 0), .lit (.int .i64 0), .lit (.int .i64 0)] := rfl
@[simp] theorem t25_y : t25.y = yTThing := rfl
@[simp] theorem t25_kind : t25.kind = .st [(0, 3), (1, 3), (2, 3), (3, 3), (4, 3)] := rfl
@[simp] theorem t25_cmp : t25.cmp = true := rfl
/-- struct { Thing laws.Thing; Place int; At int; Finder int } -/
def t26 : TI := ⟨8, 64, .agg #[.int .i64 0, .int .i64 0, .int .i64 0, .int .i64 0, .int .i64 0, .int .i64 0, .int .i64 0, .int .i64 0], .agg [.lit (.int .i64 0), .lit (.int .i64 0), .lit (.int .i64 0), .lit (.int .i64 0), .lit (.int .i64 0), .lit (.int .i64 0), .lit (.int .i64 0), .lit (.int .i64 0)], yTFind, .st [(0, 25), (5, 3), (6, 3), (7, 3)], true⟩
@[simp] theorem t26_size : t26.size = 8 := rfl
@[simp] theorem t26_bytes : t26.bytes = 64 := rfl
@[simp] theorem t26_z : t26.z = .agg [.lit (.int .i64 0), .lit (.int .i64 0), .lit (.int .i64 0), .lit (.int .i64 0), .lit (.int .i64 0), .lit (.int .i64 0), .lit (.int .i64 0), .lit (.int .i64 0)] := rfl
@[simp] theorem t26_y : t26.y = yTFind := rfl
@[simp] theorem t26_kind : t26.kind = .st [(0, 25), (5, 3), (6, 3), (7, 3)] := rfl
@[simp] theorem t26_cmp : t26.cmp = true := rfl
/-- laws.Find = loop.example/g03007/laws.Find -/
def t27 : TI := ⟨8, 64, .agg #[.int .i64 0, .int .i64 0, .int .i64 0, .int .i64 0, .int .i64 0, .int .i64 0, .int .i64 0, .int .i64 0], .agg [.lit (.int .i64 0), .lit (.int .i64 0), .lit (.int .i64 0), .lit (.int .i64 0), .lit (.int .i64 0), .lit (.int .i64 0), .lit (.int .i64 0), .lit (.int .i64 0)], yTFind, .st [(0, 25), (5, 3), (6, 3), (7, 3)], true⟩
@[simp] theorem t27_size : t27.size = 8 := rfl
@[simp] theorem t27_bytes : t27.bytes = 64 := rfl
@[simp] theorem t27_z : t27.z = .agg [.lit (.int .i64 0), .lit (.int .i64 0), .lit (.int .i64 0), .lit (.int .i64 0), .lit (.int .i64 0), .lit (.int .i64 0), .lit (.int .i64 0), .lit (.int .i64 0)] := rfl
@[simp] theorem t27_y : t27.y = yTFind := rfl
@[simp] theorem t27_kind : t27.kind = .st [(0, 25), (5, 3), (6, 3), (7, 3)] := rfl
@[simp] theorem t27_cmp : t27.cmp = true := rfl
/-- impl.Thing = loop.example/g03007/impl.Thing -/
def t29 : TI := ⟨5, 40, .agg #[.int .i64 0, .int .i64 0, .int .i64 0, .int .i64 0, .int .i64 0], .agg [.lit (.int .i64 0), .lit (.int .i64 0), .lit (.int .i64 0), .lit (.int .i64 0), .lit (.int .i64 0)], yTThing, .st [(0, 3), (1, 3), (2, 3), (3, 3), (4, 3)], true⟩
@[simp] theorem t29_size : t29.size = 5 := rfl
@[simp] theorem t29_bytes : t29.bytes = 40 := rfl
@[simp] theorem t29_z : t29.z = .agg [.lit (.int .i64 0), .lit (.int .i64 0), .lit (.int .i64 0), .lit (.int .i64 0), .lit (.int .i64 0)] := rfl
@[simp] theorem t29_y : t29.y = yTThing := rfl
@[simp] theorem t29_kind : t29.kind = .st [(0, 3), (1, 3), (2, 3), (3, 3), (4, 3)] := rfl
@[simp] theorem t29_cmp : t29.cmp = true := rfl
/-- struct { Thing impl.Thing; Place int; At int; Finder int } -/
def t30 : TI := ⟨8, 64, .agg #[.int .i64 0, .int .i64 0, .int .i64 0, .int .i64 0, .int .i64 0, .int .i64 0, .int .i64 0, .int .i64 0], .agg [.lit (.int .i64 0), .lit (.int .i64 0), .lit (.int .i64 0), .lit (.int .i64 0), .lit (.int .i64 0), .lit (.int .i64 0), .lit (.int .i64 0), .lit (.int .i64 0)], yTFind, .st [(0, 29), (5, 3), (6, 3), (7, 3)], true⟩
@[simp] theorem t30_size : t30.size = 8 := rfl
@[simp] theorem t30_bytes : t30.bytes = 64 := rfl
@[simp] theorem t30_z : t30.z = .agg [.lit (.int .i64 0), .lit (.int .i64 0), .lit (.int .i64 0), .lit (.int .i64 0), .lit (.int .i64 0), .lit (.int .i64 0), .lit (.int .i64 0), .lit (.int .i64 0)] := rfl
@[simp] theorem t30_y : t30.y = yTFind := rfl
@[simp] theorem t30_kind : t30.kind = .st [(0, 29), (5, 3), (6, 3), (7, 3)] := rfl
@[simp] theorem t30_cmp : t30.cmp = true := rfl
/-- impl.Find = loop.example/g03007/impl.Find -/
def t31 : TI := ⟨8, 64, .agg #[.int .i64 0, .int .i64 0, .int .i64 0, .int .i64 0, .int .i64 0, .int .i64 0, .int .i64 0, .int .i64 0], .agg [.lit (.int .i64 0), .lit (.int .i64 0), .lit (.int .i64 0), .lit (.int .i64 0), .lit (.int .i64 0), .lit (.int .i64 0), .lit (.int .i64 0), .lit (.int .i64 0)], yTFind, .st [(0, 29), (5, 3), (6, 3), (7, 3)], true⟩
@[simp] theorem t31_size : t31.size = 8 := rfl
@[simp] theorem t31_bytes : t31.bytes = 64 := rfl
@[simp] theorem t31_z : t31.z = .agg [.lit (.int .i64 0), .lit (.int .i64 0), .lit (.int .i64 0), .lit (.int .i64 0), .lit (.int .i64 0), .lit (.int .i64 0), .lit (.int .i64 0), .lit (.int .i64 0)] := rfl
@[simp] theorem t31_y : t31.y = yTFind := rfl
@[simp] theorem t31_kind : t31.kind = .st [(0, 29), (5, 3), (6, 3), (7, 3)] := rfl
@[simp] theorem t31_cmp : t31.cmp = true := rfl
/-- []laws.Find -/
def t36 : TI := ⟨1, 24, .slice none 0 0, .sl true 0 .any [], yLTFind, .slice 27, false⟩
@[simp] theorem t36_size : t36.size = 1 := rfl
@[simp] theorem t36_bytes : t36.bytes = 24 := rfl
@[simp] theorem t36_z : t36.z = .sl true 0 .any [] := rfl
@[simp] theorem t36_y : t36.y = yLTFind := rfl
@[simp] theorem t36_kind : t36.kind = .slice 27 := rfl
@[simp] theorem t36_cmp : t36.cmp = false := rfl
/-- []int -/
def t38 : TI := ⟨1, 24, .slice none 0 0, .sl true 0 .any [], yLI, .slice 3, false⟩
@[simp] theorem t38_size : t38.size = 1 := rfl
@[simp] theorem t38_bytes : t38.bytes = 24 := rfl
@[simp] theorem t38_z : t38.z = .sl true 0 .any [] := rfl
@[simp] theorem t38_y : t38.y = yLI := rfl
@[simp] theorem t38_kind : t38.kind = .slice 3 := rfl
@[simp] theorem t38_cmp : t38.cmp = false := rfl
/-- []impl.Find -/
def t40 : TI := ⟨1, 24, .slice none 0 0, .sl true 0 .any [], yLTFind, .slice 31, false⟩
@[simp] theorem t40_size : t40.size = 1 := rfl
@[simp] theorem t40_bytes : t40.bytes = 24 := rfl
@[simp] theorem t40_z : t40.z = .sl true 0 .any [] := rfl
@[simp] theorem t40_y : t40.y = yLTFind := rfl
@[simp] theorem t40_kind : t40.kind = .slice 31 := rfl
@[simp] theorem t40_cmp : t40.cmp = false := rfl
/-- []laws.Claim -/
def t48 : TI := ⟨1, 24, .slice none 0 0, .sl true 0 .any [], yLTClaim, .slice 91, false⟩
@[simp] theorem t48_size : t48.size = 1 := rfl
@[simp] theorem t48_bytes : t48.bytes = 24 := rfl
@[simp] theorem t48_z : t48.z = .sl true 0 .any [] := rfl
@[simp] theorem t48_y : t48.y = yLTClaim := rfl
@[simp] theorem t48_kind : t48.kind = .slice 91 := rfl
@[simp] theorem t48_cmp : t48.cmp = false := rfl
/-- []impl.Claim -/
def t51 : TI := ⟨1, 24, .slice none 0 0, .sl true 0 .any [], yLTClaim, .slice 89, false⟩
@[simp] theorem t51_size : t51.size = 1 := rfl
@[simp] theorem t51_bytes : t51.bytes = 24 := rfl
@[simp] theorem t51_z : t51.z = .sl true 0 .any [] := rfl
@[simp] theorem t51_y : t51.y = yLTClaim := rfl
@[simp] theorem t51_kind : t51.kind = .slice 89 := rfl
@[simp] theorem t51_cmp : t51.cmp = false := rfl
/-- func(impl.Find, []impl.Claim, int) bool -/
def t55 : TI := ⟨1, 8, .nilFunc, .lit .nilFunc, .lit .nilFunc, .func, false⟩
@[simp] theorem t55_size : t55.size = 1 := rfl
@[simp] theorem t55_bytes : t55.bytes = 8 := rfl
@[simp] theorem t55_z : t55.z = .lit .nilFunc := rfl
@[simp] theorem t55_y : t55.y = .lit .nilFunc := rfl
@[simp] theorem t55_kind : t55.kind = .func := rfl
@[simp] theorem t55_cmp : t55.cmp = false := rfl
/-- []bool -/
def t59 : TI := ⟨1, 24, .slice none 0 0, .sl true 0 .any [], yLB, .slice 4, false⟩
@[simp] theorem t59_size : t59.size = 1 := rfl
@[simp] theorem t59_bytes : t59.bytes = 24 := rfl
@[simp] theorem t59_z : t59.z = .sl true 0 .any [] := rfl
@[simp] theorem t59_y : t59.y = yLB := rfl
@[simp] theorem t59_kind : t59.kind = .slice 4 := rfl
@[simp] theorem t59_cmp : t59.cmp = false := rfl
/-- struct { Thing int; Fate int; Day int } -/
def t64 : TI := ⟨3, 24, .agg #[.int .i64 0, .int .i64 0, .int .i64 0], .agg [.lit (.int .i64 0), .lit (.int .i64 0), .lit (.int .i64 0)], yTTask, .st [(0, 3), (1, 3), (2, 3)], true⟩
@[simp] theorem t64_size : t64.size = 3 := rfl
@[simp] theorem t64_bytes : t64.bytes = 24 := rfl
@[simp] theorem t64_z : t64.z = .agg [.lit (.int .i64 0), .lit (.int .i64 0), .lit (.int .i64 0)] := rfl
@[simp] theorem t64_y : t64.y = yTTask := rfl
@[simp] theorem t64_kind : t64.kind = .st [(0, 3), (1, 3), (2, 3)] := rfl
@[simp] theorem t64_cmp : t64.cmp = true := rfl
/-- impl.Task = loop.example/g03007/impl.Task -/
def t65 : TI := ⟨3, 24, .agg #[.int .i64 0, .int .i64 0, .int .i64 0], .agg [.lit (.int .i64 0), .lit (.int .i64 0), .lit (.int .i64 0)], yTTask, .st [(0, 3), (1, 3), (2, 3)], true⟩
@[simp] theorem t65_size : t65.size = 3 := rfl
@[simp] theorem t65_bytes : t65.bytes = 24 := rfl
@[simp] theorem t65_z : t65.z = .agg [.lit (.int .i64 0), .lit (.int .i64 0), .lit (.int .i64 0)] := rfl
@[simp] theorem t65_y : t65.y = yTTask := rfl
@[simp] theorem t65_kind : t65.kind = .st [(0, 3), (1, 3), (2, 3)] := rfl
@[simp] theorem t65_cmp : t65.cmp = true := rfl
/-- []laws.Secret -/
def t69 : TI := ⟨1, 24, .slice none 0 0, .sl true 0 .any [], yLTSecret, .slice 102, false⟩
@[simp] theorem t69_size : t69.size = 1 := rfl
@[simp] theorem t69_bytes : t69.bytes = 24 := rfl
@[simp] theorem t69_z : t69.z = .sl true 0 .any [] := rfl
@[simp] theorem t69_y : t69.y = yLTSecret := rfl
@[simp] theorem t69_kind : t69.kind = .slice 102 := rfl
@[simp] theorem t69_cmp : t69.cmp = false := rfl
/-- []impl.Mark -/
def t71 : TI := ⟨1, 24, .slice none 0 0, .sl true 0 .any [], yLTMark, .slice 113, false⟩
@[simp] theorem t71_size : t71.size = 1 := rfl
@[simp] theorem t71_bytes : t71.bytes = 24 := rfl
@[simp] theorem t71_z : t71.z = .sl true 0 .any [] := rfl
@[simp] theorem t71_y : t71.y = yLTMark := rfl
@[simp] theorem t71_kind : t71.kind = .slice 113 := rfl
@[simp] theorem t71_cmp : t71.cmp = false := rfl
/-- []impl.Secret -/
def t73 : TI := ⟨1, 24, .slice none 0 0, .sl true 0 .any [], yLTSecret, .slice 104, false⟩
@[simp] theorem t73_size : t73.size = 1 := rfl
@[simp] theorem t73_bytes : t73.bytes = 24 := rfl
@[simp] theorem t73_z : t73.z = .sl true 0 .any [] := rfl
@[simp] theorem t73_y : t73.y = yLTSecret := rfl
@[simp] theorem t73_kind : t73.kind = .slice 104 := rfl
@[simp] theorem t73_cmp : t73.cmp = false := rfl
/-- [9]int -/
def t81 : TI := ⟨9, 72, .agg #[.int .i64 0, .int .i64 0, .int .i64 0, .int .i64 0, .int .i64 0, .int .i64 0, .int .i64 0, .int .i64 0, .int .i64 0], .agg [.lit (.int .i64 0), .lit (.int .i64 0), .lit (.int .i64 0), .lit (.int .i64 0), .lit (.int .i64 0), .lit (.int .i64 0), .lit (.int .i64 0), .lit (.int .i64 0), .lit (.int .i64 0)], .any, .arr 9 3, false⟩
@[simp] theorem t81_size : t81.size = 9 := rfl
@[simp] theorem t81_bytes : t81.bytes = 72 := rfl
@[simp] theorem t81_z : t81.z = .agg [.lit (.int .i64 0), .lit (.int .i64 0), .lit (.int .i64 0), .lit (.int .i64 0), .lit (.int .i64 0), .lit (.int .i64 0), .lit (.int .i64 0), .lit (.int .i64 0), .lit (.int .i64 0)] := rfl
@[simp] theorem t81_y : t81.y = .any := rfl
@[simp] theorem t81_kind : t81.kind = .arr 9 3 := rfl
@[simp] theorem t81_cmp : t81.cmp = false := rfl
/-- func(impl.Find) bool -/
def t82 : TI := ⟨1, 8, .nilFunc, .lit .nilFunc, .lit .nilFunc, .func, false⟩
@[simp] theorem t82_size : t82.size = 1 := rfl
@[simp] theorem t82_bytes : t82.bytes = 8 := rfl
@[simp] theorem t82_z : t82.z = .lit .nilFunc := rfl
@[simp] theorem t82_y : t82.y = .lit .nilFunc := rfl
@[simp] theorem t82_kind : t82.kind = .func := rfl
@[simp] theorem t82_cmp : t82.cmp = false := rfl
/-- struct { Id int; Who int; Thing int; At int; State int } -/
def t88 : TI := ⟨5, 40, .agg #[.int .i64 0, .int .i64 0, .int .i64 0, .int .i64 0, .int .i64 0], .agg [.lit (.int .i64 0), .lit (.int .i64 0), .lit (.int .i64 0), .lit (.int .i64 0), .lit (.int .i64 0)], yTClaim, .st [(0, 3), (1, 3), (2, 3), (3, 3), (4, 3)], true⟩
@[simp] theorem t88_size : t88.size = 5 := rfl
@[simp] theorem t88_bytes : t88.bytes = 40 := rfl
@[simp] theorem t88_z : t88.z = .agg [.lit (.int .i64 0), .lit (.int .i64 0), .lit (.int .i64 0), .lit (.int .i64 0), .lit (.int .i64 0)] := rfl
@[simp] theorem t88_y : t88.y = yTClaim := rfl
@[simp] theorem t88_kind : t88.kind = .st [(0, 3), (1, 3), (2, 3), (3, 3), (4, 3)] := rfl
@[simp] theorem t88_cmp : t88.cmp = true := rfl
/-- impl.Claim = loop.example/g03007/impl.Claim -/
def t89 : TI := ⟨5, 40, .agg #[.int .i64 0, .int .i64 0, .int .i64 0, .int .i64 0, .int .i64 0], .agg [.lit (.int .i64 0), .lit (.int .i64 0), .lit (.int .i64 0), .lit (.int .i64 0), .lit (.int .i64 0)], yTClaim, .st [(0, 3), (1, 3), (2, 3), (3, 3), (4, 3)], true⟩
@[simp] theorem t89_size : t89.size = 5 := rfl
@[simp] theorem t89_bytes : t89.bytes = 40 := rfl
@[simp] theorem t89_z : t89.z = .agg [.lit (.int .i64 0), .lit (.int .i64 0), .lit (.int .i64 0), .lit (.int .i64 0), .lit (.int .i64 0)] := rfl
@[simp] theorem t89_y : t89.y = yTClaim := rfl
@[simp] theorem t89_kind : t89.kind = .st [(0, 3), (1, 3), (2, 3), (3, 3), (4, 3)] := rfl
@[simp] theorem t89_cmp : t89.cmp = true := rfl
/-- laws.Claim = loop.example/g03007/laws.Claim -/
def t91 : TI := ⟨5, 40, .agg #[.int .i64 0, .int .i64 0, .int .i64 0, .int .i64 0, .int .i64 0], .agg [.lit (.int .i64 0), .lit (.int .i64 0), .lit (.int .i64 0), .lit (.int .i64 0), .lit (.int .i64 0)], yTClaim, .st [(0, 3), (1, 3), (2, 3), (3, 3), (4, 3)], true⟩
@[simp] theorem t91_size : t91.size = 5 := rfl
@[simp] theorem t91_bytes : t91.bytes = 40 := rfl
@[simp] theorem t91_z : t91.z = .agg [.lit (.int .i64 0), .lit (.int .i64 0), .lit (.int .i64 0), .lit (.int .i64 0), .lit (.int .i64 0)] := rfl
@[simp] theorem t91_y : t91.y = yTClaim := rfl
@[simp] theorem t91_kind : t91.kind = .st [(0, 3), (1, 3), (2, 3), (3, 3), (4, 3)] := rfl
@[simp] theorem t91_cmp : t91.cmp = true := rfl
/-- []impl.fateRule -/
def t93 : TI := ⟨1, 24, .slice none 0 0, .sl true 0 .any [], .any, .slice 96, false⟩
@[simp] theorem t93_size : t93.size = 1 := rfl
@[simp] theorem t93_bytes : t93.bytes = 24 := rfl
@[simp] theorem t93_z : t93.z = .sl true 0 .any [] := rfl
@[simp] theorem t93_y : t93.y = .any := rfl
@[simp] theorem t93_kind : t93.kind = .slice 96 := rfl
@[simp] theorem t93_cmp : t93.cmp = false := rfl
/-- struct { fate int; isFor func(impl.Find, []impl.Claim, int) bool } -/
def t95 : TI := ⟨2, 16, .agg #[.int .i64 0, .nilFunc], .agg [.lit (.int .i64 0), .lit .nilFunc], .any, .st [(0, 3), (1, 55)], false⟩
@[simp] theorem t95_size : t95.size = 2 := rfl
@[simp] theorem t95_bytes : t95.bytes = 16 := rfl
@[simp] theorem t95_z : t95.z = .agg [.lit (.int .i64 0), .lit .nilFunc] := rfl
@[simp] theorem t95_y : t95.y = .any := rfl
@[simp] theorem t95_kind : t95.kind = .st [(0, 3), (1, 55)] := rfl
@[simp] theorem t95_cmp : t95.cmp = false := rfl
/-- impl.fateRule = loop.example/g03007/impl.fateRule -/
def t96 : TI := ⟨2, 16, .agg #[.int .i64 0, .nilFunc], .agg [.lit (.int .i64 0), .lit .nilFunc], .any, .st [(0, 3), (1, 55)], false⟩
@[simp] theorem t96_size : t96.size = 2 := rfl
@[simp] theorem t96_bytes : t96.bytes = 16 := rfl
@[simp] theorem t96_z : t96.z = .agg [.lit (.int .i64 0), .lit .nilFunc] := rfl
@[simp] theorem t96_y : t96.y = .any := rfl
@[simp] theorem t96_kind : t96.kind = .st [(0, 3), (1, 55)] := rfl
@[simp] theorem t96_cmp : t96.cmp = false := rfl
/-- []laws.Mark -/
def t100 : TI := ⟨1, 24, .slice none 0 0, .sl true 0 .any [], yLTMark, .slice 144, false⟩
@[simp] theorem t100_size : t100.size = 1 := rfl
@[simp] theorem t100_bytes : t100.bytes = 24 := rfl
@[simp] theorem t100_z : t100.z = .sl true 0 .any [] := rfl
@[simp] theorem t100_y : t100.y = yLTMark := rfl
@[simp] theorem t100_kind : t100.kind = .slice 144 := rfl
@[simp] theorem t100_cmp : t100.cmp = false := rfl
/-- struct { Thing int; Marks []laws.Mark; Salt int } -/
def t101 : TI := ⟨3, 40, .agg #[.int .i64 0, .slice none 0 0, .int .i64 0], .agg [.lit (.int .i64 0), .sl true 0 .any [], .lit (.int .i64 0)], yTSecret, .st [(0, 3), (1, 100), (2, 3)], false⟩
@[simp] theorem t101_size : t101.size = 3 := rfl
@[simp] theorem t101_bytes : t101.bytes = 40 := rfl
@[simp] theorem t101_z : t101.z = .agg [.lit (.int .i64 0), .sl true 0 .any [], .lit (.int .i64 0)] := rfl
@[simp] theorem t101_y : t101.y = yTSecret := rfl
@[simp] theorem t101_kind : t101.kind = .st [(0, 3), (1, 100), (2, 3)] := rfl
@[simp] theorem t101_cmp : t101.cmp = false := rfl
/-- laws.Secret = loop.example/g03007/laws.Secret -/
def t102 : TI := ⟨3, 40, .agg #[.int .i64 0, .slice none 0 0, .int .i64 0], .agg [.lit (.int .i64 0), .sl true 0 .any [], .lit (.int .i64 0)], yTSecret, .st [(0, 3), (1, 100), (2, 3)], false⟩
@[simp] theorem t102_size : t102.size = 3 := rfl
@[simp] theorem t102_bytes : t102.bytes = 40 := rfl
@[simp] theorem t102_z : t102.z = .agg [.lit (.int .i64 0), .sl true 0 .any [], .lit (.int .i64 0)] := rfl
@[simp] theorem t102_y : t102.y = yTSecret := rfl
@[simp] theorem t102_kind : t102.kind = .st [(0, 3), (1, 100), (2, 3)] := rfl
@[simp] theorem t102_cmp : t102.cmp = false := rfl
/-- struct { Thing int; Marks []impl.Mark; Salt int } -/
def t103 : TI := ⟨3, 40, .agg #[.int .i64 0, .slice none 0 0, .int .i64 0], .agg [.lit (.int .i64 0), .sl true 0 .any [], .lit (.int .i64 0)], yTSecret, .st [(0, 3), (1, 71), (2, 3)], false⟩
@[simp] theorem t103_size : t103.size = 3 := rfl
@[simp] theorem t103_bytes : t103.bytes = 40 := rfl
@[simp] theorem t103_z : t103.z = .agg [.lit (.int .i64 0), .sl true 0 .any [], .lit (.int .i64 0)] := rfl
@[simp] theorem t103_y : t103.y = yTSecret := rfl
@[simp] theorem t103_kind : t103.kind = .st [(0, 3), (1, 71), (2, 3)] := rfl
@[simp] theorem t103_cmp : t103.cmp = false := rfl
/-- impl.Secret = loop.example/g03007/impl.Secret -/
def t104 : TI := ⟨3, 40, .agg #[.int .i64 0, .slice none 0 0, .int .i64 0], .agg [.lit (.int .i64 0), .sl true 0 .any [], .lit (.int .i64 0)], yTSecret, .st [(0, 3), (1, 71), (2, 3)], false⟩
@[simp] theorem t104_size : t104.size = 3 := rfl
@[simp] theorem t104_bytes : t104.bytes = 40 := rfl
@[simp] theorem t104_z : t104.z = .agg [.lit (.int .i64 0), .sl true 0 .any [], .lit (.int .i64 0)] := rfl
@[simp] theorem t104_y : t104.y = yTSecret := rfl
@[simp] theorem t104_kind : t104.kind = .st [(0, 3), (1, 71), (2, 3)] := rfl
@[simp] theorem t104_cmp : t104.cmp = false := rfl
/-- interface { Error() string } -/
def t106 : TI := ⟨1, 16, .nilIface, .lit .nilIface, .lit .nilIface, .iface, false⟩
@[simp] theorem t106_size : t106.size = 1 := rfl
@[simp] theorem t106_bytes : t106.bytes = 16 := rfl
@[simp] theorem t106_z : t106.z = .lit .nilIface := rfl
@[simp] theorem t106_y : t106.y = .lit .nilIface := rfl
@[simp] theorem t106_kind : t106.kind = .iface := rfl
@[simp] theorem t106_cmp : t106.cmp = false := rfl
/-- error -/
def t107 : TI := ⟨1, 16, .nilIface, .lit .nilIface, .lit .nilIface, .iface, false⟩
@[simp] theorem t107_size : t107.size = 1 := rfl
@[simp] theorem t107_bytes : t107.bytes = 16 := rfl
@[simp] theorem t107_z : t107.z = .lit .nilIface := rfl
@[simp] theorem t107_y : t107.y = .lit .nilIface := rfl
@[simp] theorem t107_kind : t107.kind = .iface := rfl
@[simp] theorem t107_cmp : t107.cmp = false := rfl
/-- struct { Question int; Answer int } -/
def t112 : TI := ⟨2, 16, .agg #[.int .i64 0, .int .i64 0], .agg [.lit (.int .i64 0), .lit (.int .i64 0)], yTMark, .st [(0, 3), (1, 3)], true⟩
@[simp] theorem t112_size : t112.size = 2 := rfl
@[simp] theorem t112_bytes : t112.bytes = 16 := rfl
@[simp] theorem t112_z : t112.z = .agg [.lit (.int .i64 0), .lit (.int .i64 0)] := rfl
@[simp] theorem t112_y : t112.y = yTMark := rfl
@[simp] theorem t112_kind : t112.kind = .st [(0, 3), (1, 3)] := rfl
@[simp] theorem t112_cmp : t112.cmp = true := rfl
/-- impl.Mark = loop.example/g03007/impl.Mark -/
def t113 : TI := ⟨2, 16, .agg #[.int .i64 0, .int .i64 0], .agg [.lit (.int .i64 0), .lit (.int .i64 0)], yTMark, .st [(0, 3), (1, 3)], true⟩
@[simp] theorem t113_size : t113.size = 2 := rfl
@[simp] theorem t113_bytes : t113.bytes = 16 := rfl
@[simp] theorem t113_z : t113.z = .agg [.lit (.int .i64 0), .lit (.int .i64 0)] := rfl
@[simp] theorem t113_y : t113.y = yTMark := rfl
@[simp] theorem t113_kind : t113.kind = .st [(0, 3), (1, 3)] := rfl
@[simp] theorem t113_cmp : t113.cmp = true := rfl
/-- struct { impl.Secret } -/
def t116 : TI := ⟨3, 40, .agg #[.int .i64 0, .slice none 0 0, .int .i64 0], .agg [.lit (.int .i64 0), .sl true 0 .any [], .lit (.int .i64 0)], yTSealedSecret, .st [(0, 104)], false⟩
@[simp] theorem t116_size : t116.size = 3 := rfl
@[simp] theorem t116_bytes : t116.bytes = 40 := rfl
@[simp] theorem t116_z : t116.z = .agg [.lit (.int .i64 0), .sl true 0 .any [], .lit (.int .i64 0)] := rfl
@[simp] theorem t116_y : t116.y = yTSealedSecret := rfl
@[simp] theorem t116_kind : t116.kind = .st [(0, 104)] := rfl
@[simp] theorem t116_cmp : t116.cmp = false := rfl
/-- impl.sealedSecret = loop.example/g03007/impl.sealedSecret -/
def t117 : TI := ⟨3, 40, .agg #[.int .i64 0, .slice none 0 0, .int .i64 0], .agg [.lit (.int .i64 0), .sl true 0 .any [], .lit (.int .i64 0)], yTSealedSecret, .st [(0, 104)], false⟩
@[simp] theorem t117_size : t117.size = 3 := rfl
@[simp] theorem t117_bytes : t117.bytes = 40 := rfl
@[simp] theorem t117_z : t117.z = .agg [.lit (.int .i64 0), .sl true 0 .any [], .lit (.int .i64 0)] := rfl
@[simp] theorem t117_y : t117.y = yTSealedSecret := rfl
@[simp] theorem t117_kind : t117.kind = .st [(0, 104)] := rfl
@[simp] theorem t117_cmp : t117.cmp = false := rfl
/-- [4]func(impl.Find) bool -/
def t120 : TI := ⟨4, 32, .agg #[.nilFunc, .nilFunc, .nilFunc, .nilFunc], .agg [.lit .nilFunc, .lit .nilFunc, .lit .nilFunc, .lit .nilFunc], .any, .arr 4 82, false⟩
@[simp] theorem t120_size : t120.size = 4 := rfl
@[simp] theorem t120_bytes : t120.bytes = 32 := rfl
@[simp] theorem t120_z : t120.z = .agg [.lit .nilFunc, .lit .nilFunc, .lit .nilFunc, .lit .nilFunc] := rfl
@[simp] theorem t120_y : t120.y = .any := rfl
@[simp] theorem t120_kind : t120.kind = .arr 4 82 := rfl
@[simp] theorem t120_cmp : t120.cmp = false := rfl
/-- impl.week = loop.example/g03007/impl.week -/
def t124 : TI := ⟨1, 1, .int .u8 0, .lit (.int .u8 0), .lit (.int .u8 0), .int .u8, false⟩
@[simp] theorem t124_size : t124.size = 1 := rfl
@[simp] theorem t124_bytes : t124.bytes = 1 := rfl
@[simp] theorem t124_z : t124.z = .lit (.int .u8 0) := rfl
@[simp] theorem t124_y : t124.y = .lit (.int .u8 0) := rfl
@[simp] theorem t124_kind : t124.kind = .int .u8 := rfl
@[simp] theorem t124_cmp : t124.cmp = false := rfl
/-- func(impl.Secret) int -/
def t128 : TI := ⟨1, 8, .nilFunc, .lit .nilFunc, .lit .nilFunc, .func, false⟩
@[simp] theorem t128_size : t128.size = 1 := rfl
@[simp] theorem t128_bytes : t128.bytes = 8 := rfl
@[simp] theorem t128_z : t128.z = .lit .nilFunc := rfl
@[simp] theorem t128_y : t128.y = .lit .nilFunc := rfl
@[simp] theorem t128_kind : t128.kind = .func := rfl
@[simp] theorem t128_cmp : t128.cmp = false := rfl
/-- struct { items []impl.Secret; numberOf func(impl.Secret) int } -/
def t129 : TI := ⟨2, 32, .agg #[.slice none 0 0, .nilFunc], .agg [.sl true 0 .any [], .lit .nilFunc], .any, .st [(0, 73), (1, 128)], false⟩
@[simp] theorem t129_size : t129.size = 2 := rfl
@[simp] theorem t129_bytes : t129.bytes = 32 := rfl
@[simp] theorem t129_z : t129.z = .agg [.sl true 0 .any [], .lit .nilFunc] := rfl
@[simp] theorem t129_y : t129.y = .any := rfl
@[simp] theorem t129_kind : t129.kind = .st [(0, 73), (1, 128)] := rfl
@[simp] theorem t129_cmp : t129.cmp = false := rfl
/-- impl.sortedList[loop.example/g03007/impl.Secret] = loop.example/g03007/impl.sortedList[loop.example/g03007/impl.Secret] -/
def t130 : TI := ⟨2, 32, .agg #[.slice none 0 0, .nilFunc], .agg [.sl true 0 .any [], .lit .nilFunc], .any, .st [(0, 73), (1, 128)], false⟩
@[simp] theorem t130_size : t130.size = 2 := rfl
@[simp] theorem t130_bytes : t130.bytes = 32 := rfl
@[simp] theorem t130_z : t130.z = .agg [.sl true 0 .any [], .lit .nilFunc] := rfl
@[simp] theorem t130_y : t130.y = .any := rfl
@[simp] theorem t130_kind : t130.kind = .st [(0, 73), (1, 128)] := rfl
@[simp] theorem t130_cmp : t130.cmp = false := rfl
/-- interface { AssignableTo(reflectlite.Type) bool; Comparable() bool; Elem() reflectlite.Type; Implements(reflectlite.Type) bool; Kind() abi.Kind; Name() string; PkgPath() string; Size() uintptr; String() string; reflectlite.common() *abi.Type; reflectlite.uncommon() *abi.UncommonType } -/
def t132 : TI := ⟨1, 16, .nilIface, .lit .nilIface, .lit .nilIface, .iface, false⟩
@[simp] theorem t132_size : t132.size = 1 := rfl
@[simp] theorem t132_bytes : t132.bytes = 16 := rfl
@[simp] theorem t132_z : t132.z = .lit .nilIface := rfl
@[simp] theorem t132_y : t132.y = .lit .nilIface := rfl
@[simp] theorem t132_kind : t132.kind = .iface := rfl
@[simp] theorem t132_cmp : t132.cmp = false := rfl
/-- reflectlite.Type = internal/reflectlite.Type -/
def t133 : TI := ⟨1, 16, .nilIface, .lit .nilIface, .lit .nilIface, .iface, false⟩
@[simp] theorem t133_size : t133.size = 1 := rfl
@[simp] theorem t133_bytes : t133.bytes = 16 := rfl
@[simp] theorem t133_z : t133.z = .lit .nilIface := rfl
@[simp] theorem t133_y : t133.y = .lit .nilIface := rfl
@[simp] theorem t133_kind : t133.kind = .iface := rfl
@[simp] theorem t133_cmp : t133.cmp = false := rfl
/-- map[int][]impl.Claim -/
def t138 : TI := ⟨1, 8, .map none, .fm 0 [] .any [], .any, .map 3 51, false⟩
@[simp] theorem t138_size : t138.size = 1 := rfl
@[simp] theorem t138_bytes : t138.bytes = 8 := rfl
@[simp] theorem t138_z : t138.z = .fm 0 [] .any [] := rfl
@[simp] theorem t138_y : t138.y = .any := rfl
@[simp] theorem t138_kind : t138.kind = .map 3 51 := rfl
@[simp] theorem t138_cmp : t138.cmp = false := rfl
/-- struct { byThing map[int][]impl.Claim } -/
def t139 : TI := ⟨1, 8, .agg #[.map none], .agg [.fm 0 [] .any []], .any, .st [(0, 138)], false⟩
@[simp] theorem t139_size : t139.size = 1 := rfl
@[simp] theorem t139_bytes : t139.bytes = 8 := rfl
@[simp] theorem t139_z : t139.z = .agg [.fm 0 [] .any []] := rfl
@[simp] theorem t139_y : t139.y = .any := rfl
@[simp] theorem t139_kind : t139.kind = .st [(0, 138)] := rfl
@[simp] theorem t139_cmp : t139.cmp = false := rfl
/-- impl.claimBook = loop.example/g03007/impl.claimBook -/
def t140 : TI := ⟨1, 8, .agg #[.map none], .agg [.fm 0 [] .any []], .any, .st [(0, 138)], false⟩
@[simp] theorem t140_size : t140.size = 1 := rfl
@[simp] theorem t140_bytes : t140.bytes = 8 := rfl
@[simp] theorem t140_z : t140.z = .agg [.fm 0 [] .any []] := rfl
@[simp] theorem t140_y : t140.y = .any := rfl
@[simp] theorem t140_kind : t140.kind = .st [(0, 138)] := rfl
@[simp] theorem t140_cmp : t140.cmp = false := rfl
/-- *impl.claimBook -/
def t141 : TI := ⟨1, 8, .pointer none, .lit (.pointer none), .lit (.pointer none), .ptr 140, false⟩
@[simp] theorem t141_size : t141.size = 1 := rfl
@[simp] theorem t141_bytes : t141.bytes = 8 := rfl
@[simp] theorem t141_z : t141.z = .lit (.pointer none) := rfl
@[simp] theorem t141_y : t141.y = .lit (.pointer none) := rfl
@[simp] theorem t141_kind : t141.kind = .ptr 140 := rfl
@[simp] theorem t141_cmp : t141.cmp = false := rfl
/-- laws.Mark = loop.example/g03007/laws.Mark -/
def t144 : TI := ⟨2, 16, .agg #[.int .i64 0, .int .i64 0], .agg [.lit (.int .i64 0), .lit (.int .i64 0)], yTMark, .st [(0, 3), (1, 3)], true⟩
@[simp] theorem t144_size : t144.size = 2 := rfl
@[simp] theorem t144_bytes : t144.bytes = 16 := rfl
@[simp] theorem t144_z : t144.z = .agg [.lit (.int .i64 0), .lit (.int .i64 0)] := rfl
@[simp] theorem t144_y : t144.y = yTMark := rfl
@[simp] theorem t144_kind : t144.kind = .st [(0, 3), (1, 3)] := rfl
@[simp] theorem t144_cmp : t144.cmp = true := rfl
/-- struct { *abi.Type } -/
def t147 : TI := ⟨1, 8, .agg #[.pointer none], .agg [.lit (.pointer none)], .any, .st [(0, 17)], false⟩
@[simp] theorem t147_size : t147.size = 1 := rfl
@[simp] theorem t147_bytes : t147.bytes = 8 := rfl
@[simp] theorem t147_z : t147.z = .agg [.lit (.pointer none)] := rfl
@[simp] theorem t147_y : t147.y = .any := rfl
@[simp] theorem t147_kind : t147.kind = .st [(0, 17)] := rfl
@[simp] theorem t147_cmp : t147.cmp = false := rfl
/-- reflectlite.rtype = internal/reflectlite.rtype -/
def t148 : TI := ⟨1, 8, .agg #[.pointer none], .agg [.lit (.pointer none)], .any, .st [(0, 17)], false⟩
@[simp] theorem t148_size : t148.size = 1 := rfl
@[simp] theorem t148_bytes : t148.bytes = 8 := rfl
@[simp] theorem t148_z : t148.z = .agg [.lit (.pointer none)] := rfl
@[simp] theorem t148_y : t148.y = .any := rfl
@[simp] theorem t148_kind : t148.kind = .st [(0, 17)] := rfl
@[simp] theorem t148_cmp : t148.cmp = false := rfl
/-- *reflectlite.ValueError -/
def t149 : TI := ⟨1, 8, .pointer none, .lit (.pointer none), .lit (.pointer none), .ptr 194, false⟩
@[simp] theorem t149_size : t149.size = 1 := rfl
@[simp] theorem t149_bytes : t149.bytes = 8 := rfl
@[simp] theorem t149_z : t149.z = .lit (.pointer none) := rfl
@[simp] theorem t149_y : t149.y = .lit (.pointer none) := rfl
@[simp] theorem t149_kind : t149.kind = .ptr 194 := rfl
@[simp] theorem t149_cmp : t149.cmp = false := rfl
/-- interface { Is(error) bool } -/
def t150 : TI := ⟨1, 16, .nilIface, .lit .nilIface, .lit .nilIface, .iface, false⟩
@[simp] theorem t150_size : t150.size = 1 := rfl
@[simp] theorem t150_bytes : t150.bytes = 16 := rfl
@[simp] theorem t150_z : t150.z = .lit .nilIface := rfl
@[simp] theorem t150_y : t150.y = .lit .nilIface := rfl
@[simp] theorem t150_kind : t150.kind = .iface := rfl
@[simp] theorem t150_cmp : t150.cmp = false := rfl
/-- interface { Unwrap() error } -/
def t153 : TI := ⟨1, 16, .nilIface, .lit .nilIface, .lit .nilIface, .iface, false⟩
@[simp] theorem t153_size : t153.size = 1 := rfl
@[simp] theorem t153_bytes : t153.bytes = 16 := rfl
@[simp] theorem t153_z : t153.z = .lit .nilIface := rfl
@[simp] theorem t153_y : t153.y = .lit .nilIface := rfl
@[simp] theorem t153_kind : t153.kind = .iface := rfl
@[simp] theorem t153_cmp : t153.cmp = false := rfl
/-- interface { Unwrap() []error } -/
def t155 : TI := ⟨1, 16, .nilIface, .lit .nilIface, .lit .nilIface, .iface, false⟩
@[simp] theorem t155_size : t155.size = 1 := rfl
@[simp] theorem t155_bytes : t155.bytes = 16 := rfl
@[simp] theorem t155_z : t155.z = .lit .nilIface := rfl
@[simp] theorem t155_y : t155.y = .lit .nilIface := rfl
@[simp] theorem t155_kind : t155.kind = .iface := rfl
@[simp] theorem t155_cmp : t155.cmp = false := rfl
/-- []error -/
def t156 : TI := ⟨1, 24, .slice none 0 0, .sl true 0 .any [], .any, .slice 107, false⟩
@[simp] theorem t156_size : t156.size = 1 := rfl
@[simp] theorem t156_bytes : t156.bytes = 24 := rfl
@[simp] theorem t156_z : t156.z = .sl true 0 .any [] := rfl
@[simp] theorem t156_y : t156.y = .any := rfl
@[simp] theorem t156_kind : t156.kind = .slice 107 := rfl
@[simp] theorem t156_cmp : t156.cmp = false := rfl
/-- *impl.Claim -/
def t159 : TI := ⟨1, 8, .pointer none, .lit (.pointer none), .lit (.pointer none), .ptr 89, false⟩
@[simp] theorem t159_size : t159.size = 1 := rfl
@[simp] theorem t159_bytes : t159.bytes = 8 := rfl
@[simp] theorem t159_z : t159.z = .lit (.pointer none) := rfl
@[simp] theorem t159_y : t159.y = .lit (.pointer none) := rfl
@[simp] theorem t159_kind : t159.kind = .ptr 89 := rfl
@[simp] theorem t159_cmp : t159.cmp = false := rfl
/-- map[int]int -/
def t165 : TI := ⟨1, 8, .map none, .fm 0 [] .any [], .any, .map 3 3, false⟩
@[simp] theorem t165_size : t165.size = 1 := rfl
@[simp] theorem t165_bytes : t165.bytes = 8 := rfl
@[simp] theorem t165_z : t165.z = .fm 0 [] .any [] := rfl
@[simp] theorem t165_y : t165.y = .any := rfl
@[simp] theorem t165_kind : t165.kind = .map 3 3 := rfl
@[simp] theorem t165_cmp : t165.cmp = false := rfl
/-- *errors.errorString -/
def t169 : TI := ⟨1, 8, .pointer none, .lit (.pointer none), .lit (.pointer none), .ptr 196, false⟩
@[simp] theorem t169_size : t169.size = 1 := rfl
@[simp] theorem t169_bytes : t169.bytes = 8 := rfl
@[simp] theorem t169_z : t169.z = .lit (.pointer none) := rfl
@[simp] theorem t169_y : t169.y = .lit (.pointer none) := rfl
@[simp] theorem t169_kind : t169.kind = .ptr 196 := rfl
@[simp] theorem t169_cmp : t169.cmp = false := rfl
/-- uint32 -/
def t176 : TI := ⟨1, 4, .int .u32 0, .lit (.int .u32 0), .lit (.int .u32 0), .int .u32, false⟩
@[simp] theorem t176_size : t176.size = 1 := rfl
@[simp] theorem t176_bytes : t176.bytes = 4 := rfl
@[simp] theorem t176_z : t176.z = .lit (.int .u32 0) := rfl
@[simp] theorem t176_y : t176.y = .lit (.int .u32 0) := rfl
@[simp] theorem t176_kind : t176.kind = .int .u32 := rfl
@[simp] theorem t176_cmp : t176.cmp = false := rfl
/-- func(unsafe.Pointer, unsafe.Pointer) bool -/
def t179 : TI := ⟨1, 8, .nilFunc, .lit .nilFunc, .lit .nilFunc, .func, false⟩
@[simp] theorem t179_size : t179.size = 1 := rfl
@[simp] theorem t179_bytes : t179.bytes = 8 := rfl
@[simp] theorem t179_z : t179.z = .lit .nilFunc := rfl
@[simp] theorem t179_y : t179.y = .lit .nilFunc := rfl
@[simp] theorem t179_kind : t179.kind = .func := rfl
@[simp] theorem t179_cmp : t179.cmp = false := rfl
/-- *uint8 -/
def t180 : TI := ⟨1, 8, .pointer none, .lit (.pointer none), .lit (.pointer none), .ptr 5, false⟩
@[simp] theorem t180_size : t180.size = 1 := rfl
@[simp] theorem t180_bytes : t180.bytes = 8 := rfl
@[simp] theorem t180_z : t180.z = .lit (.pointer none) := rfl
@[simp] theorem t180_y : t180.y = .lit (.pointer none) := rfl
@[simp] theorem t180_kind : t180.kind = .ptr 5 := rfl
@[simp] theorem t180_cmp : t180.cmp = false := rfl
/-- struct { Size_ uintptr; PtrBytes uintptr; Hash uint32; TFlag abi.TFlag; Align_ uint8; FieldAlign_ uint8; Kind_ abi.Kind; Equal func(unsafe.Pointer, unsafe.Pointer) bool; GCData *uint8; Str abi.NameOff; PtrToThis abi.TypeOff } -/
def t183 : TI := ⟨11, 48, .agg #[.int .u64 0, .int .u64 0, .int .u32 0, .int .u8 0, .int .u8 0, .int .u8 0, .int .u8 0, .nilFunc, .pointer none, .int .i32 0, .int .i32 0], .agg [.lit (.int .u64 0), .lit (.int .u64 0), .lit (.int .u32 0), .lit (.int .u8 0), .lit (.int .u8 0), .lit (.int .u8 0), .lit (.int .u8 0), .lit .nilFunc, .lit (.pointer none), .lit (.int .i32 0), .lit (.int .i32 0)], .any, .st [(0, 12), (1, 12), (2, 176), (3, 177), (4, 5), (5, 5), (6, 178), (7, 179), (8, 180), (9, 181), (10, 182)], false⟩
@[simp] theorem t183_size : t183.size = 11 := rfl
@[simp] theorem t183_bytes : t183.bytes = 48 := rfl
@[simp] theorem t183_z : t183.z = .agg [.lit (.int .u64 0), .lit (.int .u64 0), .lit (.int .u32 0), .lit (.int .u8 0), .lit (.int .u8 0), .lit (.int .u8 0), .lit (.int .u8 0), .lit .nilFunc, .lit (.pointer none), .lit (.int .i32 0), .lit (.int .i32 0)] := rfl
@[simp] theorem t183_y : t183.y = .any := rfl
@[simp] theorem t183_kind : t183.kind = .st [(0, 12), (1, 12), (2, 176), (3, 177), (4, 5), (5, 5), (6, 178), (7, 179), (8, 180), (9, 181), (10, 182)] := rfl
@[simp] theorem t183_cmp : t183.cmp = false := rfl
/-- struct { Method string; Kind abi.Kind } -/
def t193 : TI := ⟨2, 24, .agg #[.string ⟨#[]⟩, .int .u8 0], .agg [.lit (.string ⟨#[]⟩), .lit (.int .u8 0)], yTValueError, .st [(0, 9), (1, 178)], false⟩
@[simp] theorem t193_size : t193.size = 2 := rfl
@[simp] theorem t193_bytes : t193.bytes = 24 := rfl
@[simp] theorem t193_z : t193.z = .agg [.lit (.string ⟨#[]⟩), .lit (.int .u8 0)] := rfl
@[simp] theorem t193_y : t193.y = yTValueError := rfl
@[simp] theorem t193_kind : t193.kind = .st [(0, 9), (1, 178)] := rfl
@[simp] theorem t193_cmp : t193.cmp = false := rfl
/-- reflectlite.ValueError = internal/reflectlite.ValueError -/
def t194 : TI := ⟨2, 24, .agg #[.string ⟨#[]⟩, .int .u8 0], .agg [.lit (.string ⟨#[]⟩), .lit (.int .u8 0)], yTValueError, .st [(0, 9), (1, 178)], false⟩
@[simp] theorem t194_size : t194.size = 2 := rfl
@[simp] theorem t194_bytes : t194.bytes = 24 := rfl
@[simp] theorem t194_z : t194.z = .agg [.lit (.string ⟨#[]⟩), .lit (.int .u8 0)] := rfl
@[simp] theorem t194_y : t194.y = yTValueError := rfl
@[simp] theorem t194_kind : t194.kind = .st [(0, 9), (1, 178)] := rfl
@[simp] theorem t194_cmp : t194.cmp = false := rfl
/-- struct { s string } -/
def t195 : TI := ⟨1, 16, .agg #[.string ⟨#[]⟩], .agg [.lit (.string ⟨#[]⟩)], yTErrorString, .st [(0, 9)], false⟩
@[simp] theorem t195_size : t195.size = 1 := rfl
@[simp] theorem t195_bytes : t195.bytes = 16 := rfl
@[simp] theorem t195_z : t195.z = .agg [.lit (.string ⟨#[]⟩)] := rfl
@[simp] theorem t195_y : t195.y = yTErrorString := rfl
@[simp] theorem t195_kind : t195.kind = .st [(0, 9)] := rfl
@[simp] theorem t195_cmp : t195.cmp = false := rfl
/-- errors.errorString -/
def t196 : TI := ⟨1, 16, .agg #[.string ⟨#[]⟩], .agg [.lit (.string ⟨#[]⟩)], yTErrorString, .st [(0, 9)], false⟩
@[simp] theorem t196_size : t196.size = 1 := rfl
@[simp] theorem t196_bytes : t196.bytes = 16 := rfl
@[simp] theorem t196_z : t196.z = .agg [.lit (.string ⟨#[]⟩)] := rfl
@[simp] theorem t196_y : t196.y = yTErrorString := rfl
@[simp] theorem t196_kind : t196.kind = .st [(0, 9)] := rfl
@[simp] theorem t196_cmp : t196.cmp = false := rfl
/-- struct { kind int; colour int; size int; place int } -/
def t198 : TI := ⟨4, 32, .agg #[.int .i64 0, .int .i64 0, .int .i64 0, .int .i64 0], .agg [.lit (.int .i64 0), .lit (.int .i64 0), .lit (.int .i64 0), .lit (.int .i64 0)], yTLikeness, .st [(0, 3), (1, 3), (2, 3), (3, 3)], true⟩
@[simp] theorem t198_size : t198.size = 4 := rfl
@[simp] theorem t198_bytes : t198.bytes = 32 := rfl
@[simp] theorem t198_z : t198.z = .agg [.lit (.int .i64 0), .lit (.int .i64 0), .lit (.int .i64 0), .lit (.int .i64 0)] := rfl
@[simp] theorem t198_y : t198.y = yTLikeness := rfl
@[simp] theorem t198_kind : t198.kind = .st [(0, 3), (1, 3), (2, 3), (3, 3)] := rfl
@[simp] theorem t198_cmp : t198.cmp = true := rfl
/-- impl.likeness = loop.example/g03007/impl.likeness -/
def t199 : TI := ⟨4, 32, .agg #[.int .i64 0, .int .i64 0, .int .i64 0, .int .i64 0], .agg [.lit (.int .i64 0), .lit (.int .i64 0), .lit (.int .i64 0), .lit (.int .i64 0)], yTLikeness, .st [(0, 3), (1, 3), (2, 3), (3, 3)], true⟩
@[simp] theorem t199_size : t199.size = 4 := rfl
@[simp] theorem t199_bytes : t199.bytes = 32 := rfl
@[simp] theorem t199_z : t199.z = .agg [.lit (.int .i64 0), .lit (.int .i64 0), .lit (.int .i64 0), .lit (.int .i64 0)] := rfl
@[simp] theorem t199_y : t199.y = yTLikeness := rfl
@[simp] theorem t199_kind : t199.kind = .st [(0, 3), (1, 3), (2, 3), (3, 3)] := rfl
@[simp] theorem t199_cmp : t199.cmp = true := rfl
/-- uint16 -/
def t202 : TI := ⟨1, 2, .int .u16 0, .lit (.int .u16 0), .lit (.int .u16 0), .int .u16, false⟩
@[simp] theorem t202_size : t202.size = 1 := rfl
@[simp] theorem t202_bytes : t202.bytes = 2 := rfl
@[simp] theorem t202_z : t202.z = .lit (.int .u16 0) := rfl
@[simp] theorem t202_y : t202.y = .lit (.int .u16 0) := rfl
@[simp] theorem t202_kind : t202.kind = .int .u16 := rfl
@[simp] theorem t202_cmp : t202.cmp = false := rfl
/-- struct { PkgPath abi.NameOff; Mcount uint16; Xcount uint16; Moff uint32; _ uint32 } -/
def t203 : TI := ⟨5, 16, .agg #[.int .i32 0, .int .u16 0, .int .u16 0, .int .u32 0, .int .u32 0], .agg [.lit (.int .i32 0), .lit (.int .u16 0), .lit (.int .u16 0), .lit (.int .u32 0), .lit (.int .u32 0)], yTUncommonType, .st [(0, 181), (1, 202), (2, 202), (3, 176), (4, 176)], false⟩
@[simp] theorem t203_size : t203.size = 5 := rfl
@[simp] theorem t203_bytes : t203.bytes = 16 := rfl
@[simp] theorem t203_z : t203.z = .agg [.lit (.int .i32 0), .lit (.int .u16 0), .lit (.int .u16 0), .lit (.int .u32 0), .lit (.int .u32 0)] := rfl
@[simp] theorem t203_y : t203.y = yTUncommonType := rfl
@[simp] theorem t203_kind : t203.kind = .st [(0, 181), (1, 202), (2, 202), (3, 176), (4, 176)] := rfl
@[simp] theorem t203_cmp : t203.cmp = false := rfl
/-- []abi.Method -/
def t205 : TI := ⟨1, 24, .slice none 0 0, .sl true 0 .any [], yLTMethod, .slice 208, false⟩
@[simp] theorem t205_size : t205.size = 1 := rfl
@[simp] theorem t205_bytes : t205.bytes = 24 := rfl
@[simp] theorem t205_z : t205.z = .sl true 0 .any [] := rfl
@[simp] theorem t205_y : t205.y = yLTMethod := rfl
@[simp] theorem t205_kind : t205.kind = .slice 208 := rfl
@[simp] theorem t205_cmp : t205.cmp = false := rfl
/-- struct { Name abi.NameOff; Mtyp abi.TypeOff; Ifn abi.TextOff; Tfn abi.TextOff } -/
def t207 : TI := ⟨4, 16, .agg #[.int .i32 0, .int .i32 0, .int .i32 0, .int .i32 0], .agg [.lit (.int .i32 0), .lit (.int .i32 0), .lit (.int .i32 0), .lit (.int .i32 0)], yTMethod, .st [(0, 181), (1, 182), (2, 206), (3, 206)], false⟩
@[simp] theorem t207_size : t207.size = 4 := rfl
@[simp] theorem t207_bytes : t207.bytes = 16 := rfl
@[simp] theorem t207_z : t207.z = .agg [.lit (.int .i32 0), .lit (.int .i32 0), .lit (.int .i32 0), .lit (.int .i32 0)] := rfl
@[simp] theorem t207_y : t207.y = yTMethod := rfl
@[simp] theorem t207_kind : t207.kind = .st [(0, 181), (1, 182), (2, 206), (3, 206)] := rfl
@[simp] theorem t207_cmp : t207.cmp = false := rfl
theorem t2_ok : t2.ok Tryd.prog 2 := ⟨by kernel_rfl, by kernel_rfl, by kernel_rfl, Tryd.underlying2, (fun h => by cases h), ⟨rfl, rfl, rfl, rfl, fun F h β => by simp [t2, Rep, Reps]⟩⟩
theorem t3_ok : t3.ok Tryd.prog 3 := ⟨by kernel_rfl, by kernel_rfl, by kernel_rfl, Tryd.underlying3, (fun h => by cases h), ⟨rfl, rfl, rfl, rfl, fun F h β => by simp [t3, Rep, Reps]⟩⟩
theorem t4_ok : t4.ok Tryd.prog 4 := ⟨by kernel_rfl, by kernel_rfl, by kernel_rfl, Tryd.underlying4, (fun h => by cases h), ⟨rfl, rfl, rfl, rfl, fun F h β => by simp [t4, Rep, Reps]⟩⟩
theorem t5_ok : t5.ok Tryd.prog 5 := ⟨by kernel_rfl, by kernel_rfl, by kernel_rfl, Tryd.underlying5, (fun h => by cases h), ⟨rfl, rfl, rfl, rfl, fun F h β => by simp [t5, Rep, Reps]⟩⟩
theorem t9_ok : t9.ok Tryd.prog 9 := ⟨by kernel_rfl, by kernel_rfl, by kernel_rfl, Tryd.underlying9, (fun h => by cases h), ⟨rfl, rfl, rfl, rfl, fun F h β => by simp [t9, Rep, Reps]⟩⟩
theorem t12_ok : t12.ok Tryd.prog 12 := ⟨by kernel_rfl, by kernel_rfl, by kernel_rfl, Tryd.underlying12, (fun h => by cases h), ⟨rfl, rfl, rfl, rfl, fun F h β => by simp [t12, Rep, Reps]⟩⟩
theorem t20_ok : t20.ok Tryd.prog 20 := ⟨by kernel_rfl, by kernel_rfl, by kernel_rfl, ⟨_, Tryd.underlying20⟩, (fun h => by cases h), ⟨rfl, rfl, rfl, rfl, fun F h β => by simp [t20, Rep, Reps]⟩⟩
theorem t21_ok : t21.ok Tryd.prog 21 := ⟨by kernel_rfl, by kernel_rfl, by kernel_rfl, Tryd.underlying21, (fun h => by cases h), ⟨rfl, rfl, rfl, rfl, fun F h β => by simp [t21, Rep, Reps]⟩⟩
theorem t24_ok : t24.ok Tryd.prog 24 := ⟨by kernel_rfl, by kernel_rfl, by kernel_rfl, ⟨_, Tryd.underlying24, rfl⟩, (fun _ => eqInts_of (by kernel_rfl) (by kernel_rfl) (by kernel_rfl)), ⟨rfl, rfl, rfl, rfl, fun F h β => by simp [t24, Rep, Reps]⟩⟩
theorem t25_ok : t25.ok Tryd.prog 25 := ⟨by kernel_rfl, by kernel_rfl, by kernel_rfl, ⟨_, Tryd.underlying25, rfl⟩, (fun _ => eqInts_of (by kernel_rfl) (by kernel_rfl) (by kernel_rfl)), ⟨rfl, rfl, rfl, rfl, fun F h β => by simp [t25, Rep, Reps]⟩⟩
theorem t26_ok : t26.ok Tryd.prog 26 := ⟨by kernel_rfl, by kernel_rfl, by kernel_rfl, ⟨_, Tryd.underlying26, rfl⟩, (fun _ => eqInts_of (by kernel_rfl) (by kernel_rfl) (by kernel_rfl)), ⟨rfl, rfl, rfl, rfl, fun F h β => by simp [t26, Rep, Reps]⟩⟩
theorem t27_ok : t27.ok Tryd.prog 27 := ⟨by kernel_rfl, by kernel_rfl, by kernel_rfl, ⟨_, Tryd.underlying27, rfl⟩, (fun _ => eqInts_of (by kernel_rfl) (by kernel_rfl) (by kernel_rfl)), ⟨rfl, rfl, rfl, rfl, fun F h β => by simp [t27, Rep, Reps]⟩⟩
theorem t29_ok : t29.ok Tryd.prog 29 := ⟨by kernel_rfl, by kernel_rfl, by kernel_rfl, ⟨_, Tryd.underlying29, rfl⟩, (fun _ => eqInts_of (by kernel_rfl) (by kernel_rfl) (by kernel_rfl)), ⟨rfl, rfl, rfl, rfl, fun F h β => by simp [t29, Rep, Reps]⟩⟩
theorem t30_ok : t30.ok Tryd.prog 30 := ⟨by kernel_rfl, by kernel_rfl, by kernel_rfl, ⟨_, Tryd.underlying30, rfl⟩, (fun _ => eqInts_of (by kernel_rfl) (by kernel_rfl) (by kernel_rfl)), ⟨rfl, rfl, rfl, rfl, fun F h β => by simp [t30, Rep, Reps]⟩⟩
theorem t31_ok : t31.ok Tryd.prog 31 := ⟨by kernel_rfl, by kernel_rfl, by kernel_rfl, ⟨_, Tryd.underlying31, rfl⟩, (fun _ => eqInts_of (by kernel_rfl) (by kernel_rfl) (by kernel_rfl)), ⟨rfl, rfl, rfl, rfl, fun F h β => by simp [t31, Rep, Reps]⟩⟩
theorem t36_ok : t36.ok Tryd.prog 36 := ⟨by kernel_rfl, by kernel_rfl, by kernel_rfl, Tryd.underlying36, (fun h => by cases h), ⟨rfl, rfl, rfl, rfl, fun F h β => by simp [t36, Rep, Reps]⟩⟩
theorem t38_ok : t38.ok Tryd.prog 38 := ⟨by kernel_rfl, by kernel_rfl, by kernel_rfl, Tryd.underlying38, (fun h => by cases h), ⟨rfl, rfl, rfl, rfl, fun F h β => by simp [t38, Rep, Reps]⟩⟩
theorem t40_ok : t40.ok Tryd.prog 40 := ⟨by kernel_rfl, by kernel_rfl, by kernel_rfl, Tryd.underlying40, (fun h => by cases h), ⟨rfl, rfl, rfl, rfl, fun F h β => by simp [t40, Rep, Reps]⟩⟩
theorem t48_ok : t48.ok Tryd.prog 48 := ⟨by kernel_rfl, by kernel_rfl, by kernel_rfl, Tryd.underlying48, (fun h => by cases h), ⟨rfl, rfl, rfl, rfl, fun F h β => by simp [t48, Rep, Reps]⟩⟩
theorem t51_ok : t51.ok Tryd.prog 51 := ⟨by kernel_rfl, by kernel_rfl, by kernel_rfl, Tryd.underlying51, (fun h => by cases h), ⟨rfl, rfl, rfl, rfl, fun F h β => by simp [t51, Rep, Reps]⟩⟩
theorem t55_ok : t55.ok Tryd.prog 55 := ⟨by kernel_rfl, by kernel_rfl, by kernel_rfl, ⟨_, _, _, Tryd.underlying55⟩, (fun h => by cases h), ⟨rfl, rfl, rfl, rfl, fun F h β => by simp [t55, Rep, Reps]⟩⟩
theorem t59_ok : t59.ok Tryd.prog 59 := ⟨by kernel_rfl, by kernel_rfl, by kernel_rfl, Tryd.underlying59, (fun h => by cases h), ⟨rfl, rfl, rfl, rfl, fun F h β => by simp [t59, Rep, Reps]⟩⟩
theorem t64_ok : t64.ok Tryd.prog 64 := ⟨by kernel_rfl, by kernel_rfl, by kernel_rfl, ⟨_, Tryd.underlying64, rfl⟩, (fun _ => eqInts_of (by kernel_rfl) (by kernel_rfl) (by kernel_rfl)), ⟨rfl, rfl, rfl, rfl, fun F h β => by simp [t64, Rep, Reps]⟩⟩
theorem t65_ok : t65.ok Tryd.prog 65 := ⟨by kernel_rfl, by kernel_rfl, by kernel_rfl, ⟨_, Tryd.underlying65, rfl⟩, (fun _ => eqInts_of (by kernel_rfl) (by kernel_rfl) (by kernel_rfl)), ⟨rfl, rfl, rfl, rfl, fun F h β => by simp [t65, Rep, Reps]⟩⟩
theorem t69_ok : t69.ok Tryd.prog 69 := ⟨by kernel_rfl, by kernel_rfl, by kernel_rfl, Tryd.underlying69, (fun h => by cases h), ⟨rfl, rfl, rfl, rfl, fun F h β => by simp [t69, Rep, Reps]⟩⟩
theorem t71_ok : t71.ok Tryd.prog 71 := ⟨by kernel_rfl, by kernel_rfl, by kernel_rfl, Tryd.underlying71, (fun h => by cases h), ⟨rfl, rfl, rfl, rfl, fun F h β => by simp [t71, Rep, Reps]⟩⟩
theorem t73_ok : t73.ok Tryd.prog 73 := ⟨by kernel_rfl, by kernel_rfl, by kernel_rfl, Tryd.underlying73, (fun h => by cases h), ⟨rfl, rfl, rfl, rfl, fun F h β => by simp [t73, Rep, Reps]⟩⟩
theorem t81_ok : t81.ok Tryd.prog 81 := ⟨by kernel_rfl, by kernel_rfl, by kernel_rfl, Tryd.underlying81, (fun h => by cases h), ⟨rfl, rfl, rfl, rfl, fun F h β => by simp [t81, Rep, Reps]⟩⟩
theorem t82_ok : t82.ok Tryd.prog 82 := ⟨by kernel_rfl, by kernel_rfl, by kernel_rfl, ⟨_, _, _, Tryd.underlying82⟩, (fun h => by cases h), ⟨rfl, rfl, rfl, rfl, fun F h β => by simp [t82, Rep, Reps]⟩⟩
theorem t88_ok : t88.ok Tryd.prog 88 := ⟨by kernel_rfl, by kernel_rfl, by kernel_rfl, ⟨_, Tryd.underlying88, rfl⟩, (fun _ => eqInts_of (by kernel_rfl) (by kernel_rfl) (by kernel_rfl)), ⟨rfl, rfl, rfl, rfl, fun F h β => by simp [t88, Rep, Reps]⟩⟩
theorem t89_ok : t89.ok Tryd.prog 89 := ⟨by kernel_rfl, by kernel_rfl, by kernel_rfl, ⟨_, Tryd.underlying89, rfl⟩, (fun _ => eqInts_of (by kernel_rfl) (by kernel_rfl) (by kernel_rfl)), ⟨rfl, rfl, rfl, rfl, fun F h β => by simp [t89, Rep, Reps]⟩⟩
theorem t91_ok : t91.ok Tryd.prog 91 := ⟨by kernel_rfl, by kernel_rfl, by kernel_rfl, ⟨_, Tryd.underlying91, rfl⟩, (fun _ => eqInts_of (by kernel_rfl) (by kernel_rfl) (by kernel_rfl)), ⟨rfl, rfl, rfl, rfl, fun F h β => by simp [t91, Rep, Reps]⟩⟩
theorem t93_ok : t93.ok Tryd.prog 93 := ⟨by kernel_rfl, by kernel_rfl, by kernel_rfl, Tryd.underlying93, (fun h => by cases h), ⟨rfl, rfl, rfl, rfl, fun F h β => by simp [t93, Rep, Reps]⟩⟩
theorem t95_ok : t95.ok Tryd.prog 95 := ⟨by kernel_rfl, by kernel_rfl, by kernel_rfl, ⟨_, Tryd.underlying95, rfl⟩, (fun h => by cases h), ⟨rfl, rfl, rfl, rfl, fun F h β => by simp [t95, Rep, Reps]⟩⟩
theorem t96_ok : t96.ok Tryd.prog 96 := ⟨by kernel_rfl, by kernel_rfl, by kernel_rfl, ⟨_, Tryd.underlying96, rfl⟩, (fun h => by cases h), ⟨rfl, rfl, rfl, rfl, fun F h β => by simp [t96, Rep, Reps]⟩⟩
theorem t100_ok : t100.ok Tryd.prog 100 := ⟨by kernel_rfl, by kernel_rfl, by kernel_rfl, Tryd.underlying100, (fun h => by cases h), ⟨rfl, rfl, rfl, rfl, fun F h β => by simp [t100, Rep, Reps]⟩⟩
theorem t101_ok : t101.ok Tryd.prog 101 := ⟨by kernel_rfl, by kernel_rfl, by kernel_rfl, ⟨_, Tryd.underlying101, rfl⟩, (fun h => by cases h), ⟨rfl, rfl, rfl, rfl, fun F h β => by
    show Rep F h β t101.z t101.zero
    simp only [t101, Rep, Reps]
    exact ⟨_, rfl, _, _, rfl, (by trivial), _, _, rfl, (.inl ⟨by trivial, none, 0, by trivial, by intros; rfl⟩), _, _, rfl, (by trivial), rfl⟩⟩⟩
theorem t102_ok : t102.ok Tryd.prog 102 := ⟨by kernel_rfl, by kernel_rfl, by kernel_rfl, ⟨_, Tryd.underlying102, rfl⟩, (fun h => by cases h), ⟨rfl, rfl, rfl, rfl, fun F h β => by
    show Rep F h β t102.z t102.zero
    simp only [t102, Rep, Reps]
    exact ⟨_, rfl, _, _, rfl, (by trivial), _, _, rfl, (.inl ⟨by trivial, none, 0, by trivial, by intros; rfl⟩), _, _, rfl, (by trivial), rfl⟩⟩⟩
theorem t103_ok : t103.ok Tryd.prog 103 := ⟨by kernel_rfl, by kernel_rfl, by kernel_rfl, ⟨_, Tryd.underlying103, rfl⟩, (fun h => by cases h), ⟨rfl, rfl, rfl, rfl, fun F h β => by
    show Rep F h β t103.z t103.zero
    simp only [t103, Rep, Reps]
    exact ⟨_, rfl, _, _, rfl, (by trivial), _, _, rfl, (.inl ⟨by trivial, none, 0, by trivial, by intros; rfl⟩), _, _, rfl, (by trivial), rfl⟩⟩⟩
theorem t104_ok : t104.ok Tryd.prog 104 := ⟨by kernel_rfl, by kernel_rfl, by kernel_rfl, ⟨_, Tryd.underlying104, rfl⟩, (fun h => by cases h), ⟨rfl, rfl, rfl, rfl, fun F h β => by
    show Rep F h β t104.z t104.zero
    simp only [t104, Rep, Reps]
    exact ⟨_, rfl, _, _, rfl, (by trivial), _, _, rfl, (.inl ⟨by trivial, none, 0, by trivial, by intros; rfl⟩), _, _, rfl, (by trivial), rfl⟩⟩⟩
theorem t106_ok : t106.ok Tryd.prog 106 := ⟨by kernel_rfl, by kernel_rfl, by kernel_rfl, ⟨_, Tryd.underlying106⟩, (fun h => by cases h), ⟨rfl, rfl, rfl, rfl, fun F h β => by simp [t106, Rep, Reps]⟩⟩
theorem t107_ok : t107.ok Tryd.prog 107 := ⟨by kernel_rfl, by kernel_rfl, by kernel_rfl, ⟨_, Tryd.underlying107⟩, (fun h => by cases h), ⟨rfl, rfl, rfl, rfl, fun F h β => by simp [t107, Rep, Reps]⟩⟩
theorem t112_ok : t112.ok Tryd.prog 112 := ⟨by kernel_rfl, by kernel_rfl, by kernel_rfl, ⟨_, Tryd.underlying112, rfl⟩, (fun _ => eqInts_of (by kernel_rfl) (by kernel_rfl) (by kernel_rfl)), ⟨rfl, rfl, rfl, rfl, fun F h β => by simp [t112, Rep, Reps]⟩⟩
theorem t113_ok : t113.ok Tryd.prog 113 := ⟨by kernel_rfl, by kernel_rfl, by kernel_rfl, ⟨_, Tryd.underlying113, rfl⟩, (fun _ => eqInts_of (by kernel_rfl) (by kernel_rfl) (by kernel_rfl)), ⟨rfl, rfl, rfl, rfl, fun F h β => by simp [t113, Rep, Reps]⟩⟩
theorem t116_ok : t116.ok Tryd.prog 116 := ⟨by kernel_rfl, by kernel_rfl, by kernel_rfl, ⟨_, Tryd.underlying116, rfl⟩, (fun h => by cases h), ⟨rfl, rfl, rfl, rfl, fun F h β => by
    show Rep F h β t116.z t116.zero
    simp only [t116, Rep, Reps]
    exact ⟨_, rfl, _, _, rfl, (by trivial), _, _, rfl, (.inl ⟨by trivial, none, 0, by trivial, by intros; rfl⟩), _, _, rfl, (by trivial), rfl⟩⟩⟩
theorem t117_ok : t117.ok Tryd.prog 117 := ⟨by kernel_rfl, by kernel_rfl, by kernel_rfl, ⟨_, Tryd.underlying117, rfl⟩, (fun h => by cases h), ⟨rfl, rfl, rfl, rfl, fun F h β => by
    show Rep F h β t117.z t117.zero
    simp only [t117, Rep, Reps]
    exact ⟨_, rfl, _, _, rfl, (by trivial), _, _, rfl, (.inl ⟨by trivial, none, 0, by trivial, by intros; rfl⟩), _, _, rfl, (by trivial), rfl⟩⟩⟩
theorem t120_ok : t120.ok Tryd.prog 120 := ⟨by kernel_rfl, by kernel_rfl, by kernel_rfl, Tryd.underlying120, (fun h => by cases h), ⟨rfl, rfl, rfl, rfl, fun F h β => by simp [t120, Rep, Reps]⟩⟩
theorem t124_ok : t124.ok Tryd.prog 124 := ⟨by kernel_rfl, by kernel_rfl, by kernel_rfl, Tryd.underlying124, (fun h => by cases h), ⟨rfl, rfl, rfl, rfl, fun F h β => by simp [t124, Rep, Reps]⟩⟩
theorem t128_ok : t128.ok Tryd.prog 128 := ⟨by kernel_rfl, by kernel_rfl, by kernel_rfl, ⟨_, _, _, Tryd.underlying128⟩, (fun h => by cases h), ⟨rfl, rfl, rfl, rfl, fun F h β => by simp [t128, Rep, Reps]⟩⟩
theorem t129_ok : t129.ok Tryd.prog 129 := ⟨by kernel_rfl, by kernel_rfl, by kernel_rfl, ⟨_, Tryd.underlying129, rfl⟩, (fun h => by cases h), ⟨rfl, rfl, rfl, rfl, fun F h β => by
    show Rep F h β t129.z t129.zero
    simp only [t129, Rep, Reps]
    exact ⟨_, rfl, _, _, rfl, (.inl ⟨by trivial, none, 0, by trivial, by intros; rfl⟩), _, _, rfl, (by trivial), rfl⟩⟩⟩
theorem t130_ok : t130.ok Tryd.prog 130 := ⟨by kernel_rfl, by kernel_rfl, by kernel_rfl, ⟨_, Tryd.underlying130, rfl⟩, (fun h => by cases h), ⟨rfl, rfl, rfl, rfl, fun F h β => by
    show Rep F h β t130.z t130.zero
    simp only [t130, Rep, Reps]
    exact ⟨_, rfl, _, _, rfl, (.inl ⟨by trivial, none, 0, by trivial, by intros; rfl⟩), _, _, rfl, (by trivial), rfl⟩⟩⟩
theorem t132_ok : t132.ok Tryd.prog 132 := ⟨by kernel_rfl, by kernel_rfl, by kernel_rfl, ⟨_, Tryd.underlying132⟩, (fun h => by cases h), ⟨rfl, rfl, rfl, rfl, fun F h β => by simp [t132, Rep, Reps]⟩⟩
theorem t133_ok : t133.ok Tryd.prog 133 := ⟨by kernel_rfl, by kernel_rfl, by kernel_rfl, ⟨_, Tryd.underlying133⟩, (fun h => by cases h), ⟨rfl, rfl, rfl, rfl, fun F h β => by simp [t133, Rep, Reps]⟩⟩
theorem t138_ok : t138.ok Tryd.prog 138 := ⟨by kernel_rfl, by kernel_rfl, by kernel_rfl, Tryd.underlying138, (fun h => by cases h), ⟨rfl, rfl, rfl, rfl, fun F h β => by simp [t138, Rep, Reps]⟩⟩
theorem t139_ok : t139.ok Tryd.prog 139 := ⟨by kernel_rfl, by kernel_rfl, by kernel_rfl, ⟨_, Tryd.underlying139, rfl⟩, (fun h => by cases h), ⟨rfl, rfl, rfl, rfl, fun F h β => by
    show Rep F h β t139.z t139.zero
    simp only [t139, Rep, Reps]
    exact ⟨_, rfl, _, _, rfl, (.inl ⟨by trivial, by trivial, by trivial⟩), rfl⟩⟩⟩
theorem t140_ok : t140.ok Tryd.prog 140 := ⟨by kernel_rfl, by kernel_rfl, by kernel_rfl, ⟨_, Tryd.underlying140, rfl⟩, (fun h => by cases h), ⟨rfl, rfl, rfl, rfl, fun F h β => by
    show Rep F h β t140.z t140.zero
    simp only [t140, Rep, Reps]
    exact ⟨_, rfl, _, _, rfl, (.inl ⟨by trivial, by trivial, by trivial⟩), rfl⟩⟩⟩
theorem t141_ok : t141.ok Tryd.prog 141 := ⟨by kernel_rfl, by kernel_rfl, by kernel_rfl, Tryd.underlying141, (fun h => by cases h), ⟨rfl, rfl, rfl, rfl, fun F h β => by simp [t141, Rep, Reps]⟩⟩
theorem t144_ok : t144.ok Tryd.prog 144 := ⟨by kernel_rfl, by kernel_rfl, by kernel_rfl, ⟨_, Tryd.underlying144, rfl⟩, (fun _ => eqInts_of (by kernel_rfl) (by kernel_rfl) (by kernel_rfl)), ⟨rfl, rfl, rfl, rfl, fun F h β => by simp [t144, Rep, Reps]⟩⟩
theorem t147_ok : t147.ok Tryd.prog 147 := ⟨by kernel_rfl, by kernel_rfl, by kernel_rfl, ⟨_, Tryd.underlying147, rfl⟩, (fun h => by cases h), ⟨rfl, rfl, rfl, rfl, fun F h β => by simp [t147, Rep, Reps]⟩⟩
theorem t148_ok : t148.ok Tryd.prog 148 := ⟨by kernel_rfl, by kernel_rfl, by kernel_rfl, ⟨_, Tryd.underlying148, rfl⟩, (fun h => by cases h), ⟨rfl, rfl, rfl, rfl, fun F h β => by simp [t148, Rep, Reps]⟩⟩
theorem t149_ok : t149.ok Tryd.prog 149 := ⟨by kernel_rfl, by kernel_rfl, by kernel_rfl, Tryd.underlying149, (fun h => by cases h), ⟨rfl, rfl, rfl, rfl, fun F h β => by simp [t149, Rep, Reps]⟩⟩
theorem t150_ok : t150.ok Tryd.prog 150 := ⟨by kernel_rfl, by kernel_rfl, by kernel_rfl, ⟨_, Tryd.underlying150⟩, (fun h => by cases h), ⟨rfl, rfl, rfl, rfl, fun F h β => by simp [t150, Rep, Reps]⟩⟩
theorem t153_ok : t153.ok Tryd.prog 153 := ⟨by kernel_rfl, by kernel_rfl, by kernel_rfl, ⟨_, Tryd.underlying153⟩, (fun h => by cases h), ⟨rfl, rfl, rfl, rfl, fun F h β => by simp [t153, Rep, Reps]⟩⟩
theorem t155_ok : t155.ok Tryd.prog 155 := ⟨by kernel_rfl, by kernel_rfl, by kernel_rfl, ⟨_, Tryd.underlying155⟩, (fun h => by cases h), ⟨rfl, rfl, rfl, rfl, fun F h β => by simp [t155, Rep, Reps]⟩⟩
theorem t156_ok : t156.ok Tryd.prog 156 := ⟨by kernel_rfl, by kernel_rfl, by kernel_rfl, Tryd.underlying156, (fun h => by cases h), ⟨rfl, rfl, rfl, rfl, fun F h β => by simp [t156, Rep, Reps]⟩⟩
theorem t159_ok : t159.ok Tryd.prog 159 := ⟨by kernel_rfl, by kernel_rfl, by kernel_rfl, Tryd.underlying159, (fun h => by cases h), ⟨rfl, rfl, rfl, rfl, fun F h β => by simp [t159, Rep, Reps]⟩⟩
theorem t165_ok : t165.ok Tryd.prog 165 := ⟨by kernel_rfl, by kernel_rfl, by kernel_rfl, Tryd.underlying165, (fun h => by cases h), ⟨rfl, rfl, rfl, rfl, fun F h β => by simp [t165, Rep, Reps]⟩⟩
theorem t169_ok : t169.ok Tryd.prog 169 := ⟨by kernel_rfl, by kernel_rfl, by kernel_rfl, Tryd.underlying169, (fun h => by cases h), ⟨rfl, rfl, rfl, rfl, fun F h β => by simp [t169, Rep, Reps]⟩⟩
theorem t176_ok : t176.ok Tryd.prog 176 := ⟨by kernel_rfl, by kernel_rfl, by kernel_rfl, Tryd.underlying176, (fun h => by cases h), ⟨rfl, rfl, rfl, rfl, fun F h β => by simp [t176, Rep, Reps]⟩⟩
theorem t179_ok : t179.ok Tryd.prog 179 := ⟨by kernel_rfl, by kernel_rfl, by kernel_rfl, ⟨_, _, _, Tryd.underlying179⟩, (fun h => by cases h), ⟨rfl, rfl, rfl, rfl, fun F h β => by simp [t179, Rep, Reps]⟩⟩
theorem t180_ok : t180.ok Tryd.prog 180 := ⟨by kernel_rfl, by kernel_rfl, by kernel_rfl, Tryd.underlying180, (fun h => by cases h), ⟨rfl, rfl, rfl, rfl, fun F h β => by simp [t180, Rep, Reps]⟩⟩
theorem t183_ok : t183.ok Tryd.prog 183 := ⟨by kernel_rfl, by kernel_rfl, by kernel_rfl, ⟨_, Tryd.underlying183, rfl⟩, (fun h => by cases h), ⟨rfl, rfl, rfl, rfl, fun F h β => by simp [t183, Rep, Reps]⟩⟩
theorem t193_ok : t193.ok Tryd.prog 193 := ⟨by kernel_rfl, by kernel_rfl, by kernel_rfl, ⟨_, Tryd.underlying193, rfl⟩, (fun h => by cases h), ⟨rfl, rfl, rfl, rfl, fun F h β => by simp [t193, Rep, Reps]⟩⟩
theorem t194_ok : t194.ok Tryd.prog 194 := ⟨by kernel_rfl, by kernel_rfl, by kernel_rfl, ⟨_, Tryd.underlying194, rfl⟩, (fun h => by cases h), ⟨rfl, rfl, rfl, rfl, fun F h β => by simp [t194, Rep, Reps]⟩⟩
theorem t195_ok : t195.ok Tryd.prog 195 := ⟨by kernel_rfl, by kernel_rfl, by kernel_rfl, ⟨_, Tryd.underlying195, rfl⟩, (fun h => by cases h), ⟨rfl, rfl, rfl, rfl, fun F h β => by simp [t195, Rep, Reps]⟩⟩
theorem t196_ok : t196.ok Tryd.prog 196 := ⟨by kernel_rfl, by kernel_rfl, by kernel_rfl, ⟨_, Tryd.underlying196, rfl⟩, (fun h => by cases h), ⟨rfl, rfl, rfl, rfl, fun F h β => by simp [t196, Rep, Reps]⟩⟩
theorem t198_ok : t198.ok Tryd.prog 198 := ⟨by kernel_rfl, by kernel_rfl, by kernel_rfl, ⟨_, Tryd.underlying198, rfl⟩, (fun _ => eqInts_of (by kernel_rfl) (by kernel_rfl) (by kernel_rfl)), ⟨rfl, rfl, rfl, rfl, fun F h β => by simp [t198, Rep, Reps]⟩⟩
theorem t199_ok : t199.ok Tryd.prog 199 := ⟨by kernel_rfl, by kernel_rfl, by kernel_rfl, ⟨_, Tryd.underlying199, rfl⟩, (fun _ => eqInts_of (by kernel_rfl) (by kernel_rfl) (by kernel_rfl)), ⟨rfl, rfl, rfl, rfl, fun F h β => by simp [t199, Rep, Reps]⟩⟩
theorem t202_ok : t202.ok Tryd.prog 202 := ⟨by kernel_rfl, by kernel_rfl, by kernel_rfl, Tryd.underlying202, (fun h => by cases h), ⟨rfl, rfl, rfl, rfl, fun F h β => by simp [t202, Rep, Reps]⟩⟩
theorem t203_ok : t203.ok Tryd.prog 203 := ⟨by kernel_rfl, by kernel_rfl, by kernel_rfl, ⟨_, Tryd.underlying203, rfl⟩, (fun h => by cases h), ⟨rfl, rfl, rfl, rfl, fun F h β => by simp [t203, Rep, Reps]⟩⟩
theorem t205_ok : t205.ok Tryd.prog 205 := ⟨by kernel_rfl, by kernel_rfl, by kernel_rfl, Tryd.underlying205, (fun h => by cases h), ⟨rfl, rfl, rfl, rfl, fun F h β => by simp [t205, Rep, Reps]⟩⟩
theorem t207_ok : t207.ok Tryd.prog 207 := ⟨by kernel_rfl, by kernel_rfl, by kernel_rfl, ⟨_, Tryd.underlying207, rfl⟩, (fun h => by cases h), ⟨rfl, rfl, rfl, rfl, fun F h β => by simp [t207, Rep, Reps]⟩⟩
def G : Ctx := [(2, t2), (3, t3), (4, t4), (5, t5), (9, t9), (12, t12), (20, t20), (21, t21), (24, t24), (25, t25), (26, t26), (27, t27), (29, t29), (30, t30), (31, t31), (36, t36), (38, t38), (40, t40), (48, t48), (51, t51), (55, t55), (59, t59), (64, t64), (65, t65), (69, t69), (71, t71), (73, t73), (81, t81), (82, t82), (88, t88), (89, t89), (91, t91), (93, t93), (95, t95), (96, t96), (100, t100), (101, t101), (102, t102), (103, t103), (104, t104), (106, t106), (107, t107), (112, t112), (113, t113), (116, t116), (117, t117), (120, t120), (124, t124), (128, t128), (129, t129), (130, t130), (132, t132), (133, t133), (138, t138), (139, t139), (140, t140), (141, t141), (144, t144), (147, t147), (148, t148), (149, t149), (150, t150), (153, t153), (155, t155), (156, t156), (159, t159), (165, t165), (169, t169), (176, t176), (179, t179), (180, t180), (183, t183), (193, t193), (194, t194), (195, t195), (196, t196), (198, t198), (199, t199), (202, t202), (203, t203), (205, t205), (207, t207)]
@[simp] theorem G_2 : G.get 2 = some t2 := rfl
@[simp] theorem G_3 : G.get 3 = some t3 := rfl
@[simp] theorem G_4 : G.get 4 = some t4 := rfl
@[simp] theorem G_5 : G.get 5 = some t5 := rfl
@[simp] theorem G_9 : G.get 9 = some t9 := rfl
@[simp] theorem G_12 : G.get 12 = some t12 := rfl
@[simp] theorem G_20 : G.get 20 = some t20 := rfl
@[simp] theorem G_21 : G.get 21 = some t21 := rfl
@[simp] theorem G_24 : G.get 24 = some t24 := rfl
@[simp] theorem G_25 : G.get 25 = some t25 := rfl
@[simp] theorem G_26 : G.get 26 = some t26 := rfl
@[simp] theorem G_27 : G.get 27 = some t27 := rfl
@[simp] theorem G_29 : G.get 29 = some t29 := rfl
@[simp] theorem G_30 : G.get 30 = some t30 := rfl
@[simp] theorem G_31 : G.get 31 = some t31 := rfl
@[simp] theorem G_36 : G.get 36 = some t36 := rfl
@[simp] theorem G_38 : G.get 38 = some t38 := rfl
@[simp] theorem G_40 : G.get 40 = some t40 := rfl
@[simp] theorem G_48 : G.get 48 = some t48 := rfl
@[simp] theorem G_51 : G.get 51 = some t51 := rfl
@[simp] theorem G_55 : G.get 55 = some t55 := rfl
@[simp] theorem G_59 : G.get 59 = some t59 := rfl
@[simp] theorem G_64 : G.get 64 = some t64 := rfl
@[simp] theorem G_65 : G.get 65 = some t65 := rfl
@[simp] theorem G_69 : G.get 69 = some t69 := rfl
@[simp] theorem G_71 : G.get 71 = some t71 := rfl
@[simp] theorem G_73 : G.get 73 = some t73 := rfl
@[simp] theorem G_81 : G.get 81 = some t81 := rfl
@[simp] theorem G_82 : G.get 82 = some t82 := rfl
@[simp] theorem G_88 : G.get 88 = some t88 := rfl
@[simp] theorem G_89 : G.get 89 = some t89 := rfl
@[simp] theorem G_91 : G.get 91 = some t91 := rfl
@[simp] theorem G_93 : G.get 93 = some t93 := rfl
@[simp] theorem G_95 : G.get 95 = some t95 := rfl
@[simp] theorem G_96 : G.get 96 = some t96 := rfl
@[simp] theorem G_100 : G.get 100 = some t100 := rfl
@[simp] theorem G_101 : G.get 101 = some t101 := rfl
@[simp] theorem G_102 : G.get 102 = some t102 := rfl
@[simp] theorem G_103 : G.get 103 = some t103 := rfl
@[simp] theorem G_104 : G.get 104 = some t104 := rfl
@[simp] theorem G_106 : G.get 106 = some t106 := rfl
@[simp] theorem G_107 : G.get 107 = some t107 := rfl
@[simp] theorem G_112 : G.get 112 = some t112 := rfl
@[simp] theorem G_113 : G.get 113 = some t113 := rfl
@[simp] theorem G_116 : G.get 116 = some t116 := rfl
@[simp] theorem G_117 : G.get 117 = some t117 := rfl
@[simp] theorem G_120 : G.get 120 = some t120 := rfl
@[simp] theorem G_124 : G.get 124 = some t124 := rfl
@[simp] theorem G_128 : G.get 128 = some t128 := rfl
@[simp] theorem G_129 : G.get 129 = some t129 := rfl
@[simp] theorem G_130 : G.get 130 = some t130 := rfl
@[simp] theorem G_132 : G.get 132 = some t132 := rfl
@[simp] theorem G_133 : G.get 133 = some t133 := rfl
@[simp] theorem G_138 : G.get 138 = some t138 := rfl
@[simp] theorem G_139 : G.get 139 = some t139 := rfl
@[simp] theorem G_140 : G.get 140 = some t140 := rfl
@[simp] theorem G_141 : G.get 141 = some t141 := rfl
@[simp] theorem G_144 : G.get 144 = some t144 := rfl
@[simp] theorem G_147 : G.get 147 = some t147 := rfl
@[simp] theorem G_148 : G.get 148 = some t148 := rfl
@[simp] theorem G_149 : G.get 149 = some t149 := rfl
@[simp] theorem G_150 : G.get 150 = some t150 := rfl
@[simp] theorem G_153 : G.get 153 = some t153 := rfl
@[simp] theorem G_155 : G.get 155 = some t155 := rfl
@[simp] theorem G_156 : G.get 156 = some t156 := rfl
@[simp] theorem G_159 : G.get 159 = some t159 := rfl
@[simp] theorem G_165 : G.get 165 = some t165 := rfl
@[simp] theorem G_169 : G.get 169 = some t169 := rfl
@[simp] theorem G_176 : G.get 176 = some t176 := rfl
@[simp] theorem G_179 : G.get 179 = some t179 := rfl
@[simp] theorem G_180 : G.get 180 = some t180 := rfl
@[simp] theorem G_183 : G.get 183 = some t183 := rfl
@[simp] theorem G_193 : G.get 193 = some t193 := rfl
@[simp] theorem G_194 : G.get 194 = some t194 := rfl
@[simp] theorem G_195 : G.get 195 = some t195 := rfl
@[simp] theorem G_196 : G.get 196 = some t196 := rfl
@[simp] theorem G_198 : G.get 198 = some t198 := rfl
@[simp] theorem G_199 : G.get 199 = some t199 := rfl
@[simp] theorem G_202 : G.get 202 = some t202 := rfl
@[simp] theorem G_203 : G.get 203 = some t203 := rfl
@[simp] theorem G_205 : G.get 205 = some t205 := rfl
@[simp] theorem G_207 : G.get 207 = some t207 := rfl
theorem G_ok : G.ok Tryd.prog := by
  intro p hp
  simp only [G, List.mem_cons, List.not_mem_nil, or_false] at hp
  rcases hp with rfl | rfl | rfl | rfl | rfl | rfl | rfl | rfl | rfl | rfl | rfl | rfl | rfl | rfl | rfl | rfl | rfl | rfl | rfl | rfl | rfl | rfl | rfl | rfl | rfl | rfl | rfl | rfl | rfl | rfl | rfl | rfl | rfl | rfl | rfl | rfl | rfl | rfl | rfl | rfl | rfl | rfl | rfl | rfl | rfl | rfl | rfl | rfl | rfl | rfl | rfl | rfl | rfl | rfl | rfl | rfl | rfl | rfl | rfl | rfl | rfl | rfl | rfl | rfl | rfl | rfl | rfl | rfl | rfl | rfl | rfl | rfl | rfl | rfl | rfl | rfl | rfl | rfl | rfl | rfl | rfl | rfl
  · exact t2_ok
  · exact t3_ok
  · exact t4_ok
  · exact t5_ok
  · exact t9_ok
  · exact t12_ok
  · exact t20_ok
  · exact t21_ok
  · exact t24_ok
  · exact t25_ok
  · exact t26_ok
  · exact t27_ok
  · exact t29_ok
  · exact t30_ok
  · exact t31_ok
  · exact t36_ok
  · exact t38_ok
  · exact t40_ok
  · exact t48_ok
  · exact t51_ok
  · exact t55_ok
  · exact t59_ok
  · exact t64_ok
  · exact t65_ok
  · exact t69_ok
  · exact t71_ok
  · exact t73_ok
  · exact t81_ok
  · exact t82_ok
  · exact t88_ok
  · exact t89_ok
  · exact t91_ok
  · exact t93_ok
  · exact t95_ok
  · exact t96_ok
  · exact t100_ok
  · exact t101_ok
  · exact t102_ok
  · exact t103_ok
  · exact t104_ok
  · exact t106_ok
  · exact t107_ok
  · exact t112_ok
  · exact t113_ok
  · exact t116_ok
  · exact t117_ok
  · exact t120_ok
  · exact t124_ok
  · exact t128_ok
  · exact t129_ok
  · exact t130_ok
  · exact t132_ok
  · exact t133_ok
  · exact t138_ok
  · exact t139_ok
  · exact t140_ok
  · exact t141_ok
  · exact t144_ok
  · exact t147_ok
  · exact t148_ok
  · exact t149_ok
  · exact t150_ok
  · exact t153_ok
  · exact t155_ok
  · exact t156_ok
  · exact t159_ok
  · exact t165_ok
  · exact t169_ok
  · exact t176_ok
  · exact t179_ok
  · exact t180_ok
  · exact t183_ok
  · exact t193_ok
  · exact t194_ok
  · exact t195_ok
  · exact t196_ok
  · exact t198_ok
  · exact t199_ok
  · exact t202_ok
  · exact t203_ok
  · exact t205_ok
  · exact t207_ok
theorem mix : Tryd.prog.follows .mixedOrders = true := by kernel_rfl
end Go.Proofs.YtobofamoagbacaaDoor
