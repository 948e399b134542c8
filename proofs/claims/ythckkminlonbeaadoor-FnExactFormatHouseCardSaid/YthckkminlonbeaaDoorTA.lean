/- What is known of the types of this program: their sizes, zero values and parts. -/
import Derived.Test.YthckkminlonbeaaDoorProg
import Derived.Test.YthckkminlonbeaaDoorTY
import Derived.KernelRfl
namespace Go.Proofs.YthckkminlonbeaaDoor
open Go Go.Eng
set_option linter.unusedSimpArgs false
set_option linter.unusedVariables false
set_option maxRecDepth 20000
/-- int64 -/
def t2 : TI := ⟨1, 8, .int .i64 0, .lit (.int .i64 0), .lit (.int .i64 0), .int .i64, false⟩
@[simp] theorem t2_size : t2.size = 1 := rfl
@[simp] theorem t2_bytes : t2.bytes = 8 := rfl
@[simp] theorem t2_z : t2.z = .lit (.int .i64 0) := rfl
@[simp] theorem t2_y : t2.y = .lit (.int .i64 0) := rfl
@[simp] theorem t2_kind : t2.kind = .int .i64 := rfl
@[simp] theorem t2_cmp : t2.cmp = false := rfl
/-- int -/
def t3 : TI := ⟨1, 8, .int .i64 0, .lit (.int .i64 0), .lit (.int .i64 0), .int .i64, false⟩
@[simp] theorem t3_size : t3.size = 1 := rfl
@[simp] theorem t3_bytes : t3.bytes = 8 := rfl
@[simp] theorem t3_z : t3.z = .lit (.int .i64 0) := rfl
@[simp] theorem t3_y : t3.y = .lit (.int .i64 0) := rfl
@[simp] theorem t3_kind : t3.kind = .int .i64 := rfl
@[simp] theorem t3_cmp : t3.cmp = false := rfl
/-- bool -/
def t4 : TI := ⟨1, 1, .bool false, .lit (.bool false), .lit (.bool false), .bool, false⟩
@[simp] theorem t4_size : t4.size = 1 := rfl
@[simp] theorem t4_bytes : t4.bytes = 1 := rfl
@[simp] theorem t4_z : t4.z = .lit (.bool false) := rfl
@[simp] theorem t4_y : t4.y = .lit (.bool false) := rfl
@[simp] theorem t4_kind : t4.kind = .bool := rfl
@[simp] theorem t4_cmp : t4.cmp = false := rfl
/-- uint8 -/
def t5 : TI := ⟨1, 1, .int .u8 0, .lit (.int .u8 0), .lit (.int .u8 0), .int .u8, false⟩
@[simp] theorem t5_size : t5.size = 1 := rfl
@[simp] theorem t5_bytes : t5.bytes = 1 := rfl
@[simp] theorem t5_z : t5.z = .lit (.int .u8 0) := rfl
@[simp] theorem t5_y : t5.y = .lit (.int .u8 0) := rfl
@[simp] theorem t5_kind : t5.kind = .int .u8 := rfl
@[simp] theorem t5_cmp : t5.cmp = false := rfl
/-- string -/
def t9 : TI := ⟨1, 16, .string ⟨#[]⟩, .lit (.string ⟨#[]⟩), .lit (.string ⟨#[]⟩), .str, false⟩
@[simp] theorem t9_size : t9.size = 1 := rfl
@[simp] theorem t9_bytes : t9.bytes = 16 := rfl
@[simp] theorem t9_z : t9.z = .lit (.string ⟨#[]⟩) := rfl
@[simp] theorem t9_y : t9.y = .lit (.string ⟨#[]⟩) := rfl
@[simp] theorem t9_kind : t9.kind = .str := rfl
@[simp] theorem t9_cmp : t9.cmp = false := rfl
/-- uintptr -/
def t12 : TI := ⟨1, 8, .int .u64 0, .lit (.int .u64 0), .lit (.int .u64 0), .int .u64, false⟩
@[simp] theorem t12_size : t12.size = 1 := rfl
@[simp] theorem t12_bytes : t12.bytes = 8 := rfl
@[simp] theorem t12_z : t12.z = .lit (.int .u64 0) := rfl
@[simp] theorem t12_y : t12.y = .lit (.int .u64 0) := rfl
@[simp] theorem t12_kind : t12.kind = .int .u64 := rfl
@[simp] theorem t12_cmp : t12.cmp = false := rfl
/-- interface {} -/
def t20 : TI := ⟨1, 16, .nilIface, .lit .nilIface, .lit .nilIface, .iface, false⟩
@[simp] theorem t20_size : t20.size = 1 := rfl
@[simp] theorem t20_bytes : t20.bytes = 16 := rfl
@[simp] theorem t20_z : t20.z = .lit .nilIface := rfl
@[simp] theorem t20_y : t20.y = .lit .nilIface := rfl
@[simp] theorem t20_kind : t20.kind = .iface := rfl
@[simp] theorem t20_cmp : t20.cmp = false := rfl
/-- int32 -/
def t21 : TI := ⟨1, 4, .int .i32 0, .lit (.int .i32 0), .lit (.int .i32 0), .int .i32, false⟩
@[simp] theorem t21_size : t21.size = 1 := rfl
@[simp] theorem t21_bytes : t21.bytes = 4 := rfl
@[simp] theorem t21_z : t21.z = .lit (.int .i32 0) := rfl
@[simp] theorem t21_y : t21.y = .lit (.int .i32 0) := rfl
@[simp] theorem t21_kind : t21.kind = .int .i32 := rfl
@[simp] theorem t21_cmp : t21.cmp = false := rfl
/-- []laws.Find -/
def t22 : TI := ⟨1, 24, .slice none 0 0, .sl true 0 .any [], yLTFind, .slice 82, false⟩
@[simp] theorem t22_size : t22.size = 1 := rfl
@[simp] theorem t22_bytes : t22.bytes = 24 := rfl
@[simp] theorem t22_z : t22.z = .sl true 0 .any [] := rfl
@[simp] theorem t22_y : t22.y = yLTFind := rfl
@[simp] theorem t22_kind : t22.kind = .slice 82 := rfl
@[simp] theorem t22_cmp : t22.cmp = false := rfl
/-- []laws.Secret -/
def t23 : TI := ⟨1, 24, .slice none 0 0, .sl true 0 .any [], yLTSecret, .slice 71, false⟩
@[simp] theorem t23_size : t23.size = 1 := rfl
@[simp] theorem t23_bytes : t23.bytes = 24 := rfl
@[simp] theorem t23_z : t23.z = .sl true 0 .any [] := rfl
@[simp] theorem t23_y : t23.y = yLTSecret := rfl
@[simp] theorem t23_kind : t23.kind = .slice 71 := rfl
@[simp] theorem t23_cmp : t23.cmp = false := rfl
/-- []laws.Slot -/
def t24 : TI := ⟨1, 24, .slice none 0 0, .sl true 0 .any [], yLTSlot, .slice 90, false⟩
@[simp] theorem t24_size : t24.size = 1 := rfl
@[simp] theorem t24_bytes : t24.bytes = 24 := rfl
@[simp] theorem t24_z : t24.z = .sl true 0 .any [] := rfl
@[simp] theorem t24_y : t24.y = yLTSlot := rfl
@[simp] theorem t24_kind : t24.kind = .slice 90 := rfl
@[simp] theorem t24_cmp : t24.cmp = false := rfl
/-- []laws.Claim -/
def t25 : TI := ⟨1, 24, .slice none 0 0, .sl true 0 .any [], yLTClaim, .slice 94, false⟩
@[simp] theorem t25_size : t25.size = 1 := rfl
@[simp] theorem t25_bytes : t25.bytes = 24 := rfl
@[simp] theorem t25_z : t25.z = .sl true 0 .any [] := rfl
@[simp] theorem t25_y : t25.y = yLTClaim := rfl
@[simp] theorem t25_kind : t25.kind = .slice 94 := rfl
@[simp] theorem t25_cmp : t25.cmp = false := rfl
/-- []laws.Trial -/
def t26 : TI := ⟨1, 24, .slice none 0 0, .sl true 0 .any [], yLTTrial, .slice 98, false⟩
@[simp] theorem t26_size : t26.size = 1 := rfl
@[simp] theorem t26_bytes : t26.bytes = 24 := rfl
@[simp] theorem t26_z : t26.z = .sl true 0 .any [] := rfl
@[simp] theorem t26_y : t26.y = yLTTrial := rfl
@[simp] theorem t26_kind : t26.kind = .slice 98 := rfl
@[simp] theorem t26_cmp : t26.cmp = false := rfl
/-- []laws.Hand -/
def t27 : TI := ⟨1, 24, .slice none 0 0, .sl true 0 .any [], yLTHand, .slice 102, false⟩
@[simp] theorem t27_size : t27.size = 1 := rfl
@[simp] theorem t27_bytes : t27.bytes = 24 := rfl
@[simp] theorem t27_z : t27.z = .sl true 0 .any [] := rfl
@[simp] theorem t27_y : t27.y = yLTHand := rfl
@[simp] theorem t27_kind : t27.kind = .slice 102 := rfl
@[simp] theorem t27_cmp : t27.cmp = false := rfl
/-- []laws.Entry -/
def t28 : TI := ⟨1, 24, .slice none 0 0, .sl true 0 .any [], yLTEntry, .slice 106, false⟩
@[simp] theorem t28_size : t28.size = 1 := rfl
@[simp] theorem t28_bytes : t28.bytes = 24 := rfl
@[simp] theorem t28_z : t28.z = .sl true 0 .any [] := rfl
@[simp] theorem t28_y : t28.y = yLTEntry := rfl
@[simp] theorem t28_kind : t28.kind = .slice 106 := rfl
@[simp] theorem t28_cmp : t28.cmp = false := rfl
/-- struct { No int; Finds []laws.Find; Secrets []laws.Secret; Slots []laws.Slot; Claims []laws.Claim; Trials []laws.Trial; Chain []laws.Hand; Book []laws.Entry; Now int } -/
def t29 : TI := ⟨9, 184, .agg #[.int .i64 0, .slice none 0 0, .slice none 0 0, .slice none 0 0, .slice none 0 0, .slice none 0 0, .slice none 0 0, .slice none 0 0, .int .i64 0], .agg [.lit (.int .i64 0), .sl true 0 .any [], .sl true 0 .any [], .sl true 0 .any [], .sl true 0 .any [], .sl true 0 .any [], .sl true 0 .any [], .sl true 0 .any [], .lit (.int .i64 0)], yTHouse, .st [(0, 3), (1, 22), (2, 23), (3, 24), (4, 25), (5, 26), (6, 27), (7, 28), (8, 3)], false⟩
@[simp] theorem t29_size : t29.size = 9 := rfl
@[simp] theorem t29_bytes : t29.bytes = 184 := rfl
@[simp] theorem t29_z : t29.z = .agg [.lit (.int .i64 0), .sl true 0 .any [], .sl true 0 .any [], .sl true 0 .any [], .sl true 0 .any [], .sl true 0 .any [], .sl true 0 .any [], .sl true 0 .any [], .lit (.int .i64 0)] := rfl
@[simp] theorem t29_y : t29.y = yTHouse := rfl
@[simp] theorem t29_kind : t29.kind = .st [(0, 3), (1, 22), (2, 23), (3, 24), (4, 25), (5, 26), (6, 27), (7, 28), (8, 3)] := rfl
@[simp] theorem t29_cmp : t29.cmp = false := rfl
/-- laws.House = loop.example/g03007/laws.House -/
def t30 : TI := ⟨9, 184, .agg #[.int .i64 0, .slice none 0 0, .slice none 0 0, .slice none 0 0, .slice none 0 0, .slice none 0 0, .slice none 0 0, .slice none 0 0, .int .i64 0], .agg [.lit (.int .i64 0), .sl true 0 .any [], .sl true 0 .any [], .sl true 0 .any [], .sl true 0 .any [], .sl true 0 .any [], .sl true 0 .any [], .sl true 0 .any [], .lit (.int .i64 0)], yTHouse, .st [(0, 3), (1, 22), (2, 23), (3, 24), (4, 25), (5, 26), (6, 27), (7, 28), (8, 3)], false⟩
@[simp] theorem t30_size : t30.size = 9 := rfl
@[simp] theorem t30_bytes : t30.bytes = 184 := rfl
@[simp] theorem t30_z : t30.z = .agg [.lit (.int .i64 0), .sl true 0 .any [], .sl true 0 .any [], .sl true 0 .any [], .sl true 0 .any [], .sl true 0 .any [], .sl true 0 .any [], .sl true 0 .any [], .lit (.int .i64 0)] := rfl
@[simp] theorem t30_y : t30.y = yTHouse := rfl
@[simp] theorem t30_kind : t30.kind = .st [(0, 3), (1, 22), (2, 23), (3, 24), (4, 25), (5, 26), (6, 27), (7, 28), (8, 3)] := rfl
@[simp] theorem t30_cmp : t30.cmp = false := rfl
/-- func(impl.House) string -/
def t32 : TI := ⟨1, 8, .nilFunc, .lit .nilFunc, .lit .nilFunc, .func, false⟩
@[simp] theorem t32_size : t32.size = 1 := rfl
@[simp] theorem t32_bytes : t32.bytes = 8 := rfl
@[simp] theorem t32_z : t32.z = .lit .nilFunc := rfl
@[simp] theorem t32_y : t32.y = .lit .nilFunc := rfl
@[simp] theorem t32_kind : t32.kind = .func := rfl
@[simp] theorem t32_cmp : t32.cmp = false := rfl
/-- []impl.Find -/
def t33 : TI := ⟨1, 24, .slice none 0 0, .sl true 0 .any [], yLTFind, .slice 78, false⟩
@[simp] theorem t33_size : t33.size = 1 := rfl
@[simp] theorem t33_bytes : t33.bytes = 24 := rfl
@[simp] theorem t33_z : t33.z = .sl true 0 .any [] := rfl
@[simp] theorem t33_y : t33.y = yLTFind := rfl
@[simp] theorem t33_kind : t33.kind = .slice 78 := rfl
@[simp] theorem t33_cmp : t33.cmp = false := rfl
/-- []impl.Secret -/
def t34 : TI := ⟨1, 24, .slice none 0 0, .sl true 0 .any [], yLTSecret, .slice 85, false⟩
@[simp] theorem t34_size : t34.size = 1 := rfl
@[simp] theorem t34_bytes : t34.bytes = 24 := rfl
@[simp] theorem t34_z : t34.z = .sl true 0 .any [] := rfl
@[simp] theorem t34_y : t34.y = yLTSecret := rfl
@[simp] theorem t34_kind : t34.kind = .slice 85 := rfl
@[simp] theorem t34_cmp : t34.cmp = false := rfl
/-- []impl.Slot -/
def t35 : TI := ⟨1, 24, .slice none 0 0, .sl true 0 .any [], yLTSlot, .slice 88, false⟩
@[simp] theorem t35_size : t35.size = 1 := rfl
@[simp] theorem t35_bytes : t35.bytes = 24 := rfl
@[simp] theorem t35_z : t35.z = .sl true 0 .any [] := rfl
@[simp] theorem t35_y : t35.y = yLTSlot := rfl
@[simp] theorem t35_kind : t35.kind = .slice 88 := rfl
@[simp] theorem t35_cmp : t35.cmp = false := rfl
/-- []impl.Claim -/
def t36 : TI := ⟨1, 24, .slice none 0 0, .sl true 0 .any [], yLTClaim, .slice 92, false⟩
@[simp] theorem t36_size : t36.size = 1 := rfl
@[simp] theorem t36_bytes : t36.bytes = 24 := rfl
@[simp] theorem t36_z : t36.z = .sl true 0 .any [] := rfl
@[simp] theorem t36_y : t36.y = yLTClaim := rfl
@[simp] theorem t36_kind : t36.kind = .slice 92 := rfl
@[simp] theorem t36_cmp : t36.cmp = false := rfl
/-- []impl.Trial -/
def t37 : TI := ⟨1, 24, .slice none 0 0, .sl true 0 .any [], yLTTrial, .slice 96, false⟩
@[simp] theorem t37_size : t37.size = 1 := rfl
@[simp] theorem t37_bytes : t37.bytes = 24 := rfl
@[simp] theorem t37_z : t37.z = .sl true 0 .any [] := rfl
@[simp] theorem t37_y : t37.y = yLTTrial := rfl
@[simp] theorem t37_kind : t37.kind = .slice 96 := rfl
@[simp] theorem t37_cmp : t37.cmp = false := rfl
/-- []impl.Hand -/
def t38 : TI := ⟨1, 24, .slice none 0 0, .sl true 0 .any [], yLTHand, .slice 100, false⟩
@[simp] theorem t38_size : t38.size = 1 := rfl
@[simp] theorem t38_bytes : t38.bytes = 24 := rfl
@[simp] theorem t38_z : t38.z = .sl true 0 .any [] := rfl
@[simp] theorem t38_y : t38.y = yLTHand := rfl
@[simp] theorem t38_kind : t38.kind = .slice 100 := rfl
@[simp] theorem t38_cmp : t38.cmp = false := rfl
/-- []impl.Entry -/
def t39 : TI := ⟨1, 24, .slice none 0 0, .sl true 0 .any [], yLTEntry, .slice 104, false⟩
@[simp] theorem t39_size : t39.size = 1 := rfl
@[simp] theorem t39_bytes : t39.bytes = 24 := rfl
@[simp] theorem t39_z : t39.z = .sl true 0 .any [] := rfl
@[simp] theorem t39_y : t39.y = yLTEntry := rfl
@[simp] theorem t39_kind : t39.kind = .slice 104 := rfl
@[simp] theorem t39_cmp : t39.cmp = false := rfl
/-- struct { No int; Finds []impl.Find; Secrets []impl.Secret; Slots []impl.Slot; Claims []impl.Claim; Trials []impl.Trial; Chain []impl.Hand; Book []impl.Entry; Now int } -/
def t40 : TI := ⟨9, 184, .agg #[.int .i64 0, .slice none 0 0, .slice none 0 0, .slice none 0 0, .slice none 0 0, .slice none 0 0, .slice none 0 0, .slice none 0 0, .int .i64 0], .agg [.lit (.int .i64 0), .sl true 0 .any [], .sl true 0 .any [], .sl true 0 .any [], .sl true 0 .any [], .sl true 0 .any [], .sl true 0 .any [], .sl true 0 .any [], .lit (.int .i64 0)], yTHouse, .st [(0, 3), (1, 33), (2, 34), (3, 35), (4, 36), (5, 37), (6, 38), (7, 39), (8, 3)], false⟩
@[simp] theorem t40_size : t40.size = 9 := rfl
@[simp] theorem t40_bytes : t40.bytes = 184 := rfl
@[simp] theorem t40_z : t40.z = .agg [.lit (.int .i64 0), .sl true 0 .any [], .sl true 0 .any [], .sl true 0 .any [], .sl true 0 .any [], .sl true 0 .any [], .sl true 0 .any [], .sl true 0 .any [], .lit (.int .i64 0)] := rfl
@[simp] theorem t40_y : t40.y = yTHouse := rfl
@[simp] theorem t40_kind : t40.kind = .st [(0, 3), (1, 33), (2, 34), (3, 35), (4, 36), (5, 37), (6, 38), (7, 39), (8, 3)] := rfl
@[simp] theorem t40_cmp : t40.cmp = false := rfl
/-- impl.House = loop.example/g03007/impl.House -/
def t41 : TI := ⟨9, 184, .agg #[.int .i64 0, .slice none 0 0, .slice none 0 0, .slice none 0 0, .slice none 0 0, .slice none 0 0, .slice none 0 0, .slice none 0 0, .int .i64 0], .agg [.lit (.int .i64 0), .sl true 0 .any [], .sl true 0 .any [], .sl true 0 .any [], .sl true 0 .any [], .sl true 0 .any [], .sl true 0 .any [], .sl true 0 .any [], .lit (.int .i64 0)], yTHouse, .st [(0, 3), (1, 33), (2, 34), (3, 35), (4, 36), (5, 37), (6, 38), (7, 39), (8, 3)], false⟩
@[simp] theorem t41_size : t41.size = 9 := rfl
@[simp] theorem t41_bytes : t41.bytes = 184 := rfl
@[simp] theorem t41_z : t41.z = .agg [.lit (.int .i64 0), .sl true 0 .any [], .sl true 0 .any [], .sl true 0 .any [], .sl true 0 .any [], .sl true 0 .any [], .sl true 0 .any [], .sl true 0 .any [], .lit (.int .i64 0)] := rfl
@[simp] theorem t41_y : t41.y = yTHouse := rfl
@[simp] theorem t41_kind : t41.kind = .st [(0, 3), (1, 33), (2, 34), (3, 35), (4, 36), (5, 37), (6, 38), (7, 39), (8, 3)] := rfl
@[simp] theorem t41_cmp : t41.cmp = false := rfl
/-- []int -/
def t53 : TI := ⟨1, 24, .slice none 0 0, .sl true 0 .any [], yLI, .slice 3, false⟩
@[simp] theorem t53_size : t53.size = 1 := rfl
@[simp] theorem t53_bytes : t53.bytes = 24 := rfl
@[simp] theorem t53_z : t53.z = .sl true 0 .any [] := rfl
@[simp] theorem t53_y : t53.y = yLI := rfl
@[simp] theorem t53_kind : t53.kind = .slice 3 := rfl
@[simp] theorem t53_cmp : t53.cmp = false := rfl
/-- func([]impl.Claim, []impl.Claim) bool -/
def t64 : TI := ⟨1, 8, .nilFunc, .lit .nilFunc, .lit .nilFunc, .func, false⟩
@[simp] theorem t64_size : t64.size = 1 := rfl
@[simp] theorem t64_bytes : t64.bytes = 8 := rfl
@[simp] theorem t64_z : t64.z = .lit .nilFunc := rfl
@[simp] theorem t64_y : t64.y = .lit .nilFunc := rfl
@[simp] theorem t64_kind : t64.kind = .func := rfl
@[simp] theorem t64_cmp : t64.cmp = false := rfl
/-- func([]impl.Trial, []impl.Trial) bool -/
def t65 : TI := ⟨1, 8, .nilFunc, .lit .nilFunc, .lit .nilFunc, .func, false⟩
@[simp] theorem t65_size : t65.size = 1 := rfl
@[simp] theorem t65_bytes : t65.bytes = 8 := rfl
@[simp] theorem t65_z : t65.z = .lit .nilFunc := rfl
@[simp] theorem t65_y : t65.y = .lit .nilFunc := rfl
@[simp] theorem t65_kind : t65.kind = .func := rfl
@[simp] theorem t65_cmp : t65.cmp = false := rfl
/-- []laws.Mark -/
def t69 : TI := ⟨1, 24, .slice none 0 0, .sl true 0 .any [], yLTMark, .slice 126, false⟩
@[simp] theorem t69_size : t69.size = 1 := rfl
@[simp] theorem t69_bytes : t69.bytes = 24 := rfl
@[simp] theorem t69_z : t69.z = .sl true 0 .any [] := rfl
@[simp] theorem t69_y : t69.y = yLTMark := rfl
@[simp] theorem t69_kind : t69.kind = .slice 126 := rfl
@[simp] theorem t69_cmp : t69.cmp = false := rfl
/-- struct { Thing int; Marks []laws.Mark; Salt int } -/
def t70 : TI := ⟨3, 40, .agg #[.int .i64 0, .slice none 0 0, .int .i64 0], .agg [.lit (.int .i64 0), .sl true 0 .any [], .lit (.int .i64 0)], yTSecret, .st [(0, 3), (1, 69), (2, 3)], false⟩
@[simp] theorem t70_size : t70.size = 3 := rfl
@[simp] theorem t70_bytes : t70.bytes = 40 := rfl
@[simp] theorem t70_z : t70.z = .agg [.lit (.int .i64 0), .sl true 0 .any [], .lit (.int .i64 0)] := rfl
@[simp] theorem t70_y : t70.y = yTSecret := rfl
@[simp] theorem t70_kind : t70.kind = .st [(0, 3), (1, 69), (2, 3)] := rfl
@[simp] theorem t70_cmp : t70.cmp = false := rfl
/-- laws.Secret = loop.example/g03007/laws.Secret -/
def t71 : TI := ⟨3, 40, .agg #[.int .i64 0, .slice none 0 0, .int .i64 0], .agg [.lit (.int .i64 0), .sl true 0 .any [], .lit (.int .i64 0)], yTSecret, .st [(0, 3), (1, 69), (2, 3)], false⟩
@[simp] theorem t71_size : t71.size = 3 := rfl
@[simp] theorem t71_bytes : t71.bytes = 40 := rfl
@[simp] theorem t71_z : t71.z = .agg [.lit (.int .i64 0), .sl true 0 .any [], .lit (.int .i64 0)] := rfl
@[simp] theorem t71_y : t71.y = yTSecret := rfl
@[simp] theorem t71_kind : t71.kind = .st [(0, 3), (1, 69), (2, 3)] := rfl
@[simp] theorem t71_cmp : t71.cmp = false := rfl
/-- []string -/
def t72 : TI := ⟨1, 24, .slice none 0 0, .sl true 0 .any [], yLS, .slice 9, false⟩
@[simp] theorem t72_size : t72.size = 1 := rfl
@[simp] theorem t72_bytes : t72.bytes = 24 := rfl
@[simp] theorem t72_z : t72.z = .sl true 0 .any [] := rfl
@[simp] theorem t72_y : t72.y = yLS := rfl
@[simp] theorem t72_kind : t72.kind = .slice 9 := rfl
@[simp] theorem t72_cmp : t72.cmp = false := rfl
/-- struct { Id int; Kind int; Colour int; Size int; Worth int } -/
def t75 : TI := ⟨5, 40, .agg #[.int .i64 0, .int .i64 0, .int .i64 0, .int .i64 0, .int .i64 0], .agg [.lit (.int .i64 0), .lit (.int .i64 0), .lit (.int .i64 0), .lit (.int .i64 0), .lit (.int .i64 0)], yTThing, .st [(0, 3), (1, 3), (2, 3), (3, 3), (4, 3)], true⟩
@[simp] theorem t75_size : t75.size = 5 := rfl
@[simp] theorem t75_bytes : t75.bytes = 40 := rfl
@[simp] theorem t75_z : t75.z = .agg [.lit (.int .i64 0), .lit (.int .i64 0), .lit (.int .i64 0), .lit (.int .i64 0), .lit (.int .i64 0)] := rfl
@[simp] theorem t75_y : t75.y = yTThing := rfl
@[simp] theorem t75_kind : t75.kind = .st [(0, 3), (1, 3), (2, 3), (3, 3), (4, 3)] := rfl
@[simp] theorem t75_cmp : t75.cmp = true := rfl
/-- impl.Thing = loop.example/g03007/impl.Thing -/
def t76 : TI := ⟨5, 40, .agg #[.int .i64 0, .int .i64 0, .int .i64 0, .int .i64 0, .int .i64 0], .agg [.lit (.int .i64 0), .lit (.int .i64 0), .lit (.int .i64 0), .lit (.int .i64 0), .lit (.int .i64 0)], yTThing, .st [(0, 3), (1, 3), (2, 3), (3, 3), (4, 3)], true⟩
@[simp] theorem t76_size : t76.size = 5 := rfl
@[simp] theorem t76_bytes : t76.bytes = 40 := rfl
@[simp] theorem t76_z : t76.z = .agg [.lit (.int .i64 0), .lit (.int .i64 0), .lit (.int .i64 0), .lit (.int .i64 0), .lit (.int .i64 0)] := rfl
@[simp] theorem t76_y : t76.y = yTThing := rfl
@[simp] theorem t76_kind : t76.kind = .st [(0, 3), (1, 3), (2, 3), (3, 3), (4, 3)] := rfl
@[simp] theorem t76_cmp : t76.cmp = true := rfl
/-- struct { Thing impl.Thing; Place int; At int; Finder int } -/
def t77 : TI := ⟨8, 64, .agg #[.int .i64 0, .int .i64 0, .int .i64 0, .int .i64 0, .int .i64 0, .int .i64 0, .int .i64 0, .int .i64 0], .agg [.lit (.int .i64 0), .lit (.int .i64 0), .lit (.int .i64 0), .lit (.int .i64 0), .lit (.int .i64 0), .lit (.int .i64 0), .lit (.int .i64 0), .lit (.int .i64 0)], yTFind, .st [(0, 76), (5, 3), (6, 3), (7, 3)], true⟩
@[simp] theorem t77_size : t77.size = 8 := rfl
@[simp] theorem t77_bytes : t77.bytes = 64 := rfl
@[simp] theorem t77_z : t77.z = .agg [.lit (.int .i64 0), .lit (.int .i64 0), .lit (.int .i64 0), .lit (.int .i64 0), .lit (.int .i64 0), .lit (.int .i64 0), .lit (.int .i64 0), .lit (.int .i64 0)] := rfl
@[simp] theorem t77_y : t77.y = yTFind := rfl
@[simp] theorem t77_kind : t77.kind = .st [(0, 76), (5, 3), (6, 3), (7, 3)] := rfl
@[simp] theorem t77_cmp : t77.cmp = true := rfl
/-- impl.Find = loop.example/g03007/impl.Find -/
def t78 : TI := ⟨8, 64, .agg #[.int .i64 0, .int .i64 0, .int .i64 0, .int .i64 0, .int .i64 0, .int .i64 0, .int .i64 0, .int .i64 0], .agg [.lit (.int .i64 0), .lit (.int .i64 0), .lit (.int .i64 0), .lit (.int .i64 0), .lit (.int .i64 0), .lit (.int .i64 0), .lit (.int .i64 0), .lit (.int .i64 0)], yTFind, .st [(0, 76), (5, 3), (6, 3), (7, 3)], true⟩
@[simp] theorem t78_size : t78.size = 8 := rfl
@[simp] theorem t78_bytes : t78.bytes = 64 := rfl
@[simp] theorem t78_z : t78.z = .agg [.lit (.int .i64 0), .lit (.int .i64 0), .lit (.int .i64 0), .lit (.int .i64 0), .lit (.int .i64 0), .lit (.int .i64 0), .lit (.int .i64 0), .lit (.int .i64 0)] := rfl
@[simp] theorem t78_y : t78.y = yTFind := rfl
@[simp] theorem t78_kind : t78.kind = .st [(0, 76), (5, 3), (6, 3), (7, 3)] := rfl
@[simp] theorem t78_cmp : t78.cmp = true := rfl
/-- laws.Thing = loop.example/g03007/laws.Thing -/
def t80 : TI := ⟨5, 40, .agg #[.int .i64 0, .int .i64 0, .int .i64 0, .int .i64 0, .int .i64 0], .agg [.lit (.int .i64 0), .lit (.int .i64 0), .lit (.int .i64 0), .lit (.int .i64 0), .lit (.int .i64 0)], yTThing, .st [(0, 3), (1, 3), (2, 3), (3, 3), (4, 3)], true⟩
@[simp] theorem t80_size : t80.size = 5 := rfl
@[simp] theorem t80_bytes : t80.bytes = 40 := rfl
@[simp] theorem t80_z : t80.z = .agg [.lit (.int .i64 0), .lit (.int .i64 0), .lit (.int .i64 0), .lit (.int .i64 0), .lit (.int .i64 0)] := rfl
@[simp] theorem t80_y : t80.y = yTThing := rfl
@[simp] theorem t80_kind : t80.kind = .st [(0, 3), (1, 3), (2, 3), (3, 3), (4, 3)] := rfl
@[simp] theorem t80_cmp : t80.cmp = true := rfl
/-- struct { Thing laws.Thing; Place int; At int; Finder int } -/
def t81 : TI := ⟨8, 64, .agg #[.int .i64 0, .int .i64 0, .int .i64 0, .int .i64 0, .int .i64 0, .int .i64 0, .int .i64 0, .int .i64 0], .agg [.lit (.int .i64 0), .lit (.int .i64 0), .lit (.int .i64 0), .lit (.int .i64 0), .lit (.int .i64 0), .lit (.int .i64 0), .lit (.int .i64 0), .lit (.int .i64 0)], yTFind, .st [(0, 80), (5, 3), (6, 3), (7, 3)], true⟩
@[simp] theorem t81_size : t81.size = 8 := rfl
@[simp] theorem t81_bytes : t81.bytes = 64 := rfl
@[simp] theorem t81_z : t81.z = .agg [.lit (.int .i64 0), .lit (.int .i64 0), .lit (.int .i64 0), .lit (.int .i64 0), .lit (.int .i64 0), .lit (.int .i64 0), .lit (.int .i64 0), .lit (.int .i64 0)] := rfl
@[simp] theorem t81_y : t81.y = yTFind := rfl
@[simp] theorem t81_kind : t81.kind = .st [(0, 80), (5, 3), (6, 3), (7, 3)] := rfl
@[simp] theorem t81_cmp : t81.cmp = true := rfl
/-- laws.Find = loop.example/g03007/laws.Find -/
def t82 : TI := ⟨8, 64, .agg #[.int .i64 0, .int .i64 0, .int .i64 0, .int .i64 0, .int .i64 0, .int .i64 0, .int .i64 0, .int .i64 0], .agg [.lit (.int .i64 0), .lit (.int .i64 0), .lit (.int .i64 0), .lit (.int .i64 0), .lit (.int .i64 0), .lit (.int .i64 0), .lit (.int .i64 0), .lit (.int .i64 0)], yTFind, .st [(0, 80), (5, 3), (6, 3), (7, 3)], true⟩
@[simp] theorem t82_size : t82.size = 8 := rfl
@[simp] theorem t82_bytes : t82.bytes = 64 := rfl
@[simp] theorem t82_z : t82.z = .agg [.lit (.int .i64 0), .lit (.int .i64 0), .lit (.int .i64 0), .lit (.int .i64 0), .lit (.int .i64 0), .lit (.int .i64 0), .lit (.int .i64 0), .lit (.int .i64 0)] := rfl
@[simp] theorem t82_y : t82.y = yTFind := rfl
@[simp] theorem t82_kind : t82.kind = .st [(0, 80), (5, 3), (6, 3), (7, 3)] := rfl
@[simp] theorem t82_cmp : t82.cmp = true := rfl
/-- []impl.Mark -/
def t83 : TI := ⟨1, 24, .slice none 0 0, .sl true 0 .any [], yLTMark, .slice 124, false⟩
@[simp] theorem t83_size : t83.size = 1 := rfl
@[simp] theorem t83_bytes : t83.bytes = 24 := rfl
@[simp] theorem t83_z : t83.z = .sl true 0 .any [] := rfl
@[simp] theorem t83_y : t83.y = yLTMark := rfl
@[simp] theorem t83_kind : t83.kind = .slice 124 := rfl
@[simp] theorem t83_cmp : t83.cmp = false := rfl
/-- struct { Thing int; Marks []impl.Mark; Salt int } -/
def t84 : TI := ⟨3, 40, .agg #[.int .i64 0, .slice none 0 0, .int .i64 0], .agg [.lit (.int .i64 0), .sl true 0 .any [], .lit (.int .i64 0)], yTSecret, .st [(0, 3), (1, 83), (2, 3)], false⟩
@[simp] theorem t84_size : t84.size = 3 := rfl
@[simp] theorem t84_bytes : t84.bytes = 40 := rfl
@[simp] theorem t84_z : t84.z = .agg [.lit (.int .i64 0), .sl true 0 .any [], .lit (.int .i64 0)] := rfl
@[simp] theorem t84_y : t84.y = yTSecret := rfl
@[simp] theorem t84_kind : t84.kind = .st [(0, 3), (1, 83), (2, 3)] := rfl
@[simp] theorem t84_cmp : t84.cmp = false := rfl
/-- impl.Secret = loop.example/g03007/impl.Secret -/
def t85 : TI := ⟨3, 40, .agg #[.int .i64 0, .slice none 0 0, .int .i64 0], .agg [.lit (.int .i64 0), .sl true 0 .any [], .lit (.int .i64 0)], yTSecret, .st [(0, 3), (1, 83), (2, 3)], false⟩
@[simp] theorem t85_size : t85.size = 3 := rfl
@[simp] theorem t85_bytes : t85.bytes = 40 := rfl
@[simp] theorem t85_z : t85.z = .agg [.lit (.int .i64 0), .sl true 0 .any [], .lit (.int .i64 0)] := rfl
@[simp] theorem t85_y : t85.y = yTSecret := rfl
@[simp] theorem t85_kind : t85.kind = .st [(0, 3), (1, 83), (2, 3)] := rfl
@[simp] theorem t85_cmp : t85.cmp = false := rfl
/-- struct { Id int; Size int; Thing int } -/
def t87 : TI := ⟨3, 24, .agg #[.int .i64 0, .int .i64 0, .int .i64 0], .agg [.lit (.int .i64 0), .lit (.int .i64 0), .lit (.int .i64 0)], yTSlot, .st [(0, 3), (1, 3), (2, 3)], true⟩
@[simp] theorem t87_size : t87.size = 3 := rfl
@[simp] theorem t87_bytes : t87.bytes = 24 := rfl
@[simp] theorem t87_z : t87.z = .agg [.lit (.int .i64 0), .lit (.int .i64 0), .lit (.int .i64 0)] := rfl
@[simp] theorem t87_y : t87.y = yTSlot := rfl
@[simp] theorem t87_kind : t87.kind = .st [(0, 3), (1, 3), (2, 3)] := rfl
@[simp] theorem t87_cmp : t87.cmp = true := rfl
/-- impl.Slot = loop.example/g03007/impl.Slot -/
def t88 : TI := ⟨3, 24, .agg #[.int .i64 0, .int .i64 0, .int .i64 0], .agg [.lit (.int .i64 0), .lit (.int .i64 0), .lit (.int .i64 0)], yTSlot, .st [(0, 3), (1, 3), (2, 3)], true⟩
@[simp] theorem t88_size : t88.size = 3 := rfl
@[simp] theorem t88_bytes : t88.bytes = 24 := rfl
@[simp] theorem t88_z : t88.z = .agg [.lit (.int .i64 0), .lit (.int .i64 0), .lit (.int .i64 0)] := rfl
@[simp] theorem t88_y : t88.y = yTSlot := rfl
@[simp] theorem t88_kind : t88.kind = .st [(0, 3), (1, 3), (2, 3)] := rfl
@[simp] theorem t88_cmp : t88.cmp = true := rfl
/-- laws.Slot = loop.example/g03007/laws.Slot -/
def t90 : TI := ⟨3, 24, .agg #[.int .i64 0, .int .i64 0, .int .i64 0], .agg [.lit (.int .i64 0), .lit (.int .i64 0), .lit (.int .i64 0)], yTSlot, .st [(0, 3), (1, 3), (2, 3)], true⟩
@[simp] theorem t90_size : t90.size = 3 := rfl
@[simp] theorem t90_bytes : t90.bytes = 24 := rfl
@[simp] theorem t90_z : t90.z = .agg [.lit (.int .i64 0), .lit (.int .i64 0), .lit (.int .i64 0)] := rfl
@[simp] theorem t90_y : t90.y = yTSlot := rfl
@[simp] theorem t90_kind : t90.kind = .st [(0, 3), (1, 3), (2, 3)] := rfl
@[simp] theorem t90_cmp : t90.cmp = true := rfl
/-- struct { Id int; Who int; Thing int; At int; State int } -/
def t91 : TI := ⟨5, 40, .agg #[.int .i64 0, .int .i64 0, .int .i64 0, .int .i64 0, .int .i64 0], .agg [.lit (.int .i64 0), .lit (.int .i64 0), .lit (.int .i64 0), .lit (.int .i64 0), .lit (.int .i64 0)], yTClaim, .st [(0, 3), (1, 3), (2, 3), (3, 3), (4, 3)], true⟩
@[simp] theorem t91_size : t91.size = 5 := rfl
@[simp] theorem t91_bytes : t91.bytes = 40 := rfl
@[simp] theorem t91_z : t91.z = .agg [.lit (.int .i64 0), .lit (.int .i64 0), .lit (.int .i64 0), .lit (.int .i64 0), .lit (.int .i64 0)] := rfl
@[simp] theorem t91_y : t91.y = yTClaim := rfl
@[simp] theorem t91_kind : t91.kind = .st [(0, 3), (1, 3), (2, 3), (3, 3), (4, 3)] := rfl
@[simp] theorem t91_cmp : t91.cmp = true := rfl
/-- impl.Claim = loop.example/g03007/impl.Claim -/
def t92 : TI := ⟨5, 40, .agg #[.int .i64 0, .int .i64 0, .int .i64 0, .int .i64 0, .int .i64 0], .agg [.lit (.int .i64 0), .lit (.int .i64 0), .lit (.int .i64 0), .lit (.int .i64 0), .lit (.int .i64 0)], yTClaim, .st [(0, 3), (1, 3), (2, 3), (3, 3), (4, 3)], true⟩
@[simp] theorem t92_size : t92.size = 5 := rfl
@[simp] theorem t92_bytes : t92.bytes = 40 := rfl
@[simp] theorem t92_z : t92.z = .agg [.lit (.int .i64 0), .lit (.int .i64 0), .lit (.int .i64 0), .lit (.int .i64 0), .lit (.int .i64 0)] := rfl
@[simp] theorem t92_y : t92.y = yTClaim := rfl
@[simp] theorem t92_kind : t92.kind = .st [(0, 3), (1, 3), (2, 3), (3, 3), (4, 3)] := rfl
@[simp] theorem t92_cmp : t92.cmp = true := rfl
/-- laws.Claim = loop.example/g03007/laws.Claim -/
def t94 : TI := ⟨5, 40, .agg #[.int .i64 0, .int .i64 0, .int .i64 0, .int .i64 0, .int .i64 0], .agg [.lit (.int .i64 0), .lit (.int .i64 0), .lit (.int .i64 0), .lit (.int .i64 0), .lit (.int .i64 0)], yTClaim, .st [(0, 3), (1, 3), (2, 3), (3, 3), (4, 3)], true⟩
@[simp] theorem t94_size : t94.size = 5 := rfl
@[simp] theorem t94_bytes : t94.bytes = 40 := rfl
@[simp] theorem t94_z : t94.z = .agg [.lit (.int .i64 0), .lit (.int .i64 0), .lit (.int .i64 0), .lit (.int .i64 0), .lit (.int .i64 0)] := rfl
@[simp] theorem t94_y : t94.y = yTClaim := rfl
@[simp] theorem t94_kind : t94.kind = .st [(0, 3), (1, 3), (2, 3), (3, 3), (4, 3)] := rfl
@[simp] theorem t94_cmp : t94.cmp = true := rfl
/-- struct { Claim int; Asked int; Right int; Wrong int } -/
def t95 : TI := ⟨4, 32, .agg #[.int .i64 0, .int .i64 0, .int .i64 0, .int .i64 0], .agg [.lit (.int .i64 0), .lit (.int .i64 0), .lit (.int .i64 0), .lit (.int .i64 0)], yTTrial, .st [(0, 3), (1, 3), (2, 3), (3, 3)], true⟩
@[simp] theorem t95_size : t95.size = 4 := rfl
@[simp] theorem t95_bytes : t95.bytes = 32 := rfl
@[simp] theorem t95_z : t95.z = .agg [.lit (.int .i64 0), .lit (.int .i64 0), .lit (.int .i64 0), .lit (.int .i64 0)] := rfl
@[simp] theorem t95_y : t95.y = yTTrial := rfl
@[simp] theorem t95_kind : t95.kind = .st [(0, 3), (1, 3), (2, 3), (3, 3)] := rfl
@[simp] theorem t95_cmp : t95.cmp = true := rfl
/-- impl.Trial = loop.example/g03007/impl.Trial -/
def t96 : TI := ⟨4, 32, .agg #[.int .i64 0, .int .i64 0, .int .i64 0, .int .i64 0], .agg [.lit (.int .i64 0), .lit (.int .i64 0), .lit (.int .i64 0), .lit (.int .i64 0)], yTTrial, .st [(0, 3), (1, 3), (2, 3), (3, 3)], true⟩
@[simp] theorem t96_size : t96.size = 4 := rfl
@[simp] theorem t96_bytes : t96.bytes = 32 := rfl
@[simp] theorem t96_z : t96.z = .agg [.lit (.int .i64 0), .lit (.int .i64 0), .lit (.int .i64 0), .lit (.int .i64 0)] := rfl
@[simp] theorem t96_y : t96.y = yTTrial := rfl
@[simp] theorem t96_kind : t96.kind = .st [(0, 3), (1, 3), (2, 3), (3, 3)] := rfl
@[simp] theorem t96_cmp : t96.cmp = true := rfl
/-- laws.Trial = loop.example/g03007/laws.Trial -/
def t98 : TI := ⟨4, 32, .agg #[.int .i64 0, .int .i64 0, .int .i64 0, .int .i64 0], .agg [.lit (.int .i64 0), .lit (.int .i64 0), .lit (.int .i64 0), .lit (.int .i64 0)], yTTrial, .st [(0, 3), (1, 3), (2, 3), (3, 3)], true⟩
@[simp] theorem t98_size : t98.size = 4 := rfl
@[simp] theorem t98_bytes : t98.bytes = 32 := rfl
@[simp] theorem t98_z : t98.z = .agg [.lit (.int .i64 0), .lit (.int .i64 0), .lit (.int .i64 0), .lit (.int .i64 0)] := rfl
@[simp] theorem t98_y : t98.y = yTTrial := rfl
@[simp] theorem t98_kind : t98.kind = .st [(0, 3), (1, 3), (2, 3), (3, 3)] := rfl
@[simp] theorem t98_cmp : t98.cmp = true := rfl
/-- struct { Thing int; Holder int; Who int; At int; Seal int } -/
def t99 : TI := ⟨5, 40, .agg #[.int .i64 0, .int .i64 0, .int .i64 0, .int .i64 0, .int .i64 0], .agg [.lit (.int .i64 0), .lit (.int .i64 0), .lit (.int .i64 0), .lit (.int .i64 0), .lit (.int .i64 0)], yTHand, .st [(0, 3), (1, 3), (2, 3), (3, 3), (4, 3)], true⟩
@[simp] theorem t99_size : t99.size = 5 := rfl
@[simp] theorem t99_bytes : t99.bytes = 40 := rfl
@[simp] theorem t99_z : t99.z = .agg [.lit (.int .i64 0), .lit (.int .i64 0), .lit (.int .i64 0), .lit (.int .i64 0), .lit (.int .i64 0)] := rfl
@[simp] theorem t99_y : t99.y = yTHand := rfl
@[simp] theorem t99_kind : t99.kind = .st [(0, 3), (1, 3), (2, 3), (3, 3), (4, 3)] := rfl
@[simp] theorem t99_cmp : t99.cmp = true := rfl
/-- impl.Hand = loop.example/g03007/impl.Hand -/
def t100 : TI := ⟨5, 40, .agg #[.int .i64 0, .int .i64 0, .int .i64 0, .int .i64 0, .int .i64 0], .agg [.lit (.int .i64 0), .lit (.int .i64 0), .lit (.int .i64 0), .lit (.int .i64 0), .lit (.int .i64 0)], yTHand, .st [(0, 3), (1, 3), (2, 3), (3, 3), (4, 3)], true⟩
@[simp] theorem t100_size : t100.size = 5 := rfl
@[simp] theorem t100_bytes : t100.bytes = 40 := rfl
@[simp] theorem t100_z : t100.z = .agg [.lit (.int .i64 0), .lit (.int .i64 0), .lit (.int .i64 0), .lit (.int .i64 0), .lit (.int .i64 0)] := rfl
@[simp] theorem t100_y : t100.y = yTHand := rfl
@[simp] theorem t100_kind : t100.kind = .st [(0, 3), (1, 3), (2, 3), (3, 3), (4, 3)] := rfl
@[simp] theorem t100_cmp : t100.cmp = true := rfl
/-- laws.Hand = loop.example/g03007/laws.Hand -/
def t102 : TI := ⟨5, 40, .agg #[.int .i64 0, .int .i64 0, .int .i64 0, .int .i64 0, .int .i64 0], .agg [.lit (.int .i64 0), .lit (.int .i64 0), .lit (.int .i64 0), .lit (.int .i64 0), .lit (.int .i64 0)], yTHand, .st [(0, 3), (1, 3), (2, 3), (3, 3), (4, 3)], true⟩
@[simp] theorem t102_size : t102.size = 5 := rfl
@[simp] theorem t102_bytes : t102.bytes = 40 := rfl
@[simp] theorem t102_z : t102.z = .agg [.lit (.int .i64 0), .lit (.int .i64 0), .lit (.int .i64 0), .lit (.int .i64 0), .lit (.int .i64 0)] := rfl
@[simp] theorem t102_y : t102.y = yTHand := rfl
@[simp] theorem t102_kind : t102.kind = .st [(0, 3), (1, 3), (2, 3), (3, 3), (4, 3)] := rfl
@[simp] theorem t102_cmp : t102.cmp = true := rfl
/-- struct { From int; To int; Cents int; At int } -/
def t103 : TI := ⟨4, 32, .agg #[.int .i64 0, .int .i64 0, .int .i64 0, .int .i64 0], .agg [.lit (.int .i64 0), .lit (.int .i64 0), .lit (.int .i64 0), .lit (.int .i64 0)], yTEntry, .st [(0, 3), (1, 3), (2, 3), (3, 3)], true⟩
@[simp] theorem t103_size : t103.size = 4 := rfl
@[simp] theorem t103_bytes : t103.bytes = 32 := rfl
@[simp] theorem t103_z : t103.z = .agg [.lit (.int .i64 0), .lit (.int .i64 0), .lit (.int .i64 0), .lit (.int .i64 0)] := rfl
@[simp] theorem t103_y : t103.y = yTEntry := rfl
@[simp] theorem t103_kind : t103.kind = .st [(0, 3), (1, 3), (2, 3), (3, 3)] := rfl
@[simp] theorem t103_cmp : t103.cmp = true := rfl
/-- impl.Entry = loop.example/g03007/impl.Entry -/
def t104 : TI := ⟨4, 32, .agg #[.int .i64 0, .int .i64 0, .int .i64 0, .int .i64 0], .agg [.lit (.int .i64 0), .lit (.int .i64 0), .lit (.int .i64 0), .lit (.int .i64 0)], yTEntry, .st [(0, 3), (1, 3), (2, 3), (3, 3)], true⟩
@[simp] theorem t104_size : t104.size = 4 := rfl
@[simp] theorem t104_bytes : t104.bytes = 32 := rfl
@[simp] theorem t104_z : t104.z = .agg [.lit (.int .i64 0), .lit (.int .i64 0), .lit (.int .i64 0), .lit (.int .i64 0)] := rfl
@[simp] theorem t104_y : t104.y = yTEntry := rfl
@[simp] theorem t104_kind : t104.kind = .st [(0, 3), (1, 3), (2, 3), (3, 3)] := rfl
@[simp] theorem t104_cmp : t104.cmp = true := rfl
/-- laws.Entry = loop.example/g03007/laws.Entry -/
def t106 : TI := ⟨4, 32, .agg #[.int .i64 0, .int .i64 0, .int .i64 0, .int .i64 0], .agg [.lit (.int .i64 0), .lit (.int .i64 0), .lit (.int .i64 0), .lit (.int .i64 0)], yTEntry, .st [(0, 3), (1, 3), (2, 3), (3, 3)], true⟩
@[simp] theorem t106_size : t106.size = 4 := rfl
@[simp] theorem t106_bytes : t106.bytes = 32 := rfl
@[simp] theorem t106_z : t106.z = .agg [.lit (.int .i64 0), .lit (.int .i64 0), .lit (.int .i64 0), .lit (.int .i64 0)] := rfl
@[simp] theorem t106_y : t106.y = yTEntry := rfl
@[simp] theorem t106_kind : t106.kind = .st [(0, 3), (1, 3), (2, 3), (3, 3)] := rfl
@[simp] theorem t106_cmp : t106.cmp = true := rfl
/-- []uint8 -/
def t117 : TI := ⟨1, 24, .slice none 0 0, .sl true 0 .any [], yLU, .slice 5, false⟩
@[simp] theorem t117_size : t117.size = 1 := rfl
@[simp] theorem t117_bytes : t117.bytes = 24 := rfl
@[simp] theorem t117_z : t117.z = .sl true 0 .any [] := rfl
@[simp] theorem t117_y : t117.y = yLU := rfl
@[simp] theorem t117_kind : t117.kind = .slice 5 := rfl
@[simp] theorem t117_cmp : t117.cmp = false := rfl
/-- map[int]bool -/
def t120 : TI := ⟨1, 8, .map none, .fm 0 [] .any [], .any, .map 3 4, false⟩
@[simp] theorem t120_size : t120.size = 1 := rfl
@[simp] theorem t120_bytes : t120.bytes = 8 := rfl
@[simp] theorem t120_z : t120.z = .fm 0 [] .any [] := rfl
@[simp] theorem t120_y : t120.y = .any := rfl
@[simp] theorem t120_kind : t120.kind = .map 3 4 := rfl
@[simp] theorem t120_cmp : t120.cmp = false := rfl
/-- struct { Question int; Answer int } -/
def t123 : TI := ⟨2, 16, .agg #[.int .i64 0, .int .i64 0], .agg [.lit (.int .i64 0), .lit (.int .i64 0)], yTMark, .st [(0, 3), (1, 3)], true⟩
@[simp] theorem t123_size : t123.size = 2 := rfl
@[simp] theorem t123_bytes : t123.bytes = 16 := rfl
@[simp] theorem t123_z : t123.z = .agg [.lit (.int .i64 0), .lit (.int .i64 0)] := rfl
@[simp] theorem t123_y : t123.y = yTMark := rfl
@[simp] theorem t123_kind : t123.kind = .st [(0, 3), (1, 3)] := rfl
@[simp] theorem t123_cmp : t123.cmp = true := rfl
/-- impl.Mark = loop.example/g03007/impl.Mark -/
def t124 : TI := ⟨2, 16, .agg #[.int .i64 0, .int .i64 0], .agg [.lit (.int .i64 0), .lit (.int .i64 0)], yTMark, .st [(0, 3), (1, 3)], true⟩
@[simp] theorem t124_size : t124.size = 2 := rfl
@[simp] theorem t124_bytes : t124.bytes = 16 := rfl
@[simp] theorem t124_z : t124.z = .agg [.lit (.int .i64 0), .lit (.int .i64 0)] := rfl
@[simp] theorem t124_y : t124.y = yTMark := rfl
@[simp] theorem t124_kind : t124.kind = .st [(0, 3), (1, 3)] := rfl
@[simp] theorem t124_cmp : t124.cmp = true := rfl
/-- laws.Mark = loop.example/g03007/laws.Mark -/
def t126 : TI := ⟨2, 16, .agg #[.int .i64 0, .int .i64 0], .agg [.lit (.int .i64 0), .lit (.int .i64 0)], yTMark, .st [(0, 3), (1, 3)], true⟩
@[simp] theorem t126_size : t126.size = 2 := rfl
@[simp] theorem t126_bytes : t126.bytes = 16 := rfl
@[simp] theorem t126_z : t126.z = .agg [.lit (.int .i64 0), .lit (.int .i64 0)] := rfl
@[simp] theorem t126_y : t126.y = yTMark := rfl
@[simp] theorem t126_kind : t126.kind = .st [(0, 3), (1, 3)] := rfl
@[simp] theorem t126_cmp : t126.cmp = true := rfl
/-- [24]uint8 -/
def t129 : TI := ⟨24, 24, .agg #[.int .u8 0, .int .u8 0, .int .u8 0, .int .u8 0, .int .u8 0, .int .u8 0, .int .u8 0, .int .u8 0, .int .u8 0, .int .u8 0, .int .u8 0, .int .u8 0, .int .u8 0, .int .u8 0, .int .u8 0, .int .u8 0, .int .u8 0, .int .u8 0, .int .u8 0, .int .u8 0, .int .u8 0, .int .u8 0, .int .u8 0, .int .u8 0], .agg [.lit (.int .u8 0), .lit (.int .u8 0), .lit (.int .u8 0), .lit (.int .u8 0), .lit (.int .u8 0), .lit (.int .u8 0), .lit (.int .u8 0), .lit (.int .u8 0), .lit (.int .u8 0), .lit (.int .u8 0), .lit (.int .u8 0), .lit (.int .u8 0), .lit (.int .u8 0), .lit (.int .u8 0), .lit (.int .u8 0), .lit (.int .u8 0), .lit (.int .u8 0), .lit (.int .u8 0), .lit (.int .u8 0), .lit (.int .u8 0), .lit (.int .u8 0), .lit (.int .u8 0), .lit (.int .u8 0), .lit (.int .u8 0)], .any, .arr 24 5, false⟩
@[simp] theorem t129_size : t129.size = 24 := rfl
@[simp] theorem t129_bytes : t129.bytes = 24 := rfl
@[simp] theorem t129_z : t129.z = .agg [.lit (.int .u8 0), .lit (.int .u8 0), .lit (.int .u8 0), .lit (.int .u8 0), .lit (.int .u8 0), .lit (.int .u8 0), .lit (.int .u8 0), .lit (.int .u8 0), .lit (.int .u8 0), .lit (.int .u8 0), .lit (.int .u8 0), .lit (.int .u8 0), .lit (.int .u8 0), .lit (.int .u8 0), .lit (.int .u8 0), .lit (.int .u8 0), .lit (.int .u8 0), .lit (.int .u8 0), .lit (.int .u8 0), .lit (.int .u8 0), .lit (.int .u8 0), .lit (.int .u8 0), .lit (.int .u8 0), .lit (.int .u8 0)] := rfl
@[simp] theorem t129_y : t129.y = .any := rfl
@[simp] theorem t129_kind : t129.kind = .arr 24 5 := rfl
@[simp] theorem t129_cmp : t129.cmp = false := rfl
/-- uint64 -/
def t130 : TI := ⟨1, 8, .int .u64 0, .lit (.int .u64 0), .lit (.int .u64 0), .int .u64, false⟩
@[simp] theorem t130_size : t130.size = 1 := rfl
@[simp] theorem t130_bytes : t130.bytes = 8 := rfl
@[simp] theorem t130_z : t130.z = .lit (.int .u64 0) := rfl
@[simp] theorem t130_y : t130.y = .lit (.int .u64 0) := rfl
@[simp] theorem t130_kind : t130.kind = .int .u64 := rfl
@[simp] theorem t130_cmp : t130.cmp = false := rfl
/-- [20]uint64 -/
def t137 : TI := ⟨20, 160, .agg #[.int .u64 0, .int .u64 0, .int .u64 0, .int .u64 0, .int .u64 0, .int .u64 0, .int .u64 0, .int .u64 0, .int .u64 0, .int .u64 0, .int .u64 0, .int .u64 0, .int .u64 0, .int .u64 0, .int .u64 0, .int .u64 0, .int .u64 0, .int .u64 0, .int .u64 0, .int .u64 0], .agg [.lit (.int .u64 0), .lit (.int .u64 0), .lit (.int .u64 0), .lit (.int .u64 0), .lit (.int .u64 0), .lit (.int .u64 0), .lit (.int .u64 0), .lit (.int .u64 0), .lit (.int .u64 0), .lit (.int .u64 0), .lit (.int .u64 0), .lit (.int .u64 0), .lit (.int .u64 0), .lit (.int .u64 0), .lit (.int .u64 0), .lit (.int .u64 0), .lit (.int .u64 0), .lit (.int .u64 0), .lit (.int .u64 0), .lit (.int .u64 0)], .any, .arr 20 130, false⟩
@[simp] theorem t137_size : t137.size = 20 := rfl
@[simp] theorem t137_bytes : t137.bytes = 160 := rfl
@[simp] theorem t137_z : t137.z = .agg [.lit (.int .u64 0), .lit (.int .u64 0), .lit (.int .u64 0), .lit (.int .u64 0), .lit (.int .u64 0), .lit (.int .u64 0), .lit (.int .u64 0), .lit (.int .u64 0), .lit (.int .u64 0), .lit (.int .u64 0), .lit (.int .u64 0), .lit (.int .u64 0), .lit (.int .u64 0), .lit (.int .u64 0), .lit (.int .u64 0), .lit (.int .u64 0), .lit (.int .u64 0), .lit (.int .u64 0), .lit (.int .u64 0), .lit (.int .u64 0)] := rfl
@[simp] theorem t137_y : t137.y = .any := rfl
@[simp] theorem t137_kind : t137.kind = .arr 20 130 := rfl
@[simp] theorem t137_cmp : t137.cmp = false := rfl
/-- uint32 -/
def t138 : TI := ⟨1, 4, .int .u32 0, .lit (.int .u32 0), .lit (.int .u32 0), .int .u32, false⟩
@[simp] theorem t138_size : t138.size = 1 := rfl
@[simp] theorem t138_bytes : t138.bytes = 4 := rfl
@[simp] theorem t138_z : t138.z = .lit (.int .u32 0) := rfl
@[simp] theorem t138_y : t138.y = .lit (.int .u32 0) := rfl
@[simp] theorem t138_kind : t138.kind = .int .u32 := rfl
@[simp] theorem t138_cmp : t138.cmp = false := rfl
/-- [65]uint8 -/
def t139 : TI := ⟨65, 65, .agg #[.int .u8 0, .int .u8 0, .int .u8 0, .int .u8 0, .int .u8 0, .int .u8 0, .int .u8 0, .int .u8 0, .int .u8 0, .int .u8 0, .int .u8 0, .int .u8 0, .int .u8 0, .int .u8 0, .int .u8 0, .int .u8 0, .int .u8 0, .int .u8 0, .int .u8 0, .int .u8 0, .int .u8 0, .int .u8 0, .int .u8 0, .int .u8 0, .int .u8 0, .int .u8 0, .int .u8 0, .int .u8 0, .int .u8 0, .int .u8 0, .int .u8 0, .int .u8 0, .int .u8 0, .int .u8 0, .int .u8 0, .int .u8 0, .int .u8 0, .int .u8 0, .int .u8 0, .int .u8 0, .int .u8 0, .int .u8 0, .int .u8 0, .int .u8 0, .int .u8 0, .int .u8 0, .int .u8 0, .int .u8 0, .int .u8 0, .int .u8 0, .int .u8 0, .int .u8 0, .int .u8 0, .int .u8 0, .int .u8 0, .int .u8 0, .int .u8 0, .int .u8 0, .int .u8 0, .int .u8 0, .int .u8 0, .int .u8 0, .int .u8 0, .int .u8 0, .int .u8 0], .agg [.lit (.int .u8 0), .lit (.int .u8 0), .lit (.int .u8 0), .lit (.int .u8 0), .lit (.int .u8 0), .lit (.int .u8 0), .lit (.int .u8 0), .lit (.int .u8 0), .lit (.int .u8 0), .lit (.int .u8 0), .lit (.int .u8 0), .lit (.int .u8 0), .lit (.int .u8 0), .lit (.int .u8 0), .lit (.int .u8 0), .lit (.int .u8 0), .lit (.int .u8 0), .lit (.int .u8 0), .lit (.int .u8 0), .lit (.int .u8 0), .lit (.int .u8 0), .lit (.int .u8 0), .lit (.int .u8 0), .lit (.int .u8 0), .lit (.int .u8 0), .lit (.int .u8 0), .lit (.int .u8 0), .lit (.int .u8 0), .lit (.int .u8 0), .lit (.int .u8 0), .lit (.int .u8 0), .lit (.int .u8 0), .lit (.int .u8 0), .lit (.int .u8 0), .lit (.int .u8 0), .lit (.int .u8 0), .lit (.int .u8 0), .lit (.int .u8 0), .lit (.int .u8 0), .lit (.int .u8 0), .lit (.int .u8 0), .lit (.int .u8 0), .lit (.int .u8 0), .lit (.int .u8 0), .lit (.int .u8 0), .lit (.int .u8 0), .lit (.int .u8 0), .lit (.int .u8 0), .lit (.int .u8 0), .lit (.int .u8 0), .lit (.int .u8 0), .lit (.int .u8 0), .lit (.int .u8 0), .lit (.int .u8 0), .lit (.int .u8 0), .lit (.int .u8 0), .lit (.int .u8 0), .lit (.int .u8 0), .lit (.int .u8 0), .lit (.int .u8 0), .lit (.int .u8 0), .lit (.int .u8 0), .lit (.int .u8 0), .lit (.int .u8 0), .lit (.int .u8 0)], .any, .arr 65 5, false⟩
@[simp] theorem t139_size : t139.size = 65 := rfl
@[simp] theorem t139_bytes : t139.bytes = 65 := rfl
@[simp] theorem t139_z : t139.z = .agg [.lit (.int .u8 0), .lit (.int .u8 0), .lit (.int .u8 0), .lit (.int .u8 0), .lit (.int .u8 0), .lit (.int .u8 0), .lit (.int .u8 0), .lit (.int .u8 0), .lit (.int .u8 0), .lit (.int .u8 0), .lit (.int .u8 0), .lit (.int .u8 0), .lit (.int .u8 0), .lit (.int .u8 0), .lit (.int .u8 0), .lit (.int .u8 0), .lit (.int .u8 0), .lit (.int .u8 0), .lit (.int .u8 0), .lit (.int .u8 0), .lit (.int .u8 0), .lit (.int .u8 0), .lit (.int .u8 0), .lit (.int .u8 0), .lit (.int .u8 0), .lit (.int .u8 0), .lit (.int .u8 0), .lit (.int .u8 0), .lit (.int .u8 0), .lit (.int .u8 0), .lit (.int .u8 0), .lit (.int .u8 0), .lit (.int .u8 0), .lit (.int .u8 0), .lit (.int .u8 0), .lit (.int .u8 0), .lit (.int .u8 0), .lit (.int .u8 0), .lit (.int .u8 0), .lit (.int .u8 0), .lit (.int .u8 0), .lit (.int .u8 0), .lit (.int .u8 0), .lit (.int .u8 0), .lit (.int .u8 0), .lit (.int .u8 0), .lit (.int .u8 0), .lit (.int .u8 0), .lit (.int .u8 0), .lit (.int .u8 0), .lit (.int .u8 0), .lit (.int .u8 0), .lit (.int .u8 0), .lit (.int .u8 0), .lit (.int .u8 0), .lit (.int .u8 0), .lit (.int .u8 0), .lit (.int .u8 0), .lit (.int .u8 0), .lit (.int .u8 0), .lit (.int .u8 0), .lit (.int .u8 0), .lit (.int .u8 0), .lit (.int .u8 0), .lit (.int .u8 0)] := rfl
@[simp] theorem t139_y : t139.y = .any := rfl
@[simp] theorem t139_kind : t139.kind = .arr 65 5 := rfl
@[simp] theorem t139_cmp : t139.cmp = false := rfl
/-- uint -/
def t141 : TI := ⟨1, 8, .int .u64 0, .lit (.int .u64 0), .lit (.int .u64 0), .int .u64, false⟩
@[simp] theorem t141_size : t141.size = 1 := rfl
@[simp] theorem t141_bytes : t141.bytes = 8 := rfl
@[simp] theorem t141_z : t141.z = .lit (.int .u64 0) := rfl
@[simp] theorem t141_y : t141.y = .lit (.int .u64 0) := rfl
@[simp] theorem t141_kind : t141.kind = .int .u64 := rfl
@[simp] theorem t141_cmp : t141.cmp = false := rfl
/-- [32]uint8 -/
def t144 : TI := ⟨32, 32, .agg #[.int .u8 0, .int .u8 0, .int .u8 0, .int .u8 0, .int .u8 0, .int .u8 0, .int .u8 0, .int .u8 0, .int .u8 0, .int .u8 0, .int .u8 0, .int .u8 0, .int .u8 0, .int .u8 0, .int .u8 0, .int .u8 0, .int .u8 0, .int .u8 0, .int .u8 0, .int .u8 0, .int .u8 0, .int .u8 0, .int .u8 0, .int .u8 0, .int .u8 0, .int .u8 0, .int .u8 0, .int .u8 0, .int .u8 0, .int .u8 0, .int .u8 0, .int .u8 0], .agg [.lit (.int .u8 0), .lit (.int .u8 0), .lit (.int .u8 0), .lit (.int .u8 0), .lit (.int .u8 0), .lit (.int .u8 0), .lit (.int .u8 0), .lit (.int .u8 0), .lit (.int .u8 0), .lit (.int .u8 0), .lit (.int .u8 0), .lit (.int .u8 0), .lit (.int .u8 0), .lit (.int .u8 0), .lit (.int .u8 0), .lit (.int .u8 0), .lit (.int .u8 0), .lit (.int .u8 0), .lit (.int .u8 0), .lit (.int .u8 0), .lit (.int .u8 0), .lit (.int .u8 0), .lit (.int .u8 0), .lit (.int .u8 0), .lit (.int .u8 0), .lit (.int .u8 0), .lit (.int .u8 0), .lit (.int .u8 0), .lit (.int .u8 0), .lit (.int .u8 0), .lit (.int .u8 0), .lit (.int .u8 0)], .any, .arr 32 5, false⟩
@[simp] theorem t144_size : t144.size = 32 := rfl
@[simp] theorem t144_bytes : t144.bytes = 32 := rfl
@[simp] theorem t144_z : t144.z = .agg [.lit (.int .u8 0), .lit (.int .u8 0), .lit (.int .u8 0), .lit (.int .u8 0), .lit (.int .u8 0), .lit (.int .u8 0), .lit (.int .u8 0), .lit (.int .u8 0), .lit (.int .u8 0), .lit (.int .u8 0), .lit (.int .u8 0), .lit (.int .u8 0), .lit (.int .u8 0), .lit (.int .u8 0), .lit (.int .u8 0), .lit (.int .u8 0), .lit (.int .u8 0), .lit (.int .u8 0), .lit (.int .u8 0), .lit (.int .u8 0), .lit (.int .u8 0), .lit (.int .u8 0), .lit (.int .u8 0), .lit (.int .u8 0), .lit (.int .u8 0), .lit (.int .u8 0), .lit (.int .u8 0), .lit (.int .u8 0), .lit (.int .u8 0), .lit (.int .u8 0), .lit (.int .u8 0), .lit (.int .u8 0)] := rfl
@[simp] theorem t144_y : t144.y = .any := rfl
@[simp] theorem t144_kind : t144.kind = .arr 32 5 := rfl
@[simp] theorem t144_cmp : t144.cmp = false := rfl
/-- [64]uint8 -/
def t145 : TI := ⟨64, 64, .agg #[.int .u8 0, .int .u8 0, .int .u8 0, .int .u8 0, .int .u8 0, .int .u8 0, .int .u8 0, .int .u8 0, .int .u8 0, .int .u8 0, .int .u8 0, .int .u8 0, .int .u8 0, .int .u8 0, .int .u8 0, .int .u8 0, .int .u8 0, .int .u8 0, .int .u8 0, .int .u8 0, .int .u8 0, .int .u8 0, .int .u8 0, .int .u8 0, .int .u8 0, .int .u8 0, .int .u8 0, .int .u8 0, .int .u8 0, .int .u8 0, .int .u8 0, .int .u8 0, .int .u8 0, .int .u8 0, .int .u8 0, .int .u8 0, .int .u8 0, .int .u8 0, .int .u8 0, .int .u8 0, .int .u8 0, .int .u8 0, .int .u8 0, .int .u8 0, .int .u8 0, .int .u8 0, .int .u8 0, .int .u8 0, .int .u8 0, .int .u8 0, .int .u8 0, .int .u8 0, .int .u8 0, .int .u8 0, .int .u8 0, .int .u8 0, .int .u8 0, .int .u8 0, .int .u8 0, .int .u8 0, .int .u8 0, .int .u8 0, .int .u8 0, .int .u8 0], .agg [.lit (.int .u8 0), .lit (.int .u8 0), .lit (.int .u8 0), .lit (.int .u8 0), .lit (.int .u8 0), .lit (.int .u8 0), .lit (.int .u8 0), .lit (.int .u8 0), .lit (.int .u8 0), .lit (.int .u8 0), .lit (.int .u8 0), .lit (.int .u8 0), .lit (.int .u8 0), .lit (.int .u8 0), .lit (.int .u8 0), .lit (.int .u8 0), .lit (.int .u8 0), .lit (.int .u8 0), .lit (.int .u8 0), .lit (.int .u8 0), .lit (.int .u8 0), .lit (.int .u8 0), .lit (.int .u8 0), .lit (.int .u8 0), .lit (.int .u8 0), .lit (.int .u8 0), .lit (.int .u8 0), .lit (.int .u8 0), .lit (.int .u8 0), .lit (.int .u8 0), .lit (.int .u8 0), .lit (.int .u8 0), .lit (.int .u8 0), .lit (.int .u8 0), .lit (.int .u8 0), .lit (.int .u8 0), .lit (.int .u8 0), .lit (.int .u8 0), .lit (.int .u8 0), .lit (.int .u8 0), .lit (.int .u8 0), .lit (.int .u8 0), .lit (.int .u8 0), .lit (.int .u8 0), .lit (.int .u8 0), .lit (.int .u8 0), .lit (.int .u8 0), .lit (.int .u8 0), .lit (.int .u8 0), .lit (.int .u8 0), .lit (.int .u8 0), .lit (.int .u8 0), .lit (.int .u8 0), .lit (.int .u8 0), .lit (.int .u8 0), .lit (.int .u8 0), .lit (.int .u8 0), .lit (.int .u8 0), .lit (.int .u8 0), .lit (.int .u8 0), .lit (.int .u8 0), .lit (.int .u8 0), .lit (.int .u8 0), .lit (.int .u8 0)], .any, .arr 64 5, false⟩
@[simp] theorem t145_size : t145.size = 64 := rfl
@[simp] theorem t145_bytes : t145.bytes = 64 := rfl
@[simp] theorem t145_z : t145.z = .agg [.lit (.int .u8 0), .lit (.int .u8 0), .lit (.int .u8 0), .lit (.int .u8 0), .lit (.int .u8 0), .lit (.int .u8 0), .lit (.int .u8 0), .lit (.int .u8 0), .lit (.int .u8 0), .lit (.int .u8 0), .lit (.int .u8 0), .lit (.int .u8 0), .lit (.int .u8 0), .lit (.int .u8 0), .lit (.int .u8 0), .lit (.int .u8 0), .lit (.int .u8 0), .lit (.int .u8 0), .lit (.int .u8 0), .lit (.int .u8 0), .lit (.int .u8 0), .lit (.int .u8 0), .lit (.int .u8 0), .lit (.int .u8 0), .lit (.int .u8 0), .lit (.int .u8 0), .lit (.int .u8 0), .lit (.int .u8 0), .lit (.int .u8 0), .lit (.int .u8 0), .lit (.int .u8 0), .lit (.int .u8 0), .lit (.int .u8 0), .lit (.int .u8 0), .lit (.int .u8 0), .lit (.int .u8 0), .lit (.int .u8 0), .lit (.int .u8 0), .lit (.int .u8 0), .lit (.int .u8 0), .lit (.int .u8 0), .lit (.int .u8 0), .lit (.int .u8 0), .lit (.int .u8 0), .lit (.int .u8 0), .lit (.int .u8 0), .lit (.int .u8 0), .lit (.int .u8 0), .lit (.int .u8 0), .lit (.int .u8 0), .lit (.int .u8 0), .lit (.int .u8 0), .lit (.int .u8 0), .lit (.int .u8 0), .lit (.int .u8 0), .lit (.int .u8 0), .lit (.int .u8 0), .lit (.int .u8 0), .lit (.int .u8 0), .lit (.int .u8 0), .lit (.int .u8 0), .lit (.int .u8 0), .lit (.int .u8 0), .lit (.int .u8 0)] := rfl
@[simp] theorem t145_y : t145.y = .any := rfl
@[simp] theorem t145_kind : t145.kind = .arr 64 5 := rfl
@[simp] theorem t145_cmp : t145.cmp = false := rfl
/-- func(unsafe.Pointer, unsafe.Pointer) bool -/
def t155 : TI := ⟨1, 8, .nilFunc, .lit .nilFunc, .lit .nilFunc, .func, false⟩
@[simp] theorem t155_size : t155.size = 1 := rfl
@[simp] theorem t155_bytes : t155.bytes = 8 := rfl
@[simp] theorem t155_z : t155.z = .lit .nilFunc := rfl
@[simp] theorem t155_y : t155.y = .lit .nilFunc := rfl
@[simp] theorem t155_kind : t155.kind = .func := rfl
@[simp] theorem t155_cmp : t155.cmp = false := rfl
/-- *uint8 -/
def t156 : TI := ⟨1, 8, .pointer none, .lit (.pointer none), .lit (.pointer none), .ptr 5, false⟩
@[simp] theorem t156_size : t156.size = 1 := rfl
@[simp] theorem t156_bytes : t156.bytes = 8 := rfl
@[simp] theorem t156_z : t156.z = .lit (.pointer none) := rfl
@[simp] theorem t156_y : t156.y = .lit (.pointer none) := rfl
@[simp] theorem t156_kind : t156.kind = .ptr 5 := rfl
@[simp] theorem t156_cmp : t156.cmp = false := rfl
/-- struct { Size_ uintptr; PtrBytes uintptr; Hash uint32; TFlag abi.TFlag; Align_ uint8; FieldAlign_ uint8; Kind_ abi.Kind; Equal func(unsafe.Pointer, unsafe.Pointer) bool; GCData *uint8; Str abi.NameOff; PtrToThis abi.TypeOff } -/
def t159 : TI := ⟨11, 48, .agg #[.int .u64 0, .int .u64 0, .int .u32 0, .int .u8 0, .int .u8 0, .int .u8 0, .int .u8 0, .nilFunc, .pointer none, .int .i32 0, .int .i32 0], .agg [.lit (.int .u64 0), .lit (.int .u64 0), .lit (.int .u32 0), .lit (.int .u8 0), .lit (.int .u8 0), .lit (.int .u8 0), .lit (.int .u8 0), .lit .nilFunc, .lit (.pointer none), .lit (.int .i32 0), .lit (.int .i32 0)], .any, .st [(0, 12), (1, 12), (2, 138), (3, 153), (4, 5), (5, 5), (6, 154), (7, 155), (8, 156), (9, 157), (10, 158)], false⟩
@[simp] theorem t159_size : t159.size = 11 := rfl
@[simp] theorem t159_bytes : t159.bytes = 48 := rfl
@[simp] theorem t159_z : t159.z = .agg [.lit (.int .u64 0), .lit (.int .u64 0), .lit (.int .u32 0), .lit (.int .u8 0), .lit (.int .u8 0), .lit (.int .u8 0), .lit (.int .u8 0), .lit .nilFunc, .lit (.pointer none), .lit (.int .i32 0), .lit (.int .i32 0)] := rfl
@[simp] theorem t159_y : t159.y = .any := rfl
@[simp] theorem t159_kind : t159.kind = .st [(0, 12), (1, 12), (2, 138), (3, 153), (4, 5), (5, 5), (6, 154), (7, 155), (8, 156), (9, 157), (10, 158)] := rfl
@[simp] theorem t159_cmp : t159.cmp = false := rfl
/-- struct { kind int; colour int; size int; place int } -/
def t165 : TI := ⟨4, 32, .agg #[.int .i64 0, .int .i64 0, .int .i64 0, .int .i64 0], .agg [.lit (.int .i64 0), .lit (.int .i64 0), .lit (.int .i64 0), .lit (.int .i64 0)], yTLikeness, .st [(0, 3), (1, 3), (2, 3), (3, 3)], true⟩
@[simp] theorem t165_size : t165.size = 4 := rfl
@[simp] theorem t165_bytes : t165.bytes = 32 := rfl
@[simp] theorem t165_z : t165.z = .agg [.lit (.int .i64 0), .lit (.int .i64 0), .lit (.int .i64 0), .lit (.int .i64 0)] := rfl
@[simp] theorem t165_y : t165.y = yTLikeness := rfl
@[simp] theorem t165_kind : t165.kind = .st [(0, 3), (1, 3), (2, 3), (3, 3)] := rfl
@[simp] theorem t165_cmp : t165.cmp = true := rfl
/-- impl.likeness = loop.example/g03007/impl.likeness -/
def t166 : TI := ⟨4, 32, .agg #[.int .i64 0, .int .i64 0, .int .i64 0, .int .i64 0], .agg [.lit (.int .i64 0), .lit (.int .i64 0), .lit (.int .i64 0), .lit (.int .i64 0)], yTLikeness, .st [(0, 3), (1, 3), (2, 3), (3, 3)], true⟩
@[simp] theorem t166_size : t166.size = 4 := rfl
@[simp] theorem t166_bytes : t166.bytes = 32 := rfl
@[simp] theorem t166_z : t166.z = .agg [.lit (.int .i64 0), .lit (.int .i64 0), .lit (.int .i64 0), .lit (.int .i64 0)] := rfl
@[simp] theorem t166_y : t166.y = yTLikeness := rfl
@[simp] theorem t166_kind : t166.kind = .st [(0, 3), (1, 3), (2, 3), (3, 3)] := rfl
@[simp] theorem t166_cmp : t166.cmp = true := rfl
theorem t2_ok : t2.ok Tryd.prog 2 := ⟨by kernel_rfl, by kernel_rfl, by kernel_rfl, Tryd.underlying2, (fun h => by cases h), ⟨rfl, rfl, rfl, rfl, fun F h β => by simp [t2, Rep, Reps]⟩⟩
theorem t3_ok : t3.ok Tryd.prog 3 := ⟨by kernel_rfl, by kernel_rfl, by kernel_rfl, Tryd.underlying3, (fun h => by cases h), ⟨rfl, rfl, rfl, rfl, fun F h β => by simp [t3, Rep, Reps]⟩⟩
theorem t4_ok : t4.ok Tryd.prog 4 := ⟨by kernel_rfl, by kernel_rfl, by kernel_rfl, Tryd.underlying4, (fun h => by cases h), ⟨rfl, rfl, rfl, rfl, fun F h β => by simp [t4, Rep, Reps]⟩⟩
theorem t5_ok : t5.ok Tryd.prog 5 := ⟨by kernel_rfl, by kernel_rfl, by kernel_rfl, Tryd.underlying5, (fun h => by cases h), ⟨rfl, rfl, rfl, rfl, fun F h β => by simp [t5, Rep, Reps]⟩⟩
theorem t9_ok : t9.ok Tryd.prog 9 := ⟨by kernel_rfl, by kernel_rfl, by kernel_rfl, Tryd.underlying9, (fun h => by cases h), ⟨rfl, rfl, rfl, rfl, fun F h β => by simp [t9, Rep, Reps]⟩⟩
theorem t12_ok : t12.ok Tryd.prog 12 := ⟨by kernel_rfl, by kernel_rfl, by kernel_rfl, Tryd.underlying12, (fun h => by cases h), ⟨rfl, rfl, rfl, rfl, fun F h β => by simp [t12, Rep, Reps]⟩⟩
theorem t20_ok : t20.ok Tryd.prog 20 := ⟨by kernel_rfl, by kernel_rfl, by kernel_rfl, ⟨_, Tryd.underlying20⟩, (fun h => by cases h), ⟨rfl, rfl, rfl, rfl, fun F h β => by simp [t20, Rep, Reps]⟩⟩
theorem t21_ok : t21.ok Tryd.prog 21 := ⟨by kernel_rfl, by kernel_rfl, by kernel_rfl, Tryd.underlying21, (fun h => by cases h), ⟨rfl, rfl, rfl, rfl, fun F h β => by simp [t21, Rep, Reps]⟩⟩
theorem t22_ok : t22.ok Tryd.prog 22 := ⟨by kernel_rfl, by kernel_rfl, by kernel_rfl, Tryd.underlying22, (fun h => by cases h), ⟨rfl, rfl, rfl, rfl, fun F h β => by simp [t22, Rep, Reps]⟩⟩
theorem t23_ok : t23.ok Tryd.prog 23 := ⟨by kernel_rfl, by kernel_rfl, by kernel_rfl, Tryd.underlying23, (fun h => by cases h), ⟨rfl, rfl, rfl, rfl, fun F h β => by simp [t23, Rep, Reps]⟩⟩
theorem t24_ok : t24.ok Tryd.prog 24 := ⟨by kernel_rfl, by kernel_rfl, by kernel_rfl, Tryd.underlying24, (fun h => by cases h), ⟨rfl, rfl, rfl, rfl, fun F h β => by simp [t24, Rep, Reps]⟩⟩
theorem t25_ok : t25.ok Tryd.prog 25 := ⟨by kernel_rfl, by kernel_rfl, by kernel_rfl, Tryd.underlying25, (fun h => by cases h), ⟨rfl, rfl, rfl, rfl, fun F h β => by simp [t25, Rep, Reps]⟩⟩
theorem t26_ok : t26.ok Tryd.prog 26 := ⟨by kernel_rfl, by kernel_rfl, by kernel_rfl, Tryd.underlying26, (fun h => by cases h), ⟨rfl, rfl, rfl, rfl, fun F h β => by simp [t26, Rep, Reps]⟩⟩
theorem t27_ok : t27.ok Tryd.prog 27 := ⟨by kernel_rfl, by kernel_rfl, by kernel_rfl, Tryd.underlying27, (fun h => by cases h), ⟨rfl, rfl, rfl, rfl, fun F h β => by simp [t27, Rep, Reps]⟩⟩
theorem t28_ok : t28.ok Tryd.prog 28 := ⟨by kernel_rfl, by kernel_rfl, by kernel_rfl, Tryd.underlying28, (fun h => by cases h), ⟨rfl, rfl, rfl, rfl, fun F h β => by simp [t28, Rep, Reps]⟩⟩
theorem t29_ok : t29.ok Tryd.prog 29 := ⟨by kernel_rfl, by kernel_rfl, by kernel_rfl, ⟨_, Tryd.underlying29, rfl⟩, (fun h => by cases h), ⟨rfl, rfl, rfl, rfl, fun F h β => by
    show Rep F h β t29.z t29.zero
    simp only [t29, Rep, Reps]
    exact ⟨_, rfl, _, _, rfl, (by trivial), _, _, rfl, (.inl ⟨by trivial, none, 0, by trivial, by intros; rfl⟩), _, _, rfl, (.inl ⟨by trivial, none, 0, by trivial, by intros; rfl⟩), _, _, rfl, (.inl ⟨by trivial, none, 0, by trivial, by intros; rfl⟩), _, _, rfl, (.inl ⟨by trivial, none, 0, by trivial, by intros; rfl⟩), _, _, rfl, (.inl ⟨by trivial, none, 0, by trivial, by intros; rfl⟩), _, _, rfl, (.inl ⟨by trivial, none, 0, by trivial, by intros; rfl⟩), _, _, rfl, (.inl ⟨by trivial, none, 0, by trivial, by intros; rfl⟩), _, _, rfl, (by trivial), rfl⟩⟩⟩
theorem t30_ok : t30.ok Tryd.prog 30 := ⟨by kernel_rfl, by kernel_rfl, by kernel_rfl, ⟨_, Tryd.underlying30, rfl⟩, (fun h => by cases h), ⟨rfl, rfl, rfl, rfl, fun F h β => by
    show Rep F h β t30.z t30.zero
    simp only [t30, Rep, Reps]
    exact ⟨_, rfl, _, _, rfl, (by trivial), _, _, rfl, (.inl ⟨by trivial, none, 0, by trivial, by intros; rfl⟩), _, _, rfl, (.inl ⟨by trivial, none, 0, by trivial, by intros; rfl⟩), _, _, rfl, (.inl ⟨by trivial, none, 0, by trivial, by intros; rfl⟩), _, _, rfl, (.inl ⟨by trivial, none, 0, by trivial, by intros; rfl⟩), _, _, rfl, (.inl ⟨by trivial, none, 0, by trivial, by intros; rfl⟩), _, _, rfl, (.inl ⟨by trivial, none, 0, by trivial, by intros; rfl⟩), _, _, rfl, (.inl ⟨by trivial, none, 0, by trivial, by intros; rfl⟩), _, _, rfl, (by trivial), rfl⟩⟩⟩
theorem t32_ok : t32.ok Tryd.prog 32 := ⟨by kernel_rfl, by kernel_rfl, by kernel_rfl, ⟨_, _, _, Tryd.underlying32⟩, (fun h => by cases h), ⟨rfl, rfl, rfl, rfl, fun F h β => by simp [t32, Rep, Reps]⟩⟩
theorem t33_ok : t33.ok Tryd.prog 33 := ⟨by kernel_rfl, by kernel_rfl, by kernel_rfl, Tryd.underlying33, (fun h => by cases h), ⟨rfl, rfl, rfl, rfl, fun F h β => by simp [t33, Rep, Reps]⟩⟩
theorem t34_ok : t34.ok Tryd.prog 34 := ⟨by kernel_rfl, by kernel_rfl, by kernel_rfl, Tryd.underlying34, (fun h => by cases h), ⟨rfl, rfl, rfl, rfl, fun F h β => by simp [t34, Rep, Reps]⟩⟩
theorem t35_ok : t35.ok Tryd.prog 35 := ⟨by kernel_rfl, by kernel_rfl, by kernel_rfl, Tryd.underlying35, (fun h => by cases h), ⟨rfl, rfl, rfl, rfl, fun F h β => by simp [t35, Rep, Reps]⟩⟩
theorem t36_ok : t36.ok Tryd.prog 36 := ⟨by kernel_rfl, by kernel_rfl, by kernel_rfl, Tryd.underlying36, (fun h => by cases h), ⟨rfl, rfl, rfl, rfl, fun F h β => by simp [t36, Rep, Reps]⟩⟩
theorem t37_ok : t37.ok Tryd.prog 37 := ⟨by kernel_rfl, by kernel_rfl, by kernel_rfl, Tryd.underlying37, (fun h => by cases h), ⟨rfl, rfl, rfl, rfl, fun F h β => by simp [t37, Rep, Reps]⟩⟩
theorem t38_ok : t38.ok Tryd.prog 38 := ⟨by kernel_rfl, by kernel_rfl, by kernel_rfl, Tryd.underlying38, (fun h => by cases h), ⟨rfl, rfl, rfl, rfl, fun F h β => by simp [t38, Rep, Reps]⟩⟩
theorem t39_ok : t39.ok Tryd.prog 39 := ⟨by kernel_rfl, by kernel_rfl, by kernel_rfl, Tryd.underlying39, (fun h => by cases h), ⟨rfl, rfl, rfl, rfl, fun F h β => by simp [t39, Rep, Reps]⟩⟩
theorem t40_ok : t40.ok Tryd.prog 40 := ⟨by kernel_rfl, by kernel_rfl, by kernel_rfl, ⟨_, Tryd.underlying40, rfl⟩, (fun h => by cases h), ⟨rfl, rfl, rfl, rfl, fun F h β => by
    show Rep F h β t40.z t40.zero
    simp only [t40, Rep, Reps]
    exact ⟨_, rfl, _, _, rfl, (by trivial), _, _, rfl, (.inl ⟨by trivial, none, 0, by trivial, by intros; rfl⟩), _, _, rfl, (.inl ⟨by trivial, none, 0, by trivial, by intros; rfl⟩), _, _, rfl, (.inl ⟨by trivial, none, 0, by trivial, by intros; rfl⟩), _, _, rfl, (.inl ⟨by trivial, none, 0, by trivial, by intros; rfl⟩), _, _, rfl, (.inl ⟨by trivial, none, 0, by trivial, by intros; rfl⟩), _, _, rfl, (.inl ⟨by trivial, none, 0, by trivial, by intros; rfl⟩), _, _, rfl, (.inl ⟨by trivial, none, 0, by trivial, by intros; rfl⟩), _, _, rfl, (by trivial), rfl⟩⟩⟩
theorem t41_ok : t41.ok Tryd.prog 41 := ⟨by kernel_rfl, by kernel_rfl, by kernel_rfl, ⟨_, Tryd.underlying41, rfl⟩, (fun h => by cases h), ⟨rfl, rfl, rfl, rfl, fun F h β => by
    show Rep F h β t41.z t41.zero
    simp only [t41, Rep, Reps]
    exact ⟨_, rfl, _, _, rfl, (by trivial), _, _, rfl, (.inl ⟨by trivial, none, 0, by trivial, by intros; rfl⟩), _, _, rfl, (.inl ⟨by trivial, none, 0, by trivial, by intros; rfl⟩), _, _, rfl, (.inl ⟨by trivial, none, 0, by trivial, by intros; rfl⟩), _, _, rfl, (.inl ⟨by trivial, none, 0, by trivial, by intros; rfl⟩), _, _, rfl, (.inl ⟨by trivial, none, 0, by trivial, by intros; rfl⟩), _, _, rfl, (.inl ⟨by trivial, none, 0, by trivial, by intros; rfl⟩), _, _, rfl, (.inl ⟨by trivial, none, 0, by trivial, by intros; rfl⟩), _, _, rfl, (by trivial), rfl⟩⟩⟩
theorem t53_ok : t53.ok Tryd.prog 53 := ⟨by kernel_rfl, by kernel_rfl, by kernel_rfl, Tryd.underlying53, (fun h => by cases h), ⟨rfl, rfl, rfl, rfl, fun F h β => by simp [t53, Rep, Reps]⟩⟩
theorem t64_ok : t64.ok Tryd.prog 64 := ⟨by kernel_rfl, by kernel_rfl, by kernel_rfl, ⟨_, _, _, Tryd.underlying64⟩, (fun h => by cases h), ⟨rfl, rfl, rfl, rfl, fun F h β => by simp [t64, Rep, Reps]⟩⟩
theorem t65_ok : t65.ok Tryd.prog 65 := ⟨by kernel_rfl, by kernel_rfl, by kernel_rfl, ⟨_, _, _, Tryd.underlying65⟩, (fun h => by cases h), ⟨rfl, rfl, rfl, rfl, fun F h β => by simp [t65, Rep, Reps]⟩⟩
theorem t69_ok : t69.ok Tryd.prog 69 := ⟨by kernel_rfl, by kernel_rfl, by kernel_rfl, Tryd.underlying69, (fun h => by cases h), ⟨rfl, rfl, rfl, rfl, fun F h β => by simp [t69, Rep, Reps]⟩⟩
theorem t70_ok : t70.ok Tryd.prog 70 := ⟨by kernel_rfl, by kernel_rfl, by kernel_rfl, ⟨_, Tryd.underlying70, rfl⟩, (fun h => by cases h), ⟨rfl, rfl, rfl, rfl, fun F h β => by
    show Rep F h β t70.z t70.zero
    simp only [t70, Rep, Reps]
    exact ⟨_, rfl, _, _, rfl, (by trivial), _, _, rfl, (.inl ⟨by trivial, none, 0, by trivial, by intros; rfl⟩), _, _, rfl, (by trivial), rfl⟩⟩⟩
theorem t71_ok : t71.ok Tryd.prog 71 := ⟨by kernel_rfl, by kernel_rfl, by kernel_rfl, ⟨_, Tryd.underlying71, rfl⟩, (fun h => by cases h), ⟨rfl, rfl, rfl, rfl, fun F h β => by
    show Rep F h β t71.z t71.zero
    simp only [t71, Rep, Reps]
    exact ⟨_, rfl, _, _, rfl, (by trivial), _, _, rfl, (.inl ⟨by trivial, none, 0, by trivial, by intros; rfl⟩), _, _, rfl, (by trivial), rfl⟩⟩⟩
theorem t72_ok : t72.ok Tryd.prog 72 := ⟨by kernel_rfl, by kernel_rfl, by kernel_rfl, Tryd.underlying72, (fun h => by cases h), ⟨rfl, rfl, rfl, rfl, fun F h β => by simp [t72, Rep, Reps]⟩⟩
theorem t75_ok : t75.ok Tryd.prog 75 := ⟨by kernel_rfl, by kernel_rfl, by kernel_rfl, ⟨_, Tryd.underlying75, rfl⟩, (fun _ => eqInts_of (by kernel_rfl) (by kernel_rfl) (by kernel_rfl)), ⟨rfl, rfl, rfl, rfl, fun F h β => by simp [t75, Rep, Reps]⟩⟩
theorem t76_ok : t76.ok Tryd.prog 76 := ⟨by kernel_rfl, by kernel_rfl, by kernel_rfl, ⟨_, Tryd.underlying76, rfl⟩, (fun _ => eqInts_of (by kernel_rfl) (by kernel_rfl) (by kernel_rfl)), ⟨rfl, rfl, rfl, rfl, fun F h β => by simp [t76, Rep, Reps]⟩⟩
theorem t77_ok : t77.ok Tryd.prog 77 := ⟨by kernel_rfl, by kernel_rfl, by kernel_rfl, ⟨_, Tryd.underlying77, rfl⟩, (fun _ => eqInts_of (by kernel_rfl) (by kernel_rfl) (by kernel_rfl)), ⟨rfl, rfl, rfl, rfl, fun F h β => by simp [t77, Rep, Reps]⟩⟩
theorem t78_ok : t78.ok Tryd.prog 78 := ⟨by kernel_rfl, by kernel_rfl, by kernel_rfl, ⟨_, Tryd.underlying78, rfl⟩, (fun _ => eqInts_of (by kernel_rfl) (by kernel_rfl) (by kernel_rfl)), ⟨rfl, rfl, rfl, rfl, fun F h β => by simp [t78, Rep, Reps]⟩⟩
theorem t80_ok : t80.ok Tryd.prog 80 := ⟨by kernel_rfl, by kernel_rfl, by kernel_rfl, ⟨_, Tryd.underlying80, rfl⟩, (fun _ => eqInts_of (by kernel_rfl) (by kernel_rfl) (by kernel_rfl)), ⟨rfl, rfl, rfl, rfl, fun F h β => by simp [t80, Rep, Reps]⟩⟩
theorem t81_ok : t81.ok Tryd.prog 81 := ⟨by kernel_rfl, by kernel_rfl, by kernel_rfl, ⟨_, Tryd.underlying81, rfl⟩, (fun _ => eqInts_of (by kernel_rfl) (by kernel_rfl) (by kernel_rfl)), ⟨rfl, rfl, rfl, rfl, fun F h β => by simp [t81, Rep, Reps]⟩⟩
theorem t82_ok : t82.ok Tryd.prog 82 := ⟨by kernel_rfl, by kernel_rfl, by kernel_rfl, ⟨_, Tryd.underlying82, rfl⟩, (fun _ => eqInts_of (by kernel_rfl) (by kernel_rfl) (by kernel_rfl)), ⟨rfl, rfl, rfl, rfl, fun F h β => by simp [t82, Rep, Reps]⟩⟩
theorem t83_ok : t83.ok Tryd.prog 83 := ⟨by kernel_rfl, by kernel_rfl, by kernel_rfl, Tryd.underlying83, (fun h => by cases h), ⟨rfl, rfl, rfl, rfl, fun F h β => by simp [t83, Rep, Reps]⟩⟩
theorem t84_ok : t84.ok Tryd.prog 84 := ⟨by kernel_rfl, by kernel_rfl, by kernel_rfl, ⟨_, Tryd.underlying84, rfl⟩, (fun h => by cases h), ⟨rfl, rfl, rfl, rfl, fun F h β => by
    show Rep F h β t84.z t84.zero
    simp only [t84, Rep, Reps]
    exact ⟨_, rfl, _, _, rfl, (by trivial), _, _, rfl, (.inl ⟨by trivial, none, 0, by trivial, by intros; rfl⟩), _, _, rfl, (by trivial), rfl⟩⟩⟩
theorem t85_ok : t85.ok Tryd.prog 85 := ⟨by kernel_rfl, by kernel_rfl, by kernel_rfl, ⟨_, Tryd.underlying85, rfl⟩, (fun h => by cases h), ⟨rfl, rfl, rfl, rfl, fun F h β => by
    show Rep F h β t85.z t85.zero
    simp only [t85, Rep, Reps]
    exact ⟨_, rfl, _, _, rfl, (by trivial), _, _, rfl, (.inl ⟨by trivial, none, 0, by trivial, by intros; rfl⟩), _, _, rfl, (by trivial), rfl⟩⟩⟩
theorem t87_ok : t87.ok Tryd.prog 87 := ⟨by kernel_rfl, by kernel_rfl, by kernel_rfl, ⟨_, Tryd.underlying87, rfl⟩, (fun _ => eqInts_of (by kernel_rfl) (by kernel_rfl) (by kernel_rfl)), ⟨rfl, rfl, rfl, rfl, fun F h β => by simp [t87, Rep, Reps]⟩⟩
theorem t88_ok : t88.ok Tryd.prog 88 := ⟨by kernel_rfl, by kernel_rfl, by kernel_rfl, ⟨_, Tryd.underlying88, rfl⟩, (fun _ => eqInts_of (by kernel_rfl) (by kernel_rfl) (by kernel_rfl)), ⟨rfl, rfl, rfl, rfl, fun F h β => by simp [t88, Rep, Reps]⟩⟩
theorem t90_ok : t90.ok Tryd.prog 90 := ⟨by kernel_rfl, by kernel_rfl, by kernel_rfl, ⟨_, Tryd.underlying90, rfl⟩, (fun _ => eqInts_of (by kernel_rfl) (by kernel_rfl) (by kernel_rfl)), ⟨rfl, rfl, rfl, rfl, fun F h β => by simp [t90, Rep, Reps]⟩⟩
theorem t91_ok : t91.ok Tryd.prog 91 := ⟨by kernel_rfl, by kernel_rfl, by kernel_rfl, ⟨_, Tryd.underlying91, rfl⟩, (fun _ => eqInts_of (by kernel_rfl) (by kernel_rfl) (by kernel_rfl)), ⟨rfl, rfl, rfl, rfl, fun F h β => by simp [t91, Rep, Reps]⟩⟩
theorem t92_ok : t92.ok Tryd.prog 92 := ⟨by kernel_rfl, by kernel_rfl, by kernel_rfl, ⟨_, Tryd.underlying92, rfl⟩, (fun _ => eqInts_of (by kernel_rfl) (by kernel_rfl) (by kernel_rfl)), ⟨rfl, rfl, rfl, rfl, fun F h β => by simp [t92, Rep, Reps]⟩⟩
theorem t94_ok : t94.ok Tryd.prog 94 := ⟨by kernel_rfl, by kernel_rfl, by kernel_rfl, ⟨_, Tryd.underlying94, rfl⟩, (fun _ => eqInts_of (by kernel_rfl) (by kernel_rfl) (by kernel_rfl)), ⟨rfl, rfl, rfl, rfl, fun F h β => by simp [t94, Rep, Reps]⟩⟩
theorem t95_ok : t95.ok Tryd.prog 95 := ⟨by kernel_rfl, by kernel_rfl, by kernel_rfl, ⟨_, Tryd.underlying95, rfl⟩, (fun _ => eqInts_of (by kernel_rfl) (by kernel_rfl) (by kernel_rfl)), ⟨rfl, rfl, rfl, rfl, fun F h β => by simp [t95, Rep, Reps]⟩⟩
theorem t96_ok : t96.ok Tryd.prog 96 := ⟨by kernel_rfl, by kernel_rfl, by kernel_rfl, ⟨_, Tryd.underlying96, rfl⟩, (fun _ => eqInts_of (by kernel_rfl) (by kernel_rfl) (by kernel_rfl)), ⟨rfl, rfl, rfl, rfl, fun F h β => by simp [t96, Rep, Reps]⟩⟩
theorem t98_ok : t98.ok Tryd.prog 98 := ⟨by kernel_rfl, by kernel_rfl, by kernel_rfl, ⟨_, Tryd.underlying98, rfl⟩, (fun _ => eqInts_of (by kernel_rfl) (by kernel_rfl) (by kernel_rfl)), ⟨rfl, rfl, rfl, rfl, fun F h β => by simp [t98, Rep, Reps]⟩⟩
theorem t99_ok : t99.ok Tryd.prog 99 := ⟨by kernel_rfl, by kernel_rfl, by kernel_rfl, ⟨_, Tryd.underlying99, rfl⟩, (fun _ => eqInts_of (by kernel_rfl) (by kernel_rfl) (by kernel_rfl)), ⟨rfl, rfl, rfl, rfl, fun F h β => by simp [t99, Rep, Reps]⟩⟩
theorem t100_ok : t100.ok Tryd.prog 100 := ⟨by kernel_rfl, by kernel_rfl, by kernel_rfl, ⟨_, Tryd.underlying100, rfl⟩, (fun _ => eqInts_of (by kernel_rfl) (by kernel_rfl) (by kernel_rfl)), ⟨rfl, rfl, rfl, rfl, fun F h β => by simp [t100, Rep, Reps]⟩⟩
theorem t102_ok : t102.ok Tryd.prog 102 := ⟨by kernel_rfl, by kernel_rfl, by kernel_rfl, ⟨_, Tryd.underlying102, rfl⟩, (fun _ => eqInts_of (by kernel_rfl) (by kernel_rfl) (by kernel_rfl)), ⟨rfl, rfl, rfl, rfl, fun F h β => by simp [t102, Rep, Reps]⟩⟩
theorem t103_ok : t103.ok Tryd.prog 103 := ⟨by kernel_rfl, by kernel_rfl, by kernel_rfl, ⟨_, Tryd.underlying103, rfl⟩, (fun _ => eqInts_of (by kernel_rfl) (by kernel_rfl) (by kernel_rfl)), ⟨rfl, rfl, rfl, rfl, fun F h β => by simp [t103, Rep, Reps]⟩⟩
theorem t104_ok : t104.ok Tryd.prog 104 := ⟨by kernel_rfl, by kernel_rfl, by kernel_rfl, ⟨_, Tryd.underlying104, rfl⟩, (fun _ => eqInts_of (by kernel_rfl) (by kernel_rfl) (by kernel_rfl)), ⟨rfl, rfl, rfl, rfl, fun F h β => by simp [t104, Rep, Reps]⟩⟩
theorem t106_ok : t106.ok Tryd.prog 106 := ⟨by kernel_rfl, by kernel_rfl, by kernel_rfl, ⟨_, Tryd.underlying106, rfl⟩, (fun _ => eqInts_of (by kernel_rfl) (by kernel_rfl) (by kernel_rfl)), ⟨rfl, rfl, rfl, rfl, fun F h β => by simp [t106, Rep, Reps]⟩⟩
theorem t117_ok : t117.ok Tryd.prog 117 := ⟨by kernel_rfl, by kernel_rfl, by kernel_rfl, Tryd.underlying117, (fun h => by cases h), ⟨rfl, rfl, rfl, rfl, fun F h β => by simp [t117, Rep, Reps]⟩⟩
theorem t120_ok : t120.ok Tryd.prog 120 := ⟨by kernel_rfl, by kernel_rfl, by kernel_rfl, Tryd.underlying120, (fun h => by cases h), ⟨rfl, rfl, rfl, rfl, fun F h β => by simp [t120, Rep, Reps]⟩⟩
theorem t123_ok : t123.ok Tryd.prog 123 := ⟨by kernel_rfl, by kernel_rfl, by kernel_rfl, ⟨_, Tryd.underlying123, rfl⟩, (fun _ => eqInts_of (by kernel_rfl) (by kernel_rfl) (by kernel_rfl)), ⟨rfl, rfl, rfl, rfl, fun F h β => by simp [t123, Rep, Reps]⟩⟩
theorem t124_ok : t124.ok Tryd.prog 124 := ⟨by kernel_rfl, by kernel_rfl, by kernel_rfl, ⟨_, Tryd.underlying124, rfl⟩, (fun _ => eqInts_of (by kernel_rfl) (by kernel_rfl) (by kernel_rfl)), ⟨rfl, rfl, rfl, rfl, fun F h β => by simp [t124, Rep, Reps]⟩⟩
theorem t126_ok : t126.ok Tryd.prog 126 := ⟨by kernel_rfl, by kernel_rfl, by kernel_rfl, ⟨_, Tryd.underlying126, rfl⟩, (fun _ => eqInts_of (by kernel_rfl) (by kernel_rfl) (by kernel_rfl)), ⟨rfl, rfl, rfl, rfl, fun F h β => by simp [t126, Rep, Reps]⟩⟩
theorem t129_ok : t129.ok Tryd.prog 129 := ⟨by kernel_rfl, by kernel_rfl, by kernel_rfl, Tryd.underlying129, (fun h => by cases h), ⟨rfl, rfl, rfl, rfl, fun F h β => by simp [t129, Rep, Reps]⟩⟩
theorem t130_ok : t130.ok Tryd.prog 130 := ⟨by kernel_rfl, by kernel_rfl, by kernel_rfl, Tryd.underlying130, (fun h => by cases h), ⟨rfl, rfl, rfl, rfl, fun F h β => by simp [t130, Rep, Reps]⟩⟩
theorem t137_ok : t137.ok Tryd.prog 137 := ⟨by kernel_rfl, by kernel_rfl, by kernel_rfl, Tryd.underlying137, (fun h => by cases h), ⟨rfl, rfl, rfl, rfl, fun F h β => by simp [t137, Rep, Reps]⟩⟩
theorem t138_ok : t138.ok Tryd.prog 138 := ⟨by kernel_rfl, by kernel_rfl, by kernel_rfl, Tryd.underlying138, (fun h => by cases h), ⟨rfl, rfl, rfl, rfl, fun F h β => by simp [t138, Rep, Reps]⟩⟩
theorem t139_ok : t139.ok Tryd.prog 139 := ⟨by kernel_rfl, by kernel_rfl, by kernel_rfl, Tryd.underlying139, (fun h => by cases h), ⟨rfl, rfl, rfl, rfl, fun F h β => by simp [t139, Rep, Reps]⟩⟩
theorem t141_ok : t141.ok Tryd.prog 141 := ⟨by kernel_rfl, by kernel_rfl, by kernel_rfl, Tryd.underlying141, (fun h => by cases h), ⟨rfl, rfl, rfl, rfl, fun F h β => by simp [t141, Rep, Reps]⟩⟩
theorem t144_ok : t144.ok Tryd.prog 144 := ⟨by kernel_rfl, by kernel_rfl, by kernel_rfl, Tryd.underlying144, (fun h => by cases h), ⟨rfl, rfl, rfl, rfl, fun F h β => by simp [t144, Rep, Reps]⟩⟩
theorem t145_ok : t145.ok Tryd.prog 145 := ⟨by kernel_rfl, by kernel_rfl, by kernel_rfl, Tryd.underlying145, (fun h => by cases h), ⟨rfl, rfl, rfl, rfl, fun F h β => by simp [t145, Rep, Reps]⟩⟩
theorem t155_ok : t155.ok Tryd.prog 155 := ⟨by kernel_rfl, by kernel_rfl, by kernel_rfl, ⟨_, _, _, Tryd.underlying155⟩, (fun h => by cases h), ⟨rfl, rfl, rfl, rfl, fun F h β => by simp [t155, Rep, Reps]⟩⟩
theorem t156_ok : t156.ok Tryd.prog 156 := ⟨by kernel_rfl, by kernel_rfl, by kernel_rfl, Tryd.underlying156, (fun h => by cases h), ⟨rfl, rfl, rfl, rfl, fun F h β => by simp [t156, Rep, Reps]⟩⟩
theorem t159_ok : t159.ok Tryd.prog 159 := ⟨by kernel_rfl, by kernel_rfl, by kernel_rfl, ⟨_, Tryd.underlying159, rfl⟩, (fun h => by cases h), ⟨rfl, rfl, rfl, rfl, fun F h β => by simp [t159, Rep, Reps]⟩⟩
theorem t165_ok : t165.ok Tryd.prog 165 := ⟨by kernel_rfl, by kernel_rfl, by kernel_rfl, ⟨_, Tryd.underlying165, rfl⟩, (fun _ => eqInts_of (by kernel_rfl) (by kernel_rfl) (by kernel_rfl)), ⟨rfl, rfl, rfl, rfl, fun F h β => by simp [t165, Rep, Reps]⟩⟩
theorem t166_ok : t166.ok Tryd.prog 166 := ⟨by kernel_rfl, by kernel_rfl, by kernel_rfl, ⟨_, Tryd.underlying166, rfl⟩, (fun _ => eqInts_of (by kernel_rfl) (by kernel_rfl) (by kernel_rfl)), ⟨rfl, rfl, rfl, rfl, fun F h β => by simp [t166, Rep, Reps]⟩⟩
def G : Ctx := [(2, t2), (3, t3), (4, t4), (5, t5), (9, t9), (12, t12), (20, t20), (21, t21), (22, t22), (23, t23), (24, t24), (25, t25), (26, t26), (27, t27), (28, t28), (29, t29), (30, t30), (32, t32), (33, t33), (34, t34), (35, t35), (36, t36), (37, t37), (38, t38), (39, t39), (40, t40), (41, t41), (53, t53), (64, t64), (65, t65), (69, t69), (70, t70), (71, t71), (72, t72), (75, t75), (76, t76), (77, t77), (78, t78), (80, t80), (81, t81), (82, t82), (83, t83), (84, t84), (85, t85), (87, t87), (88, t88), (90, t90), (91, t91), (92, t92), (94, t94), (95, t95), (96, t96), (98, t98), (99, t99), (100, t100), (102, t102), (103, t103), (104, t104), (106, t106), (117, t117), (120, t120), (123, t123), (124, t124), (126, t126), (129, t129), (130, t130), (137, t137), (138, t138), (139, t139), (141, t141), (144, t144), (145, t145), (155, t155), (156, t156), (159, t159), (165, t165), (166, t166)]
@[simp] theorem G_2 : G.get 2 = some t2 := rfl
@[simp] theorem G_3 : G.get 3 = some t3 := rfl
@[simp] theorem G_4 : G.get 4 = some t4 := rfl
@[simp] theorem G_5 : G.get 5 = some t5 := rfl
@[simp] theorem G_9 : G.get 9 = some t9 := rfl
@[simp] theorem G_12 : G.get 12 = some t12 := rfl
@[simp] theorem G_20 : G.get 20 = some t20 := rfl
@[simp] theorem G_21 : G.get 21 = some t21 := rfl
@[simp] theorem G_22 : G.get 22 = some t22 := rfl
@[simp] theorem G_23 : G.get 23 = some t23 := rfl
@[simp] theorem G_24 : G.get 24 = some t24 := rfl
@[simp] theorem G_25 : G.get 25 = some t25 := rfl
@[simp] theorem G_26 : G.get 26 = some t26 := rfl
@[simp] theorem G_27 : G.get 27 = some t27 := rfl
@[simp] theorem G_28 : G.get 28 = some t28 := rfl
@[simp] theorem G_29 : G.get 29 = some t29 := rfl
@[simp] theorem G_30 : G.get 30 = some t30 := rfl
@[simp] theorem G_32 : G.get 32 = some t32 := rfl
@[simp] theorem G_33 : G.get 33 = some t33 := rfl
@[simp] theorem G_34 : G.get 34 = some t34 := rfl
@[simp] theorem G_35 : G.get 35 = some t35 := rfl
@[simp] theorem G_36 : G.get 36 = some t36 := rfl
@[simp] theorem G_37 : G.get 37 = some t37 := rfl
@[simp] theorem G_38 : G.get 38 = some t38 := rfl
@[simp] theorem G_39 : G.get 39 = some t39 := rfl
@[simp] theorem G_40 : G.get 40 = some t40 := rfl
@[simp] theorem G_41 : G.get 41 = some t41 := rfl
@[simp] theorem G_53 : G.get 53 = some t53 := rfl
@[simp] theorem G_64 : G.get 64 = some t64 := rfl
@[simp] theorem G_65 : G.get 65 = some t65 := rfl
@[simp] theorem G_69 : G.get 69 = some t69 := rfl
@[simp] theorem G_70 : G.get 70 = some t70 := rfl
@[simp] theorem G_71 : G.get 71 = some t71 := rfl
@[simp] theorem G_72 : G.get 72 = some t72 := rfl
@[simp] theorem G_75 : G.get 75 = some t75 := rfl
@[simp] theorem G_76 : G.get 76 = some t76 := rfl
@[simp] theorem G_77 : G.get 77 = some t77 := rfl
@[simp] theorem G_78 : G.get 78 = some t78 := rfl
@[simp] theorem G_80 : G.get 80 = some t80 := rfl
@[simp] theorem G_81 : G.get 81 = some t81 := rfl
@[simp] theorem G_82 : G.get 82 = some t82 := rfl
@[simp] theorem G_83 : G.get 83 = some t83 := rfl
@[simp] theorem G_84 : G.get 84 = some t84 := rfl
@[simp] theorem G_85 : G.get 85 = some t85 := rfl
@[simp] theorem G_87 : G.get 87 = some t87 := rfl
@[simp] theorem G_88 : G.get 88 = some t88 := rfl
@[simp] theorem G_90 : G.get 90 = some t90 := rfl
@[simp] theorem G_91 : G.get 91 = some t91 := rfl
@[simp] theorem G_92 : G.get 92 = some t92 := rfl
@[simp] theorem G_94 : G.get 94 = some t94 := rfl
@[simp] theorem G_95 : G.get 95 = some t95 := rfl
@[simp] theorem G_96 : G.get 96 = some t96 := rfl
@[simp] theorem G_98 : G.get 98 = some t98 := rfl
@[simp] theorem G_99 : G.get 99 = some t99 := rfl
@[simp] theorem G_100 : G.get 100 = some t100 := rfl
@[simp] theorem G_102 : G.get 102 = some t102 := rfl
@[simp] theorem G_103 : G.get 103 = some t103 := rfl
@[simp] theorem G_104 : G.get 104 = some t104 := rfl
@[simp] theorem G_106 : G.get 106 = some t106 := rfl
@[simp] theorem G_117 : G.get 117 = some t117 := rfl
@[simp] theorem G_120 : G.get 120 = some t120 := rfl
@[simp] theorem G_123 : G.get 123 = some t123 := rfl
@[simp] theorem G_124 : G.get 124 = some t124 := rfl
@[simp] theorem G_126 : G.get 126 = some t126 := rfl
@[simp] theorem G_129 : G.get 129 = some t129 := rfl
@[simp] theorem G_130 : G.get 130 = some t130 := rfl
@[simp] theorem G_137 : G.get 137 = some t137 := rfl
@[simp] theorem G_138 : G.get 138 = some t138 := rfl
@[simp] theorem G_139 : G.get 139 = some t139 := rfl
@[simp] theorem G_141 : G.get 141 = some t141 := rfl
@[simp] theorem G_144 : G.get 144 = some t144 := rfl
@[simp] theorem G_145 : G.get 145 = some t145 := rfl
@[simp] theorem G_155 : G.get 155 = some t155 := rfl
@[simp] theorem G_156 : G.get 156 = some t156 := rfl
@[simp] theorem G_159 : G.get 159 = some t159 := rfl
@[simp] theorem G_165 : G.get 165 = some t165 := rfl
@[simp] theorem G_166 : G.get 166 = some t166 := rfl
theorem G_ok : G.ok Tryd.prog := by
  intro p hp
  simp only [G, List.mem_cons, List.not_mem_nil, or_false] at hp
  rcases hp with rfl | rfl | rfl | rfl | rfl | rfl | rfl | rfl | rfl | rfl | rfl | rfl | rfl | rfl | rfl | rfl | rfl | rfl | rfl | rfl | rfl | rfl | rfl | rfl | rfl | rfl | rfl | rfl | rfl | rfl | rfl | rfl | rfl | rfl | rfl | rfl | rfl | rfl | rfl | rfl | rfl | rfl | rfl | rfl | rfl | rfl | rfl | rfl | rfl | rfl | rfl | rfl | rfl | rfl | rfl | rfl | rfl | rfl | rfl | rfl | rfl | rfl | rfl | rfl | rfl | rfl | rfl | rfl | rfl | rfl | rfl | rfl | rfl | rfl | rfl | rfl | rfl
  · exact t2_ok
  · exact t3_ok
  · exact t4_ok
  · exact t5_ok
  · exact t9_ok
  · exact t12_ok
  · exact t20_ok
  · exact t21_ok
  · exact t22_ok
  · exact t23_ok
  · exact t24_ok
  · exact t25_ok
  · exact t26_ok
  · exact t27_ok
  · exact t28_ok
  · exact t29_ok
  · exact t30_ok
  · exact t32_ok
  · exact t33_ok
  · exact t34_ok
  · exact t35_ok
  · exact t36_ok
  · exact t37_ok
  · exact t38_ok
  · exact t39_ok
  · exact t40_ok
  · exact t41_ok
  · exact t53_ok
  · exact t64_ok
  · exact t65_ok
  · exact t69_ok
  · exact t70_ok
  · exact t71_ok
  · exact t72_ok
  · exact t75_ok
  · exact t76_ok
  · exact t77_ok
  · exact t78_ok
  · exact t80_ok
  · exact t81_ok
  · exact t82_ok
  · exact t83_ok
  · exact t84_ok
  · exact t85_ok
  · exact t87_ok
  · exact t88_ok
  · exact t90_ok
  · exact t91_ok
  · exact t92_ok
  · exact t94_ok
  · exact t95_ok
  · exact t96_ok
  · exact t98_ok
  · exact t99_ok
  · exact t100_ok
  · exact t102_ok
  · exact t103_ok
  · exact t104_ok
  · exact t106_ok
  · exact t117_ok
  · exact t120_ok
  · exact t123_ok
  · exact t124_ok
  · exact t126_ok
  · exact t129_ok
  · exact t130_ok
  · exact t137_ok
  · exact t138_ok
  · exact t139_ok
  · exact t141_ok
  · exact t144_ok
  · exact t145_ok
  · exact t155_ok
  · exact t156_ok
  · exact t159_ok
  · exact t165_ok
  · exact t166_ok
theorem mix : Tryd.prog.follows .mixedOrders = true := by kernel_rfl
end Go.Proofs.YthckkminlonbeaaDoor
