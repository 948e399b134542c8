/- What is known of the types of this program: their sizes, zero values and parts. -/
import Derived.Test.YtnncheloiiannaaProg
import Derived.Test.YtnncheloiiannaaTY
import Derived.KernelRfl
namespace Go.Proofs.Ytnncheloiiannaa
open Go Go.Eng
set_option linter.unusedSimpArgs false
set_option linter.unusedVariables false
set_option maxRecDepth 20000
/-- int64 -/
def t2 : TI := ⟨1, 8, .int .i64 0, .lit (.int .i64 0), .lit (.int .i64 0), .int .i64, false⟩
@[simp] theorem t2_size : t2.size = 1 := rfl
@[simp] theorem t2_bytes : t2.bytes = 8 := rfl
@[simp] theorem t2_z : t2.z = .lit (.int .i64 0) := rfl
@[simp] theorem t2_y : t2.y = .lit (.int .i64 0) := rfl
@[simp] theorem t2_kind : t2.kind = .int .i64 := rfl
@[simp] theorem t2_cmp : t2.cmp = false := rfl
/-- int -/
def t3 : TI := ⟨1, 8, .int .i64 0, .lit (.int .i64 0), .lit (.int .i64 0), .int .i64, false⟩
@[simp] theorem t3_size : t3.size = 1 := rfl
@[simp] theorem t3_bytes : t3.bytes = 8 := rfl
@[simp] theorem t3_z : t3.z = .lit (.int .i64 0) := rfl
@[simp] theorem t3_y : t3.y = .lit (.int .i64 0) := rfl
@[simp] theorem t3_kind : t3.kind = .int .i64 := rfl
@[simp] theorem t3_cmp : t3.cmp = false := rfl
/-- bool -/
def t4 : TI := ⟨1, 1, .bool false, .lit (.bool false), .lit (.bool false), .bool, false⟩
@[simp] theorem t4_size : t4.size = 1 := rfl
@[simp] theorem t4_bytes : t4.bytes = 1 := rfl
@[simp] theorem t4_z : t4.z = .lit (.bool false) := rfl
@[simp] theorem t4_y : t4.y = .lit (.bool false) := rfl
@[simp] theorem t4_kind : t4.kind = .bool := rfl
@[simp] theorem t4_cmp : t4.cmp = false := rfl
/-- uint8 -/
def t5 : TI := ⟨1, 1, .int .u8 0, .lit (.int .u8 0), .lit (.int .u8 0), .int .u8, false⟩
@[simp] theorem t5_size : t5.size = 1 := rfl
@[simp] theorem t5_bytes : t5.bytes = 1 := rfl
@[simp] theorem t5_z : t5.z = .lit (.int .u8 0) := rfl
@[simp] theorem t5_y : t5.y = .lit (.int .u8 0) := rfl
@[simp] theorem t5_kind : t5.kind = .int .u8 := rfl
@[simp] theorem t5_cmp : t5.cmp = false := rfl
/-- string -/
def t9 : TI := ⟨1, 16, .string ⟨#[]⟩, .lit (.string ⟨#[]⟩), .lit (.string ⟨#[]⟩), .str, false⟩
@[simp] theorem t9_size : t9.size = 1 := rfl
@[simp] theorem t9_bytes : t9.bytes = 16 := rfl
@[simp] theorem t9_z : t9.z = .lit (.string ⟨#[]⟩) := rfl
@[simp] theorem t9_y : t9.y = .lit (.string ⟨#[]⟩) := rfl
@[simp] theorem t9_kind : t9.kind = .str := rfl
@[simp] theorem t9_cmp : t9.cmp = false := rfl
/-- uintptr -/
def t12 : TI := ⟨1, 8, .int .u64 0, .lit (.int .u64 0), .lit (.int .u64 0), .int .u64, false⟩
@[simp] theorem t12_size : t12.size = 1 := rfl
@[simp] theorem t12_bytes : t12.bytes = 8 := rfl
@[simp] theorem t12_z : t12.z = .lit (.int .u64 0) := rfl
@[simp] theorem t12_y : t12.y = .lit (.int .u64 0) := rfl
@[simp] theorem t12_kind : t12.kind = .int .u64 := rfl
@[simp] theorem t12_cmp : t12.cmp = false := rfl
/-- interface {} -/
def t20 : TI := ⟨1, 16, .nilIface, .lit .nilIface, .lit .nilIface, .iface, false⟩
@[simp] theorem t20_size : t20.size = 1 := rfl
@[simp] theorem t20_bytes : t20.bytes = 16 := rfl
@[simp] theorem t20_z : t20.z = .lit .nilIface := rfl
@[simp] theorem t20_y : t20.y = .lit .nilIface := rfl
@[simp] theorem t20_kind : t20.kind = .iface := rfl
@[simp] theorem t20_cmp : t20.cmp = false := rfl
/-- int32 -/
def t21 : TI := ⟨1, 4, .int .i32 0, .lit (.int .i32 0), .lit (.int .i32 0), .int .i32, false⟩
@[simp] theorem t21_size : t21.size = 1 := rfl
@[simp] theorem t21_bytes : t21.bytes = 4 := rfl
@[simp] theorem t21_z : t21.z = .lit (.int .i32 0) := rfl
@[simp] theorem t21_y : t21.y = .lit (.int .i32 0) := rfl
@[simp] theorem t21_kind : t21.kind = .int .i32 := rfl
@[simp] theorem t21_cmp : t21.cmp = false := rfl
/-- []laws.Find -/
def t22 : TI := ⟨1, 24, .slice none 0 0, .sl true 0 .any [], yLTFind, .slice 84, false⟩
@[simp] theorem t22_size : t22.size = 1 := rfl
@[simp] theorem t22_bytes : t22.bytes = 24 := rfl
@[simp] theorem t22_z : t22.z = .sl true 0 .any [] := rfl
@[simp] theorem t22_y : t22.y = yLTFind := rfl
@[simp] theorem t22_kind : t22.kind = .slice 84 := rfl
@[simp] theorem t22_cmp : t22.cmp = false := rfl
/-- []laws.Secret -/
def t23 : TI := ⟨1, 24, .slice none 0 0, .sl true 0 .any [], yLTSecret, .slice 72, false⟩
@[simp] theorem t23_size : t23.size = 1 := rfl
@[simp] theorem t23_bytes : t23.bytes = 24 := rfl
@[simp] theorem t23_z : t23.z = .sl true 0 .any [] := rfl
@[simp] theorem t23_y : t23.y = yLTSecret := rfl
@[simp] theorem t23_kind : t23.kind = .slice 72 := rfl
@[simp] theorem t23_cmp : t23.cmp = false := rfl
/-- []laws.Slot -/
def t24 : TI := ⟨1, 24, .slice none 0 0, .sl true 0 .any [], yLTSlot, .slice 92, false⟩
@[simp] theorem t24_size : t24.size = 1 := rfl
@[simp] theorem t24_bytes : t24.bytes = 24 := rfl
@[simp] theorem t24_z : t24.z = .sl true 0 .any [] := rfl
@[simp] theorem t24_y : t24.y = yLTSlot := rfl
@[simp] theorem t24_kind : t24.kind = .slice 92 := rfl
@[simp] theorem t24_cmp : t24.cmp = false := rfl
/-- []laws.Claim -/
def t25 : TI := ⟨1, 24, .slice none 0 0, .sl true 0 .any [], yLTClaim, .slice 96, false⟩
@[simp] theorem t25_size : t25.size = 1 := rfl
@[simp] theorem t25_bytes : t25.bytes = 24 := rfl
@[simp] theorem t25_z : t25.z = .sl true 0 .any [] := rfl
@[simp] theorem t25_y : t25.y = yLTClaim := rfl
@[simp] theorem t25_kind : t25.kind = .slice 96 := rfl
@[simp] theorem t25_cmp : t25.cmp = false := rfl
/-- []laws.Trial -/
def t26 : TI := ⟨1, 24, .slice none 0 0, .sl true 0 .any [], yLTTrial, .slice 100, false⟩
@[simp] theorem t26_size : t26.size = 1 := rfl
@[simp] theorem t26_bytes : t26.bytes = 24 := rfl
@[simp] theorem t26_z : t26.z = .sl true 0 .any [] := rfl
@[simp] theorem t26_y : t26.y = yLTTrial := rfl
@[simp] theorem t26_kind : t26.kind = .slice 100 := rfl
@[simp] theorem t26_cmp : t26.cmp = false := rfl
/-- []laws.Hand -/
def t27 : TI := ⟨1, 24, .slice none 0 0, .sl true 0 .any [], yLTHand, .slice 104, false⟩
@[simp] theorem t27_size : t27.size = 1 := rfl
@[simp] theorem t27_bytes : t27.bytes = 24 := rfl
@[simp] theorem t27_z : t27.z = .sl true 0 .any [] := rfl
@[simp] theorem t27_y : t27.y = yLTHand := rfl
@[simp] theorem t27_kind : t27.kind = .slice 104 := rfl
@[simp] theorem t27_cmp : t27.cmp = false := rfl
/-- []laws.Entry -/
def t28 : TI := ⟨1, 24, .slice none 0 0, .sl true 0 .any [], yLTEntry, .slice 106, false⟩
@[simp] theorem t28_size : t28.size = 1 := rfl
@[simp] theorem t28_bytes : t28.bytes = 24 := rfl
@[simp] theorem t28_z : t28.z = .sl true 0 .any [] := rfl
@[simp] theorem t28_y : t28.y = yLTEntry := rfl
@[simp] theorem t28_kind : t28.kind = .slice 106 := rfl
@[simp] theorem t28_cmp : t28.cmp = false := rfl
/-- struct { No int; Finds []laws.Find; Secrets []laws.Secret; Slots []laws.Slot; Claims []laws.Claim; Trials []laws.Trial; Chain []laws.Hand; Book []laws.Entry; Now int } -/
def t29 : TI := ⟨9, 184, .agg #[.int .i64 0, .slice none 0 0, .slice none 0 0, .slice none 0 0, .slice none 0 0, .slice none 0 0, .slice none 0 0, .slice none 0 0, .int .i64 0], .agg [.lit (.int .i64 0), .sl true 0 .any [], .sl true 0 .any [], .sl true 0 .any [], .sl true 0 .any [], .sl true 0 .any [], .sl true 0 .any [], .sl true 0 .any [], .lit (.int .i64 0)], yTHouse, .st [(0, 3), (1, 22), (2, 23), (3, 24), (4, 25), (5, 26), (6, 27), (7, 28), (8, 3)], false⟩
@[simp] theorem t29_size : t29.size = 9 := rfl
@[simp] theorem t29_bytes : t29.bytes = 184 := rfl
@[simp] theorem t29_z : t29.z = .agg [.lit (.int .i64 0), .sl true 0 .any [], .sl true 0 .any [], .sl true 0 .any [], .sl true 0 .any [], .sl true 0 .any [], .sl true 0 .any [], .sl true 0 .any [], .lit (.int .i64 0)] := rfl
@[simp] theorem t29_y : t29.y = yTHouse := rfl
@[simp] theorem t29_kind : t29.kind = .st [(0, 3), (1, 22), (2, 23), (3, 24), (4, 25), (5, 26), (6, 27), (7, 28), (8, 3)] := rfl
@[simp] theorem t29_cmp : t29.cmp = false := rfl
/-- laws.House = loop.example/g03007/laws.House -/
def t30 : TI := ⟨9, 184, .agg #[.int .i64 0, .slice none 0 0, .slice none 0 0, .slice none 0 0, .slice none 0 0, .slice none 0 0, .slice none 0 0, .slice none 0 0, .int .i64 0], .agg [.lit (.int .i64 0), .sl true 0 .any [], .sl true 0 .any [], .sl true 0 .any [], .sl true 0 .any [], .sl true 0 .any [], .sl true 0 .any [], .sl true 0 .any [], .lit (.int .i64 0)], yTHouse, .st [(0, 3), (1, 22), (2, 23), (3, 24), (4, 25), (5, 26), (6, 27), (7, 28), (8, 3)], false⟩
@[simp] theorem t30_size : t30.size = 9 := rfl
@[simp] theorem t30_bytes : t30.bytes = 184 := rfl
@[simp] theorem t30_z : t30.z = .agg [.lit (.int .i64 0), .sl true 0 .any [], .sl true 0 .any [], .sl true 0 .any [], .sl true 0 .any [], .sl true 0 .any [], .sl true 0 .any [], .sl true 0 .any [], .lit (.int .i64 0)] := rfl
@[simp] theorem t30_y : t30.y = yTHouse := rfl
@[simp] theorem t30_kind : t30.kind = .st [(0, 3), (1, 22), (2, 23), (3, 24), (4, 25), (5, 26), (6, 27), (7, 28), (8, 3)] := rfl
@[simp] theorem t30_cmp : t30.cmp = false := rfl
/-- []impl.Find -/
def t33 : TI := ⟨1, 24, .slice none 0 0, .sl true 0 .any [], yLTFind, .slice 80, false⟩
@[simp] theorem t33_size : t33.size = 1 := rfl
@[simp] theorem t33_bytes : t33.bytes = 24 := rfl
@[simp] theorem t33_z : t33.z = .sl true 0 .any [] := rfl
@[simp] theorem t33_y : t33.y = yLTFind := rfl
@[simp] theorem t33_kind : t33.kind = .slice 80 := rfl
@[simp] theorem t33_cmp : t33.cmp = false := rfl
/-- []impl.Secret -/
def t34 : TI := ⟨1, 24, .slice none 0 0, .sl true 0 .any [], yLTSecret, .slice 87, false⟩
@[simp] theorem t34_size : t34.size = 1 := rfl
@[simp] theorem t34_bytes : t34.bytes = 24 := rfl
@[simp] theorem t34_z : t34.z = .sl true 0 .any [] := rfl
@[simp] theorem t34_y : t34.y = yLTSecret := rfl
@[simp] theorem t34_kind : t34.kind = .slice 87 := rfl
@[simp] theorem t34_cmp : t34.cmp = false := rfl
/-- []impl.Slot -/
def t35 : TI := ⟨1, 24, .slice none 0 0, .sl true 0 .any [], yLTSlot, .slice 90, false⟩
@[simp] theorem t35_size : t35.size = 1 := rfl
@[simp] theorem t35_bytes : t35.bytes = 24 := rfl
@[simp] theorem t35_z : t35.z = .sl true 0 .any [] := rfl
@[simp] theorem t35_y : t35.y = yLTSlot := rfl
@[simp] theorem t35_kind : t35.kind = .slice 90 := rfl
@[simp] theorem t35_cmp : t35.cmp = false := rfl
/-- []impl.Claim -/
def t36 : TI := ⟨1, 24, .slice none 0 0, .sl true 0 .any [], yLTClaim, .slice 94, false⟩
@[simp] theorem t36_size : t36.size = 1 := rfl
@[simp] theorem t36_bytes : t36.bytes = 24 := rfl
@[simp] theorem t36_z : t36.z = .sl true 0 .any [] := rfl
@[simp] theorem t36_y : t36.y = yLTClaim := rfl
@[simp] theorem t36_kind : t36.kind = .slice 94 := rfl
@[simp] theorem t36_cmp : t36.cmp = false := rfl
/-- []impl.Trial -/
def t37 : TI := ⟨1, 24, .slice none 0 0, .sl true 0 .any [], yLTTrial, .slice 98, false⟩
@[simp] theorem t37_size : t37.size = 1 := rfl
@[simp] theorem t37_bytes : t37.bytes = 24 := rfl
@[simp] theorem t37_z : t37.z = .sl true 0 .any [] := rfl
@[simp] theorem t37_y : t37.y = yLTTrial := rfl
@[simp] theorem t37_kind : t37.kind = .slice 98 := rfl
@[simp] theorem t37_cmp : t37.cmp = false := rfl
/-- []impl.Hand -/
def t38 : TI := ⟨1, 24, .slice none 0 0, .sl true 0 .any [], yLTHand, .slice 102, false⟩
@[simp] theorem t38_size : t38.size = 1 := rfl
@[simp] theorem t38_bytes : t38.bytes = 24 := rfl
@[simp] theorem t38_z : t38.z = .sl true 0 .any [] := rfl
@[simp] theorem t38_y : t38.y = yLTHand := rfl
@[simp] theorem t38_kind : t38.kind = .slice 102 := rfl
@[simp] theorem t38_cmp : t38.cmp = false := rfl
/-- []impl.Entry -/
def t39 : TI := ⟨1, 24, .slice none 0 0, .sl true 0 .any [], yLTEntry, .slice 75, false⟩
@[simp] theorem t39_size : t39.size = 1 := rfl
@[simp] theorem t39_bytes : t39.bytes = 24 := rfl
@[simp] theorem t39_z : t39.z = .sl true 0 .any [] := rfl
@[simp] theorem t39_y : t39.y = yLTEntry := rfl
@[simp] theorem t39_kind : t39.kind = .slice 75 := rfl
@[simp] theorem t39_cmp : t39.cmp = false := rfl
/-- struct { No int; Finds []impl.Find; Secrets []impl.Secret; Slots []impl.Slot; Claims []impl.Claim; Trials []impl.Trial; Chain []impl.Hand; Book []impl.Entry; Now int } -/
def t40 : TI := ⟨9, 184, .agg #[.int .i64 0, .slice none 0 0, .slice none 0 0, .slice none 0 0, .slice none 0 0, .slice none 0 0, .slice none 0 0, .slice none 0 0, .int .i64 0], .agg [.lit (.int .i64 0), .sl true 0 .any [], .sl true 0 .any [], .sl true 0 .any [], .sl true 0 .any [], .sl true 0 .any [], .sl true 0 .any [], .sl true 0 .any [], .lit (.int .i64 0)], yTHouse, .st [(0, 3), (1, 33), (2, 34), (3, 35), (4, 36), (5, 37), (6, 38), (7, 39), (8, 3)], false⟩
@[simp] theorem t40_size : t40.size = 9 := rfl
@[simp] theorem t40_bytes : t40.bytes = 184 := rfl
@[simp] theorem t40_z : t40.z = .agg [.lit (.int .i64 0), .sl true 0 .any [], .sl true 0 .any [], .sl true 0 .any [], .sl true 0 .any [], .sl true 0 .any [], .sl true 0 .any [], .sl true 0 .any [], .lit (.int .i64 0)] := rfl
@[simp] theorem t40_y : t40.y = yTHouse := rfl
@[simp] theorem t40_kind : t40.kind = .st [(0, 3), (1, 33), (2, 34), (3, 35), (4, 36), (5, 37), (6, 38), (7, 39), (8, 3)] := rfl
@[simp] theorem t40_cmp : t40.cmp = false := rfl
/-- impl.House = loop.example/g03007/impl.House -/
def t41 : TI := ⟨9, 184, .agg #[.int .i64 0, .slice none 0 0, .slice none 0 0, .slice none 0 0, .slice none 0 0, .slice none 0 0, .slice none 0 0, .slice none 0 0, .int .i64 0], .agg [.lit (.int .i64 0), .sl true 0 .any [], .sl true 0 .any [], .sl true 0 .any [], .sl true 0 .any [], .sl true 0 .any [], .sl true 0 .any [], .sl true 0 .any [], .lit (.int .i64 0)], yTHouse, .st [(0, 3), (1, 33), (2, 34), (3, 35), (4, 36), (5, 37), (6, 38), (7, 39), (8, 3)], false⟩
@[simp] theorem t41_size : t41.size = 9 := rfl
@[simp] theorem t41_bytes : t41.bytes = 184 := rfl
@[simp] theorem t41_z : t41.z = .agg [.lit (.int .i64 0), .sl true 0 .any [], .sl true 0 .any [], .sl true 0 .any [], .sl true 0 .any [], .sl true 0 .any [], .sl true 0 .any [], .sl true 0 .any [], .lit (.int .i64 0)] := rfl
@[simp] theorem t41_y : t41.y = yTHouse := rfl
@[simp] theorem t41_kind : t41.kind = .st [(0, 3), (1, 33), (2, 34), (3, 35), (4, 36), (5, 37), (6, 38), (7, 39), (8, 3)] := rfl
@[simp] theorem t41_cmp : t41.cmp = false := rfl
/-- []int -/
def t52 : TI := ⟨1, 24, .slice none 0 0, .sl true 0 .any [], yLI, .slice 3, false⟩
@[simp] theorem t52_size : t52.size = 1 := rfl
@[simp] theorem t52_bytes : t52.bytes = 24 := rfl
@[simp] theorem t52_z : t52.z = .sl true 0 .any [] := rfl
@[simp] theorem t52_y : t52.y = yLI := rfl
@[simp] theorem t52_kind : t52.kind = .slice 3 := rfl
@[simp] theorem t52_cmp : t52.cmp = false := rfl
/-- []laws.Mark -/
def t70 : TI := ⟨1, 24, .slice none 0 0, .sl true 0 .any [], yLTMark, .slice 131, false⟩
@[simp] theorem t70_size : t70.size = 1 := rfl
@[simp] theorem t70_bytes : t70.bytes = 24 := rfl
@[simp] theorem t70_z : t70.z = .sl true 0 .any [] := rfl
@[simp] theorem t70_y : t70.y = yLTMark := rfl
@[simp] theorem t70_kind : t70.kind = .slice 131 := rfl
@[simp] theorem t70_cmp : t70.cmp = false := rfl
/-- struct { Thing int; Marks []laws.Mark; Salt int } -/
def t71 : TI := ⟨3, 40, .agg #[.int .i64 0, .slice none 0 0, .int .i64 0], .agg [.lit (.int .i64 0), .sl true 0 .any [], .lit (.int .i64 0)], yTSecret, .st [(0, 3), (1, 70), (2, 3)], false⟩
@[simp] theorem t71_size : t71.size = 3 := rfl
@[simp] theorem t71_bytes : t71.bytes = 40 := rfl
@[simp] theorem t71_z : t71.z = .agg [.lit (.int .i64 0), .sl true 0 .any [], .lit (.int .i64 0)] := rfl
@[simp] theorem t71_y : t71.y = yTSecret := rfl
@[simp] theorem t71_kind : t71.kind = .st [(0, 3), (1, 70), (2, 3)] := rfl
@[simp] theorem t71_cmp : t71.cmp = false := rfl
/-- laws.Secret = loop.example/g03007/laws.Secret -/
def t72 : TI := ⟨3, 40, .agg #[.int .i64 0, .slice none 0 0, .int .i64 0], .agg [.lit (.int .i64 0), .sl true 0 .any [], .lit (.int .i64 0)], yTSecret, .st [(0, 3), (1, 70), (2, 3)], false⟩
@[simp] theorem t72_size : t72.size = 3 := rfl
@[simp] theorem t72_bytes : t72.bytes = 40 := rfl
@[simp] theorem t72_z : t72.z = .agg [.lit (.int .i64 0), .sl true 0 .any [], .lit (.int .i64 0)] := rfl
@[simp] theorem t72_y : t72.y = yTSecret := rfl
@[simp] theorem t72_kind : t72.kind = .st [(0, 3), (1, 70), (2, 3)] := rfl
@[simp] theorem t72_cmp : t72.cmp = false := rfl
/-- struct { From int; To int; Cents int; At int } -/
def t74 : TI := ⟨4, 32, .agg #[.int .i64 0, .int .i64 0, .int .i64 0, .int .i64 0], .agg [.lit (.int .i64 0), .lit (.int .i64 0), .lit (.int .i64 0), .lit (.int .i64 0)], yTEntry, .st [(0, 3), (1, 3), (2, 3), (3, 3)], true⟩
@[simp] theorem t74_size : t74.size = 4 := rfl
@[simp] theorem t74_bytes : t74.bytes = 32 := rfl
@[simp] theorem t74_z : t74.z = .agg [.lit (.int .i64 0), .lit (.int .i64 0), .lit (.int .i64 0), .lit (.int .i64 0)] := rfl
@[simp] theorem t74_y : t74.y = yTEntry := rfl
@[simp] theorem t74_kind : t74.kind = .st [(0, 3), (1, 3), (2, 3), (3, 3)] := rfl
@[simp] theorem t74_cmp : t74.cmp = true := rfl
/-- impl.Entry = loop.example/g03007/impl.Entry -/
def t75 : TI := ⟨4, 32, .agg #[.int .i64 0, .int .i64 0, .int .i64 0, .int .i64 0], .agg [.lit (.int .i64 0), .lit (.int .i64 0), .lit (.int .i64 0), .lit (.int .i64 0)], yTEntry, .st [(0, 3), (1, 3), (2, 3), (3, 3)], true⟩
@[simp] theorem t75_size : t75.size = 4 := rfl
@[simp] theorem t75_bytes : t75.bytes = 32 := rfl
@[simp] theorem t75_z : t75.z = .agg [.lit (.int .i64 0), .lit (.int .i64 0), .lit (.int .i64 0), .lit (.int .i64 0)] := rfl
@[simp] theorem t75_y : t75.y = yTEntry := rfl
@[simp] theorem t75_kind : t75.kind = .st [(0, 3), (1, 3), (2, 3), (3, 3)] := rfl
@[simp] theorem t75_cmp : t75.cmp = true := rfl
/-- struct { Id int; Kind int; Colour int; Size int; Worth int } -/
def t77 : TI := ⟨5, 40, .agg #[.int .i64 0, .int .i64 0, .int .i64 0, .int .i64 0, .int .i64 0], .agg [.lit (.int .i64 0), .lit (.int .i64 0), .lit (.int .i64 0), .lit (.int .i64 0), .lit (.int .i64 0)], yTThing, .st [(0, 3), (1, 3), (2, 3), (3, 3), (4, 3)], true⟩
@[simp] theorem t77_size : t77.size = 5 := rfl
@[simp] theorem t77_bytes : t77.bytes = 40 := rfl
@[simp] theorem t77_z : t77.z = .agg [.lit (.int .i64 0), .lit (.int .i64 0), .lit (.int .i64 0), .lit (.int .i64 0), .lit (.int .i64 0)] := rfl
@[simp] theorem t77_y : t77.y = yTThing := rfl
@[simp] theorem t77_kind : t77.kind = .st [(0, 3), (1, 3), (2, 3), (3, 3), (4, 3)] := rfl
@[simp] theorem t77_cmp : t77.cmp = true := rfl
/-- impl.Thing = loop.example/g03007/impl.Thing -/
def t78 : TI := ⟨5, 40, .agg #[.int .i64 0, .int .i64 0, .int .i64 0, .int .i64 0, .int .i64 0], .agg [.lit (.int .i64 0), .lit (.int .i64 0), .lit (.int .i64 0), .lit (.int .i64 0), .lit (.int .i64 0)], yTThing, .st [(0, 3), (1, 3), (2, 3), (3, 3), (4, 3)], true⟩
@[simp] theorem t78_size : t78.size = 5 := rfl
@[simp] theorem t78_bytes : t78.bytes = 40 := rfl
@[simp] theorem t78_z : t78.z = .agg [.lit (.int .i64 0), .lit (.int .i64 0), .lit (.int .i64 0), .lit (.int .i64 0), .lit (.int .i64 0)] := rfl
@[simp] theorem t78_y : t78.y = yTThing := rfl
@[simp] theorem t78_kind : t78.kind = .st [(0, 3), (1, 3), (2, 3), (3, 3), (4, 3)] := rfl
@[simp] theorem t78_cmp : t78.cmp = true := rfl
/-- struct { Thing impl.Thing; Place int; At int; Finder int } -/
def t79 : TI := ⟨8, 64, .agg #[.int .i64 0, .int .i64 0, .int .i64 0, .int .i64 0, .int .i64 0, .int .i64 0, .int .i64 0, .int .i64 0], .agg [.lit (.int .i64 0), .lit (.int .i64 0), .lit (.int .i64 0), .lit (.int .i64 0), .lit (.int .i64 0), .lit (.int .i64 0), .lit (.int .i64 0), .lit (.int .i64 0)], yTFind, .st [(0, 78), (5, 3), (6, 3), (7, 3)], true⟩
@[simp] theorem t79_size : t79.size = 8 := rfl
@[simp] theorem t79_bytes : t79.bytes = 64 := rfl
@[simp] theorem t79_z : t79.z = .agg [.lit (.int .i64 0), .lit (.int .i64 0), .lit (.int .i64 0), .lit (.int .i64 0), .lit (.int .i64 0), .lit (.int .i64 0), .lit (.int .i64 0), .lit (.int .i64 0)] := rfl
@[simp] theorem t79_y : t79.y = yTFind := rfl
@[simp] theorem t79_kind : t79.kind = .st [(0, 78), (5, 3), (6, 3), (7, 3)] := rfl
@[simp] theorem t79_cmp : t79.cmp = true := rfl
/-- impl.Find = loop.example/g03007/impl.Find -/
def t80 : TI := ⟨8, 64, .agg #[.int .i64 0, .int .i64 0, .int .i64 0, .int .i64 0, .int .i64 0, .int .i64 0, .int .i64 0, .int .i64 0], .agg [.lit (.int .i64 0), .lit (.int .i64 0), .lit (.int .i64 0), .lit (.int .i64 0), .lit (.int .i64 0), .lit (.int .i64 0), .lit (.int .i64 0), .lit (.int .i64 0)], yTFind, .st [(0, 78), (5, 3), (6, 3), (7, 3)], true⟩
@[simp] theorem t80_size : t80.size = 8 := rfl
@[simp] theorem t80_bytes : t80.bytes = 64 := rfl
@[simp] theorem t80_z : t80.z = .agg [.lit (.int .i64 0), .lit (.int .i64 0), .lit (.int .i64 0), .lit (.int .i64 0), .lit (.int .i64 0), .lit (.int .i64 0), .lit (.int .i64 0), .lit (.int .i64 0)] := rfl
@[simp] theorem t80_y : t80.y = yTFind := rfl
@[simp] theorem t80_kind : t80.kind = .st [(0, 78), (5, 3), (6, 3), (7, 3)] := rfl
@[simp] theorem t80_cmp : t80.cmp = true := rfl
/-- laws.Thing = loop.example/g03007/laws.Thing -/
def t82 : TI := ⟨5, 40, .agg #[.int .i64 0, .int .i64 0, .int .i64 0, .int .i64 0, .int .i64 0], .agg [.lit (.int .i64 0), .lit (.int .i64 0), .lit (.int .i64 0), .lit (.int .i64 0), .lit (.int .i64 0)], yTThing, .st [(0, 3), (1, 3), (2, 3), (3, 3), (4, 3)], true⟩
@[simp] theorem t82_size : t82.size = 5 := rfl
@[simp] theorem t82_bytes : t82.bytes = 40 := rfl
@[simp] theorem t82_z : t82.z = .agg [.lit (.int .i64 0), .lit (.int .i64 0), .lit (.int .i64 0), .lit (.int .i64 0), .lit (.int .i64 0)] := rfl
@[simp] theorem t82_y : t82.y = yTThing := rfl
@[simp] theorem t82_kind : t82.kind = .st [(0, 3), (1, 3), (2, 3), (3, 3), (4, 3)] := rfl
@[simp] theorem t82_cmp : t82.cmp = true := rfl
/-- struct { Thing laws.Thing; Place int; At int; Finder int } -/
def t83 : TI := ⟨8, 64, .agg #[.int .i64 0, .int .i64 0, .int .i64 0, .int .i64 0, .int .i64 0, .int .i64 0, .int .i64 0, .int .i64 0], .agg [.lit (.int .i64 0), .lit (.int .i64 0), .lit (.int .i64 0), .lit (.int .i64 0), .lit (.int .i64 0), .lit (.int .i64 0), .lit (.int .i64 0), .lit (.int .i64 0)], yTFind, .st [(0, 82), (5, 3), (6, 3), (7, 3)], true⟩
@[simp] theorem t83_size : t83.size = 8 := rfl
@[simp] theorem t83_bytes : t83.bytes = 64 := rfl
@[simp] theorem t83_z : t83.z = .agg [.lit (.int .i64 0), .lit (.int .i64 0), .lit (.int .i64 0), .lit (.int .i64 0), .lit (.int .i64 0), .lit (.int .i64 0), .lit (.int .i64 0), .lit (.int .i64 0)] := rfl
@[simp] theorem t83_y : t83.y = yTFind := rfl
@[simp] theorem t83_kind : t83.kind = .st [(0, 82), (5, 3), (6, 3), (7, 3)] := rfl
@[simp] theorem t83_cmp : t83.cmp = true := rfl
/-- laws.Find = loop.example/g03007/laws.Find -/
def t84 : TI := ⟨8, 64, .agg #[.int .i64 0, .int .i64 0, .int .i64 0, .int .i64 0, .int .i64 0, .int .i64 0, .int .i64 0, .int .i64 0], .agg [.lit (.int .i64 0), .lit (.int .i64 0), .lit (.int .i64 0), .lit (.int .i64 0), .lit (.int .i64 0), .lit (.int .i64 0), .lit (.int .i64 0), .lit (.int .i64 0)], yTFind, .st [(0, 82), (5, 3), (6, 3), (7, 3)], true⟩
@[simp] theorem t84_size : t84.size = 8 := rfl
@[simp] theorem t84_bytes : t84.bytes = 64 := rfl
@[simp] theorem t84_z : t84.z = .agg [.lit (.int .i64 0), .lit (.int .i64 0), .lit (.int .i64 0), .lit (.int .i64 0), .lit (.int .i64 0), .lit (.int .i64 0), .lit (.int .i64 0), .lit (.int .i64 0)] := rfl
@[simp] theorem t84_y : t84.y = yTFind := rfl
@[simp] theorem t84_kind : t84.kind = .st [(0, 82), (5, 3), (6, 3), (7, 3)] := rfl
@[simp] theorem t84_cmp : t84.cmp = true := rfl
/-- []impl.Mark -/
def t85 : TI := ⟨1, 24, .slice none 0 0, .sl true 0 .any [], yLTMark, .slice 129, false⟩
@[simp] theorem t85_size : t85.size = 1 := rfl
@[simp] theorem t85_bytes : t85.bytes = 24 := rfl
@[simp] theorem t85_z : t85.z = .sl true 0 .any [] := rfl
@[simp] theorem t85_y : t85.y = yLTMark := rfl
@[simp] theorem t85_kind : t85.kind = .slice 129 := rfl
@[simp] theorem t85_cmp : t85.cmp = false := rfl
/-- struct { Thing int; Marks []impl.Mark; Salt int } -/
def t86 : TI := ⟨3, 40, .agg #[.int .i64 0, .slice none 0 0, .int .i64 0], .agg [.lit (.int .i64 0), .sl true 0 .any [], .lit (.int .i64 0)], yTSecret, .st [(0, 3), (1, 85), (2, 3)], false⟩
@[simp] theorem t86_size : t86.size = 3 := rfl
@[simp] theorem t86_bytes : t86.bytes = 40 := rfl
@[simp] theorem t86_z : t86.z = .agg [.lit (.int .i64 0), .sl true 0 .any [], .lit (.int .i64 0)] := rfl
@[simp] theorem t86_y : t86.y = yTSecret := rfl
@[simp] theorem t86_kind : t86.kind = .st [(0, 3), (1, 85), (2, 3)] := rfl
@[simp] theorem t86_cmp : t86.cmp = false := rfl
/-- impl.Secret = loop.example/g03007/impl.Secret -/
def t87 : TI := ⟨3, 40, .agg #[.int .i64 0, .slice none 0 0, .int .i64 0], .agg [.lit (.int .i64 0), .sl true 0 .any [], .lit (.int .i64 0)], yTSecret, .st [(0, 3), (1, 85), (2, 3)], false⟩
@[simp] theorem t87_size : t87.size = 3 := rfl
@[simp] theorem t87_bytes : t87.bytes = 40 := rfl
@[simp] theorem t87_z : t87.z = .agg [.lit (.int .i64 0), .sl true 0 .any [], .lit (.int .i64 0)] := rfl
@[simp] theorem t87_y : t87.y = yTSecret := rfl
@[simp] theorem t87_kind : t87.kind = .st [(0, 3), (1, 85), (2, 3)] := rfl
@[simp] theorem t87_cmp : t87.cmp = false := rfl
/-- struct { Id int; Size int; Thing int } -/
def t89 : TI := ⟨3, 24, .agg #[.int .i64 0, .int .i64 0, .int .i64 0], .agg [.lit (.int .i64 0), .lit (.int .i64 0), .lit (.int .i64 0)], yTSlot, .st [(0, 3), (1, 3), (2, 3)], true⟩
@[simp] theorem t89_size : t89.size = 3 := rfl
@[simp] theorem t89_bytes : t89.bytes = 24 := rfl
@[simp] theorem t89_z : t89.z = .agg [.lit (.int .i64 0), .lit (.int .i64 0), .lit (.int .i64 0)] := rfl
@[simp] theorem t89_y : t89.y = yTSlot := rfl
@[simp] theorem t89_kind : t89.kind = .st [(0, 3), (1, 3), (2, 3)] := rfl
@[simp] theorem t89_cmp : t89.cmp = true := rfl
/-- impl.Slot = loop.example/g03007/impl.Slot -/
def t90 : TI := ⟨3, 24, .agg #[.int .i64 0, .int .i64 0, .int .i64 0], .agg [.lit (.int .i64 0), .lit (.int .i64 0), .lit (.int .i64 0)], yTSlot, .st [(0, 3), (1, 3), (2, 3)], true⟩
@[simp] theorem t90_size : t90.size = 3 := rfl
@[simp] theorem t90_bytes : t90.bytes = 24 := rfl
@[simp] theorem t90_z : t90.z = .agg [.lit (.int .i64 0), .lit (.int .i64 0), .lit (.int .i64 0)] := rfl
@[simp] theorem t90_y : t90.y = yTSlot := rfl
@[simp] theorem t90_kind : t90.kind = .st [(0, 3), (1, 3), (2, 3)] := rfl
@[simp] theorem t90_cmp : t90.cmp = true := rfl
/-- laws.Slot = loop.example/g03007/laws.Slot -/
def t92 : TI := ⟨3, 24, .agg #[.int .i64 0, .int .i64 0, .int .i64 0], .agg [.lit (.int .i64 0), .lit (.int .i64 0), .lit (.int .i64 0)], yTSlot, .st [(0, 3), (1, 3), (2, 3)], true⟩
@[simp] theorem t92_size : t92.size = 3 := rfl
@[simp] theorem t92_bytes : t92.bytes = 24 := rfl
@[simp] theorem t92_z : t92.z = .agg [.lit (.int .i64 0), .lit (.int .i64 0), .lit (.int .i64 0)] := rfl
@[simp] theorem t92_y : t92.y = yTSlot := rfl
@[simp] theorem t92_kind : t92.kind = .st [(0, 3), (1, 3), (2, 3)] := rfl
@[simp] theorem t92_cmp : t92.cmp = true := rfl
/-- struct { Id int; Who int; Thing int; At int; State int } -/
def t93 : TI := ⟨5, 40, .agg #[.int .i64 0, .int .i64 0, .int .i64 0, .int .i64 0, .int .i64 0], .agg [.lit (.int .i64 0), .lit (.int .i64 0), .lit (.int .i64 0), .lit (.int .i64 0), .lit (.int .i64 0)], yTClaim, .st [(0, 3), (1, 3), (2, 3), (3, 3), (4, 3)], true⟩
@[simp] theorem t93_size : t93.size = 5 := rfl
@[simp] theorem t93_bytes : t93.bytes = 40 := rfl
@[simp] theorem t93_z : t93.z = .agg [.lit (.int .i64 0), .lit (.int .i64 0), .lit (.int .i64 0), .lit (.int .i64 0), .lit (.int .i64 0)] := rfl
@[simp] theorem t93_y : t93.y = yTClaim := rfl
@[simp] theorem t93_kind : t93.kind = .st [(0, 3), (1, 3), (2, 3), (3, 3), (4, 3)] := rfl
@[simp] theorem t93_cmp : t93.cmp = true := rfl
/-- impl.Claim = loop.example/g03007/impl.Claim -/
def t94 : TI := ⟨5, 40, .agg #[.int .i64 0, .int .i64 0, .int .i64 0, .int .i64 0, .int .i64 0], .agg [.lit (.int .i64 0), .lit (.int .i64 0), .lit (.int .i64 0), .lit (.int .i64 0), .lit (.int .i64 0)], yTClaim, .st [(0, 3), (1, 3), (2, 3), (3, 3), (4, 3)], true⟩
@[simp] theorem t94_size : t94.size = 5 := rfl
@[simp] theorem t94_bytes : t94.bytes = 40 := rfl
@[simp] theorem t94_z : t94.z = .agg [.lit (.int .i64 0), .lit (.int .i64 0), .lit (.int .i64 0), .lit (.int .i64 0), .lit (.int .i64 0)] := rfl
@[simp] theorem t94_y : t94.y = yTClaim := rfl
@[simp] theorem t94_kind : t94.kind = .st [(0, 3), (1, 3), (2, 3), (3, 3), (4, 3)] := rfl
@[simp] theorem t94_cmp : t94.cmp = true := rfl
/-- laws.Claim = loop.example/g03007/laws.Claim -/
def t96 : TI := ⟨5, 40, .agg #[.int .i64 0, .int .i64 0, .int .i64 0, .int .i64 0, .int .i64 0], .agg [.lit (.int .i64 0), .lit (.int .i64 0), .lit (.int .i64 0), .lit (.int .i64 0), .lit (.int .i64 0)], yTClaim, .st [(0, 3), (1, 3), (2, 3), (3, 3), (4, 3)], true⟩
@[simp] theorem t96_size : t96.size = 5 := rfl
@[simp] theorem t96_bytes : t96.bytes = 40 := rfl
@[simp] theorem t96_z : t96.z = .agg [.lit (.int .i64 0), .lit (.int .i64 0), .lit (.int .i64 0), .lit (.int .i64 0), .lit (.int .i64 0)] := rfl
@[simp] theorem t96_y : t96.y = yTClaim := rfl
@[simp] theorem t96_kind : t96.kind = .st [(0, 3), (1, 3), (2, 3), (3, 3), (4, 3)] := rfl
@[simp] theorem t96_cmp : t96.cmp = true := rfl
/-- struct { Claim int; Asked int; Right int; Wrong int } -/
def t97 : TI := ⟨4, 32, .agg #[.int .i64 0, .int .i64 0, .int .i64 0, .int .i64 0], .agg [.lit (.int .i64 0), .lit (.int .i64 0), .lit (.int .i64 0), .lit (.int .i64 0)], yTTrial, .st [(0, 3), (1, 3), (2, 3), (3, 3)], true⟩
@[simp] theorem t97_size : t97.size = 4 := rfl
@[simp] theorem t97_bytes : t97.bytes = 32 := rfl
@[simp] theorem t97_z : t97.z = .agg [.lit (.int .i64 0), .lit (.int .i64 0), .lit (.int .i64 0), .lit (.int .i64 0)] := rfl
@[simp] theorem t97_y : t97.y = yTTrial := rfl
@[simp] theorem t97_kind : t97.kind = .st [(0, 3), (1, 3), (2, 3), (3, 3)] := rfl
@[simp] theorem t97_cmp : t97.cmp = true := rfl
/-- impl.Trial = loop.example/g03007/impl.Trial -/
def t98 : TI := ⟨4, 32, .agg #[.int .i64 0, .int .i64 0, .int .i64 0, .int .i64 0], .agg [.lit (.int .i64 0), .lit (.int .i64 0), .lit (.int .i64 0), .lit (.int .i64 0)], yTTrial, .st [(0, 3), (1, 3), (2, 3), (3, 3)], true⟩
@[simp] theorem t98_size : t98.size = 4 := rfl
@[simp] theorem t98_bytes : t98.bytes = 32 := rfl
@[simp] theorem t98_z : t98.z = .agg [.lit (.int .i64 0), .lit (.int .i64 0), .lit (.int .i64 0), .lit (.int .i64 0)] := rfl
@[simp] theorem t98_y : t98.y = yTTrial := rfl
@[simp] theorem t98_kind : t98.kind = .st [(0, 3), (1, 3), (2, 3), (3, 3)] := rfl
@[simp] theorem t98_cmp : t98.cmp = true := rfl
/-- laws.Trial = loop.example/g03007/laws.Trial -/
def t100 : TI := ⟨4, 32, .agg #[.int .i64 0, .int .i64 0, .int .i64 0, .int .i64 0], .agg [.lit (.int .i64 0), .lit (.int .i64 0), .lit (.int .i64 0), .lit (.int .i64 0)], yTTrial, .st [(0, 3), (1, 3), (2, 3), (3, 3)], true⟩
@[simp] theorem t100_size : t100.size = 4 := rfl
@[simp] theorem t100_bytes : t100.bytes = 32 := rfl
@[simp] theorem t100_z : t100.z = .agg [.lit (.int .i64 0), .lit (.int .i64 0), .lit (.int .i64 0), .lit (.int .i64 0)] := rfl
@[simp] theorem t100_y : t100.y = yTTrial := rfl
@[simp] theorem t100_kind : t100.kind = .st [(0, 3), (1, 3), (2, 3), (3, 3)] := rfl
@[simp] theorem t100_cmp : t100.cmp = true := rfl
/-- struct { Thing int; Holder int; Who int; At int; Seal int } -/
def t101 : TI := ⟨5, 40, .agg #[.int .i64 0, .int .i64 0, .int .i64 0, .int .i64 0, .int .i64 0], .agg [.lit (.int .i64 0), .lit (.int .i64 0), .lit (.int .i64 0), .lit (.int .i64 0), .lit (.int .i64 0)], yTHand, .st [(0, 3), (1, 3), (2, 3), (3, 3), (4, 3)], true⟩
@[simp] theorem t101_size : t101.size = 5 := rfl
@[simp] theorem t101_bytes : t101.bytes = 40 := rfl
@[simp] theorem t101_z : t101.z = .agg [.lit (.int .i64 0), .lit (.int .i64 0), .lit (.int .i64 0), .lit (.int .i64 0), .lit (.int .i64 0)] := rfl
@[simp] theorem t101_y : t101.y = yTHand := rfl
@[simp] theorem t101_kind : t101.kind = .st [(0, 3), (1, 3), (2, 3), (3, 3), (4, 3)] := rfl
@[simp] theorem t101_cmp : t101.cmp = true := rfl
/-- impl.Hand = loop.example/g03007/impl.Hand -/
def t102 : TI := ⟨5, 40, .agg #[.int .i64 0, .int .i64 0, .int .i64 0, .int .i64 0, .int .i64 0], .agg [.lit (.int .i64 0), .lit (.int .i64 0), .lit (.int .i64 0), .lit (.int .i64 0), .lit (.int .i64 0)], yTHand, .st [(0, 3), (1, 3), (2, 3), (3, 3), (4, 3)], true⟩
@[simp] theorem t102_size : t102.size = 5 := rfl
@[simp] theorem t102_bytes : t102.bytes = 40 := rfl
@[simp] theorem t102_z : t102.z = .agg [.lit (.int .i64 0), .lit (.int .i64 0), .lit (.int .i64 0), .lit (.int .i64 0), .lit (.int .i64 0)] := rfl
@[simp] theorem t102_y : t102.y = yTHand := rfl
@[simp] theorem t102_kind : t102.kind = .st [(0, 3), (1, 3), (2, 3), (3, 3), (4, 3)] := rfl
@[simp] theorem t102_cmp : t102.cmp = true := rfl
/-- laws.Hand = loop.example/g03007/laws.Hand -/
def t104 : TI := ⟨5, 40, .agg #[.int .i64 0, .int .i64 0, .int .i64 0, .int .i64 0, .int .i64 0], .agg [.lit (.int .i64 0), .lit (.int .i64 0), .lit (.int .i64 0), .lit (.int .i64 0), .lit (.int .i64 0)], yTHand, .st [(0, 3), (1, 3), (2, 3), (3, 3), (4, 3)], true⟩
@[simp] theorem t104_size : t104.size = 5 := rfl
@[simp] theorem t104_bytes : t104.bytes = 40 := rfl
@[simp] theorem t104_z : t104.z = .agg [.lit (.int .i64 0), .lit (.int .i64 0), .lit (.int .i64 0), .lit (.int .i64 0), .lit (.int .i64 0)] := rfl
@[simp] theorem t104_y : t104.y = yTHand := rfl
@[simp] theorem t104_kind : t104.kind = .st [(0, 3), (1, 3), (2, 3), (3, 3), (4, 3)] := rfl
@[simp] theorem t104_cmp : t104.cmp = true := rfl
/-- laws.Entry = loop.example/g03007/laws.Entry -/
def t106 : TI := ⟨4, 32, .agg #[.int .i64 0, .int .i64 0, .int .i64 0, .int .i64 0], .agg [.lit (.int .i64 0), .lit (.int .i64 0), .lit (.int .i64 0), .lit (.int .i64 0)], yTEntry, .st [(0, 3), (1, 3), (2, 3), (3, 3)], true⟩
@[simp] theorem t106_size : t106.size = 4 := rfl
@[simp] theorem t106_bytes : t106.bytes = 32 := rfl
@[simp] theorem t106_z : t106.z = .agg [.lit (.int .i64 0), .lit (.int .i64 0), .lit (.int .i64 0), .lit (.int .i64 0)] := rfl
@[simp] theorem t106_y : t106.y = yTEntry := rfl
@[simp] theorem t106_kind : t106.kind = .st [(0, 3), (1, 3), (2, 3), (3, 3)] := rfl
@[simp] theorem t106_cmp : t106.cmp = true := rfl
/-- [2]int -/
def t107 : TI := ⟨2, 16, .agg #[.int .i64 0, .int .i64 0], .agg [.lit (.int .i64 0), .lit (.int .i64 0)], .any, .arr 2 3, false⟩
@[simp] theorem t107_size : t107.size = 2 := rfl
@[simp] theorem t107_bytes : t107.bytes = 16 := rfl
@[simp] theorem t107_z : t107.z = .agg [.lit (.int .i64 0), .lit (.int .i64 0)] := rfl
@[simp] theorem t107_y : t107.y = .any := rfl
@[simp] theorem t107_kind : t107.kind = .arr 2 3 := rfl
@[simp] theorem t107_cmp : t107.cmp = false := rfl
/-- struct { Question int; Answer int } -/
def t128 : TI := ⟨2, 16, .agg #[.int .i64 0, .int .i64 0], .agg [.lit (.int .i64 0), .lit (.int .i64 0)], yTMark, .st [(0, 3), (1, 3)], true⟩
@[simp] theorem t128_size : t128.size = 2 := rfl
@[simp] theorem t128_bytes : t128.bytes = 16 := rfl
@[simp] theorem t128_z : t128.z = .agg [.lit (.int .i64 0), .lit (.int .i64 0)] := rfl
@[simp] theorem t128_y : t128.y = yTMark := rfl
@[simp] theorem t128_kind : t128.kind = .st [(0, 3), (1, 3)] := rfl
@[simp] theorem t128_cmp : t128.cmp = true := rfl
/-- impl.Mark = loop.example/g03007/impl.Mark -/
def t129 : TI := ⟨2, 16, .agg #[.int .i64 0, .int .i64 0], .agg [.lit (.int .i64 0), .lit (.int .i64 0)], yTMark, .st [(0, 3), (1, 3)], true⟩
@[simp] theorem t129_size : t129.size = 2 := rfl
@[simp] theorem t129_bytes : t129.bytes = 16 := rfl
@[simp] theorem t129_z : t129.z = .agg [.lit (.int .i64 0), .lit (.int .i64 0)] := rfl
@[simp] theorem t129_y : t129.y = yTMark := rfl
@[simp] theorem t129_kind : t129.kind = .st [(0, 3), (1, 3)] := rfl
@[simp] theorem t129_cmp : t129.cmp = true := rfl
/-- laws.Mark = loop.example/g03007/laws.Mark -/
def t131 : TI := ⟨2, 16, .agg #[.int .i64 0, .int .i64 0], .agg [.lit (.int .i64 0), .lit (.int .i64 0)], yTMark, .st [(0, 3), (1, 3)], true⟩
@[simp] theorem t131_size : t131.size = 2 := rfl
@[simp] theorem t131_bytes : t131.bytes = 16 := rfl
@[simp] theorem t131_z : t131.z = .agg [.lit (.int .i64 0), .lit (.int .i64 0)] := rfl
@[simp] theorem t131_y : t131.y = yTMark := rfl
@[simp] theorem t131_kind : t131.kind = .st [(0, 3), (1, 3)] := rfl
@[simp] theorem t131_cmp : t131.cmp = true := rfl
/-- [][]int -/
def t132 : TI := ⟨1, 24, .slice none 0 0, .sl true 0 .any [], yLLI, .slice 52, false⟩
@[simp] theorem t132_size : t132.size = 1 := rfl
@[simp] theorem t132_bytes : t132.bytes = 24 := rfl
@[simp] theorem t132_z : t132.z = .sl true 0 .any [] := rfl
@[simp] theorem t132_y : t132.y = yLLI := rfl
@[simp] theorem t132_kind : t132.kind = .slice 52 := rfl
@[simp] theorem t132_cmp : t132.cmp = false := rfl
/-- uint -/
def t135 : TI := ⟨1, 8, .int .u64 0, .lit (.int .u64 0), .lit (.int .u64 0), .int .u64, false⟩
@[simp] theorem t135_size : t135.size = 1 := rfl
@[simp] theorem t135_bytes : t135.bytes = 8 := rfl
@[simp] theorem t135_z : t135.z = .lit (.int .u64 0) := rfl
@[simp] theorem t135_y : t135.y = .lit (.int .u64 0) := rfl
@[simp] theorem t135_kind : t135.kind = .int .u64 := rfl
@[simp] theorem t135_cmp : t135.cmp = false := rfl
/-- slices.sortedHint -/
def t139 : TI := ⟨1, 8, .int .i64 0, .lit (.int .i64 0), .lit (.int .i64 0), .int .i64, false⟩
@[simp] theorem t139_size : t139.size = 1 := rfl
@[simp] theorem t139_bytes : t139.bytes = 8 := rfl
@[simp] theorem t139_z : t139.z = .lit (.int .i64 0) := rfl
@[simp] theorem t139_y : t139.y = .lit (.int .i64 0) := rfl
@[simp] theorem t139_kind : t139.kind = .int .i64 := rfl
@[simp] theorem t139_cmp : t139.cmp = false := rfl
/-- uint32 -/
def t148 : TI := ⟨1, 4, .int .u32 0, .lit (.int .u32 0), .lit (.int .u32 0), .int .u32, false⟩
@[simp] theorem t148_size : t148.size = 1 := rfl
@[simp] theorem t148_bytes : t148.bytes = 4 := rfl
@[simp] theorem t148_z : t148.z = .lit (.int .u32 0) := rfl
@[simp] theorem t148_y : t148.y = .lit (.int .u32 0) := rfl
@[simp] theorem t148_kind : t148.kind = .int .u32 := rfl
@[simp] theorem t148_cmp : t148.cmp = false := rfl
/-- uint64 -/
def t150 : TI := ⟨1, 8, .int .u64 0, .lit (.int .u64 0), .lit (.int .u64 0), .int .u64, false⟩
@[simp] theorem t150_size : t150.size = 1 := rfl
@[simp] theorem t150_bytes : t150.bytes = 8 := rfl
@[simp] theorem t150_z : t150.z = .lit (.int .u64 0) := rfl
@[simp] theorem t150_y : t150.y = .lit (.int .u64 0) := rfl
@[simp] theorem t150_kind : t150.kind = .int .u64 := rfl
@[simp] theorem t150_cmp : t150.cmp = false := rfl
/-- slices.xorshift -/
def t151 : TI := ⟨1, 8, .int .u64 0, .lit (.int .u64 0), .lit (.int .u64 0), .int .u64, false⟩
@[simp] theorem t151_size : t151.size = 1 := rfl
@[simp] theorem t151_bytes : t151.bytes = 8 := rfl
@[simp] theorem t151_z : t151.z = .lit (.int .u64 0) := rfl
@[simp] theorem t151_y : t151.y = .lit (.int .u64 0) := rfl
@[simp] theorem t151_kind : t151.kind = .int .u64 := rfl
@[simp] theorem t151_cmp : t151.cmp = false := rfl
/-- *int -/
def t155 : TI := ⟨1, 8, .pointer none, .lit (.pointer none), .lit (.pointer none), .ptr 3, false⟩
@[simp] theorem t155_size : t155.size = 1 := rfl
@[simp] theorem t155_bytes : t155.bytes = 8 := rfl
@[simp] theorem t155_z : t155.z = .lit (.pointer none) := rfl
@[simp] theorem t155_y : t155.y = .lit (.pointer none) := rfl
@[simp] theorem t155_kind : t155.kind = .ptr 3 := rfl
@[simp] theorem t155_cmp : t155.cmp = false := rfl
/-- *slices.xorshift -/
def t158 : TI := ⟨1, 8, .pointer none, .lit (.pointer none), .lit (.pointer none), .ptr 151, false⟩
@[simp] theorem t158_size : t158.size = 1 := rfl
@[simp] theorem t158_bytes : t158.bytes = 8 := rfl
@[simp] theorem t158_z : t158.z = .lit (.pointer none) := rfl
@[simp] theorem t158_y : t158.y = .lit (.pointer none) := rfl
@[simp] theorem t158_kind : t158.kind = .ptr 151 := rfl
@[simp] theorem t158_cmp : t158.cmp = false := rfl
/-- func(unsafe.Pointer, unsafe.Pointer) bool -/
def t170 : TI := ⟨1, 8, .nilFunc, .lit .nilFunc, .lit .nilFunc, .func, false⟩
@[simp] theorem t170_size : t170.size = 1 := rfl
@[simp] theorem t170_bytes : t170.bytes = 8 := rfl
@[simp] theorem t170_z : t170.z = .lit .nilFunc := rfl
@[simp] theorem t170_y : t170.y = .lit .nilFunc := rfl
@[simp] theorem t170_kind : t170.kind = .func := rfl
@[simp] theorem t170_cmp : t170.cmp = false := rfl
/-- *uint8 -/
def t171 : TI := ⟨1, 8, .pointer none, .lit (.pointer none), .lit (.pointer none), .ptr 5, false⟩
@[simp] theorem t171_size : t171.size = 1 := rfl
@[simp] theorem t171_bytes : t171.bytes = 8 := rfl
@[simp] theorem t171_z : t171.z = .lit (.pointer none) := rfl
@[simp] theorem t171_y : t171.y = .lit (.pointer none) := rfl
@[simp] theorem t171_kind : t171.kind = .ptr 5 := rfl
@[simp] theorem t171_cmp : t171.cmp = false := rfl
/-- struct { Size_ uintptr; PtrBytes uintptr; Hash uint32; TFlag abi.TFlag; Align_ uint8; FieldAlign_ uint8; Kind_ abi.Kind; Equal func(unsafe.Pointer, unsafe.Pointer) bool; GCData *uint8; Str abi.NameOff; PtrToThis abi.TypeOff } -/
def t174 : TI := ⟨11, 48, .agg #[.int .u64 0, .int .u64 0, .int .u32 0, .int .u8 0, .int .u8 0, .int .u8 0, .int .u8 0, .nilFunc, .pointer none, .int .i32 0, .int .i32 0], .agg [.lit (.int .u64 0), .lit (.int .u64 0), .lit (.int .u32 0), .lit (.int .u8 0), .lit (.int .u8 0), .lit (.int .u8 0), .lit (.int .u8 0), .lit .nilFunc, .lit (.pointer none), .lit (.int .i32 0), .lit (.int .i32 0)], .any, .st [(0, 12), (1, 12), (2, 148), (3, 168), (4, 5), (5, 5), (6, 169), (7, 170), (8, 171), (9, 172), (10, 173)], false⟩
@[simp] theorem t174_size : t174.size = 11 := rfl
@[simp] theorem t174_bytes : t174.bytes = 48 := rfl
@[simp] theorem t174_z : t174.z = .agg [.lit (.int .u64 0), .lit (.int .u64 0), .lit (.int .u32 0), .lit (.int .u8 0), .lit (.int .u8 0), .lit (.int .u8 0), .lit (.int .u8 0), .lit .nilFunc, .lit (.pointer none), .lit (.int .i32 0), .lit (.int .i32 0)] := rfl
@[simp] theorem t174_y : t174.y = .any := rfl
@[simp] theorem t174_kind : t174.kind = .st [(0, 12), (1, 12), (2, 148), (3, 168), (4, 5), (5, 5), (6, 169), (7, 170), (8, 171), (9, 172), (10, 173)] := rfl
@[simp] theorem t174_cmp : t174.cmp = false := rfl
/-- struct { kind int; colour int; size int; place int } -/
def t179 : TI := ⟨4, 32, .agg #[.int .i64 0, .int .i64 0, .int .i64 0, .int .i64 0], .agg [.lit (.int .i64 0), .lit (.int .i64 0), .lit (.int .i64 0), .lit (.int .i64 0)], .any, .st [(0, 3), (1, 3), (2, 3), (3, 3)], true⟩
@[simp] theorem t179_size : t179.size = 4 := rfl
@[simp] theorem t179_bytes : t179.bytes = 32 := rfl
@[simp] theorem t179_z : t179.z = .agg [.lit (.int .i64 0), .lit (.int .i64 0), .lit (.int .i64 0), .lit (.int .i64 0)] := rfl
@[simp] theorem t179_y : t179.y = .any := rfl
@[simp] theorem t179_kind : t179.kind = .st [(0, 3), (1, 3), (2, 3), (3, 3)] := rfl
@[simp] theorem t179_cmp : t179.cmp = true := rfl
theorem t2_ok : t2.ok Try.prog 2 := ⟨by kernel_rfl, by kernel_rfl, by kernel_rfl, Try.underlying2, (fun h => by cases h), ⟨rfl, rfl, rfl, rfl, fun F h β => by simp [t2, Rep, Reps]⟩⟩
theorem t3_ok : t3.ok Try.prog 3 := ⟨by kernel_rfl, by kernel_rfl, by kernel_rfl, Try.underlying3, (fun h => by cases h), ⟨rfl, rfl, rfl, rfl, fun F h β => by simp [t3, Rep, Reps]⟩⟩
theorem t4_ok : t4.ok Try.prog 4 := ⟨by kernel_rfl, by kernel_rfl, by kernel_rfl, Try.underlying4, (fun h => by cases h), ⟨rfl, rfl, rfl, rfl, fun F h β => by simp [t4, Rep, Reps]⟩⟩
theorem t5_ok : t5.ok Try.prog 5 := ⟨by kernel_rfl, by kernel_rfl, by kernel_rfl, Try.underlying5, (fun h => by cases h), ⟨rfl, rfl, rfl, rfl, fun F h β => by simp [t5, Rep, Reps]⟩⟩
theorem t9_ok : t9.ok Try.prog 9 := ⟨by kernel_rfl, by kernel_rfl, by kernel_rfl, Try.underlying9, (fun h => by cases h), ⟨rfl, rfl, rfl, rfl, fun F h β => by simp [t9, Rep, Reps]⟩⟩
theorem t12_ok : t12.ok Try.prog 12 := ⟨by kernel_rfl, by kernel_rfl, by kernel_rfl, Try.underlying12, (fun h => by cases h), ⟨rfl, rfl, rfl, rfl, fun F h β => by simp [t12, Rep, Reps]⟩⟩
theorem t20_ok : t20.ok Try.prog 20 := ⟨by kernel_rfl, by kernel_rfl, by kernel_rfl, ⟨_, Try.underlying20⟩, (fun h => by cases h), ⟨rfl, rfl, rfl, rfl, fun F h β => by simp [t20, Rep, Reps]⟩⟩
theorem t21_ok : t21.ok Try.prog 21 := ⟨by kernel_rfl, by kernel_rfl, by kernel_rfl, Try.underlying21, (fun h => by cases h), ⟨rfl, rfl, rfl, rfl, fun F h β => by simp [t21, Rep, Reps]⟩⟩
theorem t22_ok : t22.ok Try.prog 22 := ⟨by kernel_rfl, by kernel_rfl, by kernel_rfl, Try.underlying22, (fun h => by cases h), ⟨rfl, rfl, rfl, rfl, fun F h β => by simp [t22, Rep, Reps]⟩⟩
theorem t23_ok : t23.ok Try.prog 23 := ⟨by kernel_rfl, by kernel_rfl, by kernel_rfl, Try.underlying23, (fun h => by cases h), ⟨rfl, rfl, rfl, rfl, fun F h β => by simp [t23, Rep, Reps]⟩⟩
theorem t24_ok : t24.ok Try.prog 24 := ⟨by kernel_rfl, by kernel_rfl, by kernel_rfl, Try.underlying24, (fun h => by cases h), ⟨rfl, rfl, rfl, rfl, fun F h β => by simp [t24, Rep, Reps]⟩⟩
theorem t25_ok : t25.ok Try.prog 25 := ⟨by kernel_rfl, by kernel_rfl, by kernel_rfl, Try.underlying25, (fun h => by cases h), ⟨rfl, rfl, rfl, rfl, fun F h β => by simp [t25, Rep, Reps]⟩⟩
theorem t26_ok : t26.ok Try.prog 26 := ⟨by kernel_rfl, by kernel_rfl, by kernel_rfl, Try.underlying26, (fun h => by cases h), ⟨rfl, rfl, rfl, rfl, fun F h β => by simp [t26, Rep, Reps]⟩⟩
theorem t27_ok : t27.ok Try.prog 27 := ⟨by kernel_rfl, by kernel_rfl, by kernel_rfl, Try.underlying27, (fun h => by cases h), ⟨rfl, rfl, rfl, rfl, fun F h β => by simp [t27, Rep, Reps]⟩⟩
theorem t28_ok : t28.ok Try.prog 28 := ⟨by kernel_rfl, by kernel_rfl, by kernel_rfl, Try.underlying28, (fun h => by cases h), ⟨rfl, rfl, rfl, rfl, fun F h β => by simp [t28, Rep, Reps]⟩⟩
theorem t29_ok : t29.ok Try.prog 29 := ⟨by kernel_rfl, by kernel_rfl, by kernel_rfl, ⟨_, Try.underlying29, rfl⟩, (fun h => by cases h), ⟨rfl, rfl, rfl, rfl, fun F h β => by
    show Rep F h β t29.z t29.zero
    simp only [t29, Rep, Reps]
    exact ⟨_, rfl, _, _, rfl, (by trivial), _, _, rfl, (.inl ⟨by trivial, none, 0, by trivial, by intros; rfl⟩), _, _, rfl, (.inl ⟨by trivial, none, 0, by trivial, by intros; rfl⟩), _, _, rfl, (.inl ⟨by trivial, none, 0, by trivial, by intros; rfl⟩), _, _, rfl, (.inl ⟨by trivial, none, 0, by trivial, by intros; rfl⟩), _, _, rfl, (.inl ⟨by trivial, none, 0, by trivial, by intros; rfl⟩), _, _, rfl, (.inl ⟨by trivial, none, 0, by trivial, by intros; rfl⟩), _, _, rfl, (.inl ⟨by trivial, none, 0, by trivial, by intros; rfl⟩), _, _, rfl, (by trivial), rfl⟩⟩⟩
theorem t30_ok : t30.ok Try.prog 30 := ⟨by kernel_rfl, by kernel_rfl, by kernel_rfl, ⟨_, Try.underlying30, rfl⟩, (fun h => by cases h), ⟨rfl, rfl, rfl, rfl, fun F h β => by
    show Rep F h β t30.z t30.zero
    simp only [t30, Rep, Reps]
    exact ⟨_, rfl, _, _, rfl, (by trivial), _, _, rfl, (.inl ⟨by trivial, none, 0, by trivial, by intros; rfl⟩), _, _, rfl, (.inl ⟨by trivial, none, 0, by trivial, by intros; rfl⟩), _, _, rfl, (.inl ⟨by trivial, none, 0, by trivial, by intros; rfl⟩), _, _, rfl, (.inl ⟨by trivial, none, 0, by trivial, by intros; rfl⟩), _, _, rfl, (.inl ⟨by trivial, none, 0, by trivial, by intros; rfl⟩), _, _, rfl, (.inl ⟨by trivial, none, 0, by trivial, by intros; rfl⟩), _, _, rfl, (.inl ⟨by trivial, none, 0, by trivial, by intros; rfl⟩), _, _, rfl, (by trivial), rfl⟩⟩⟩
theorem t33_ok : t33.ok Try.prog 33 := ⟨by kernel_rfl, by kernel_rfl, by kernel_rfl, Try.underlying33, (fun h => by cases h), ⟨rfl, rfl, rfl, rfl, fun F h β => by simp [t33, Rep, Reps]⟩⟩
theorem t34_ok : t34.ok Try.prog 34 := ⟨by kernel_rfl, by kernel_rfl, by kernel_rfl, Try.underlying34, (fun h => by cases h), ⟨rfl, rfl, rfl, rfl, fun F h β => by simp [t34, Rep, Reps]⟩⟩
theorem t35_ok : t35.ok Try.prog 35 := ⟨by kernel_rfl, by kernel_rfl, by kernel_rfl, Try.underlying35, (fun h => by cases h), ⟨rfl, rfl, rfl, rfl, fun F h β => by simp [t35, Rep, Reps]⟩⟩
theorem t36_ok : t36.ok Try.prog 36 := ⟨by kernel_rfl, by kernel_rfl, by kernel_rfl, Try.underlying36, (fun h => by cases h), ⟨rfl, rfl, rfl, rfl, fun F h β => by simp [t36, Rep, Reps]⟩⟩
theorem t37_ok : t37.ok Try.prog 37 := ⟨by kernel_rfl, by kernel_rfl, by kernel_rfl, Try.underlying37, (fun h => by cases h), ⟨rfl, rfl, rfl, rfl, fun F h β => by simp [t37, Rep, Reps]⟩⟩
theorem t38_ok : t38.ok Try.prog 38 := ⟨by kernel_rfl, by kernel_rfl, by kernel_rfl, Try.underlying38, (fun h => by cases h), ⟨rfl, rfl, rfl, rfl, fun F h β => by simp [t38, Rep, Reps]⟩⟩
theorem t39_ok : t39.ok Try.prog 39 := ⟨by kernel_rfl, by kernel_rfl, by kernel_rfl, Try.underlying39, (fun h => by cases h), ⟨rfl, rfl, rfl, rfl, fun F h β => by simp [t39, Rep, Reps]⟩⟩
theorem t40_ok : t40.ok Try.prog 40 := ⟨by kernel_rfl, by kernel_rfl, by kernel_rfl, ⟨_, Try.underlying40, rfl⟩, (fun h => by cases h), ⟨rfl, rfl, rfl, rfl, fun F h β => by
    show Rep F h β t40.z t40.zero
    simp only [t40, Rep, Reps]
    exact ⟨_, rfl, _, _, rfl, (by trivial), _, _, rfl, (.inl ⟨by trivial, none, 0, by trivial, by intros; rfl⟩), _, _, rfl, (.inl ⟨by trivial, none, 0, by trivial, by intros; rfl⟩), _, _, rfl, (.inl ⟨by trivial, none, 0, by trivial, by intros; rfl⟩), _, _, rfl, (.inl ⟨by trivial, none, 0, by trivial, by intros; rfl⟩), _, _, rfl, (.inl ⟨by trivial, none, 0, by trivial, by intros; rfl⟩), _, _, rfl, (.inl ⟨by trivial, none, 0, by trivial, by intros; rfl⟩), _, _, rfl, (.inl ⟨by trivial, none, 0, by trivial, by intros; rfl⟩), _, _, rfl, (by trivial), rfl⟩⟩⟩
theorem t41_ok : t41.ok Try.prog 41 := ⟨by kernel_rfl, by kernel_rfl, by kernel_rfl, ⟨_, Try.underlying41, rfl⟩, (fun h => by cases h), ⟨rfl, rfl, rfl, rfl, fun F h β => by
    show Rep F h β t41.z t41.zero
    simp only [t41, Rep, Reps]
    exact ⟨_, rfl, _, _, rfl, (by trivial), _, _, rfl, (.inl ⟨by trivial, none, 0, by trivial, by intros; rfl⟩), _, _, rfl, (.inl ⟨by trivial, none, 0, by trivial, by intros; rfl⟩), _, _, rfl, (.inl ⟨by trivial, none, 0, by trivial, by intros; rfl⟩), _, _, rfl, (.inl ⟨by trivial, none, 0, by trivial, by intros; rfl⟩), _, _, rfl, (.inl ⟨by trivial, none, 0, by trivial, by intros; rfl⟩), _, _, rfl, (.inl ⟨by trivial, none, 0, by trivial, by intros; rfl⟩), _, _, rfl, (.inl ⟨by trivial, none, 0, by trivial, by intros; rfl⟩), _, _, rfl, (by trivial), rfl⟩⟩⟩
theorem t52_ok : t52.ok Try.prog 52 := ⟨by kernel_rfl, by kernel_rfl, by kernel_rfl, Try.underlying52, (fun h => by cases h), ⟨rfl, rfl, rfl, rfl, fun F h β => by simp [t52, Rep, Reps]⟩⟩
theorem t70_ok : t70.ok Try.prog 70 := ⟨by kernel_rfl, by kernel_rfl, by kernel_rfl, Try.underlying70, (fun h => by cases h), ⟨rfl, rfl, rfl, rfl, fun F h β => by simp [t70, Rep, Reps]⟩⟩
theorem t71_ok : t71.ok Try.prog 71 := ⟨by kernel_rfl, by kernel_rfl, by kernel_rfl, ⟨_, Try.underlying71, rfl⟩, (fun h => by cases h), ⟨rfl, rfl, rfl, rfl, fun F h β => by
    show Rep F h β t71.z t71.zero
    simp only [t71, Rep, Reps]
    exact ⟨_, rfl, _, _, rfl, (by trivial), _, _, rfl, (.inl ⟨by trivial, none, 0, by trivial, by intros; rfl⟩), _, _, rfl, (by trivial), rfl⟩⟩⟩
theorem t72_ok : t72.ok Try.prog 72 := ⟨by kernel_rfl, by kernel_rfl, by kernel_rfl, ⟨_, Try.underlying72, rfl⟩, (fun h => by cases h), ⟨rfl, rfl, rfl, rfl, fun F h β => by
    show Rep F h β t72.z t72.zero
    simp only [t72, Rep, Reps]
    exact ⟨_, rfl, _, _, rfl, (by trivial), _, _, rfl, (.inl ⟨by trivial, none, 0, by trivial, by intros; rfl⟩), _, _, rfl, (by trivial), rfl⟩⟩⟩
theorem t74_ok : t74.ok Try.prog 74 := ⟨by kernel_rfl, by kernel_rfl, by kernel_rfl, ⟨_, Try.underlying74, rfl⟩, (fun _ => eqInts_of (by kernel_rfl) (by kernel_rfl) (by kernel_rfl)), ⟨rfl, rfl, rfl, rfl, fun F h β => by simp [t74, Rep, Reps]⟩⟩
theorem t75_ok : t75.ok Try.prog 75 := ⟨by kernel_rfl, by kernel_rfl, by kernel_rfl, ⟨_, Try.underlying75, rfl⟩, (fun _ => eqInts_of (by kernel_rfl) (by kernel_rfl) (by kernel_rfl)), ⟨rfl, rfl, rfl, rfl, fun F h β => by simp [t75, Rep, Reps]⟩⟩
theorem t77_ok : t77.ok Try.prog 77 := ⟨by kernel_rfl, by kernel_rfl, by kernel_rfl, ⟨_, Try.underlying77, rfl⟩, (fun _ => eqInts_of (by kernel_rfl) (by kernel_rfl) (by kernel_rfl)), ⟨rfl, rfl, rfl, rfl, fun F h β => by simp [t77, Rep, Reps]⟩⟩
theorem t78_ok : t78.ok Try.prog 78 := ⟨by kernel_rfl, by kernel_rfl, by kernel_rfl, ⟨_, Try.underlying78, rfl⟩, (fun _ => eqInts_of (by kernel_rfl) (by kernel_rfl) (by kernel_rfl)), ⟨rfl, rfl, rfl, rfl, fun F h β => by simp [t78, Rep, Reps]⟩⟩
theorem t79_ok : t79.ok Try.prog 79 := ⟨by kernel_rfl, by kernel_rfl, by kernel_rfl, ⟨_, Try.underlying79, rfl⟩, (fun _ => eqInts_of (by kernel_rfl) (by kernel_rfl) (by kernel_rfl)), ⟨rfl, rfl, rfl, rfl, fun F h β => by simp [t79, Rep, Reps]⟩⟩
theorem t80_ok : t80.ok Try.prog 80 := ⟨by kernel_rfl, by kernel_rfl, by kernel_rfl, ⟨_, Try.underlying80, rfl⟩, (fun _ => eqInts_of (by kernel_rfl) (by kernel_rfl) (by kernel_rfl)), ⟨rfl, rfl, rfl, rfl, fun F h β => by simp [t80, Rep, Reps]⟩⟩
theorem t82_ok : t82.ok Try.prog 82 := ⟨by kernel_rfl, by kernel_rfl, by kernel_rfl, ⟨_, Try.underlying82, rfl⟩, (fun _ => eqInts_of (by kernel_rfl) (by kernel_rfl) (by kernel_rfl)), ⟨rfl, rfl, rfl, rfl, fun F h β => by simp [t82, Rep, Reps]⟩⟩
theorem t83_ok : t83.ok Try.prog 83 := ⟨by kernel_rfl, by kernel_rfl, by kernel_rfl, ⟨_, Try.underlying83, rfl⟩, (fun _ => eqInts_of (by kernel_rfl) (by kernel_rfl) (by kernel_rfl)), ⟨rfl, rfl, rfl, rfl, fun F h β => by simp [t83, Rep, Reps]⟩⟩
theorem t84_ok : t84.ok Try.prog 84 := ⟨by kernel_rfl, by kernel_rfl, by kernel_rfl, ⟨_, Try.underlying84, rfl⟩, (fun _ => eqInts_of (by kernel_rfl) (by kernel_rfl) (by kernel_rfl)), ⟨rfl, rfl, rfl, rfl, fun F h β => by simp [t84, Rep, Reps]⟩⟩
theorem t85_ok : t85.ok Try.prog 85 := ⟨by kernel_rfl, by kernel_rfl, by kernel_rfl, Try.underlying85, (fun h => by cases h), ⟨rfl, rfl, rfl, rfl, fun F h β => by simp [t85, Rep, Reps]⟩⟩
theorem t86_ok : t86.ok Try.prog 86 := ⟨by kernel_rfl, by kernel_rfl, by kernel_rfl, ⟨_, Try.underlying86, rfl⟩, (fun h => by cases h), ⟨rfl, rfl, rfl, rfl, fun F h β => by
    show Rep F h β t86.z t86.zero
    simp only [t86, Rep, Reps]
    exact ⟨_, rfl, _, _, rfl, (by trivial), _, _, rfl, (.inl ⟨by trivial, none, 0, by trivial, by intros; rfl⟩), _, _, rfl, (by trivial), rfl⟩⟩⟩
theorem t87_ok : t87.ok Try.prog 87 := ⟨by kernel_rfl, by kernel_rfl, by kernel_rfl, ⟨_, Try.underlying87, rfl⟩, (fun h => by cases h), ⟨rfl, rfl, rfl, rfl, fun F h β => by
    show Rep F h β t87.z t87.zero
    simp only [t87, Rep, Reps]
    exact ⟨_, rfl, _, _, rfl, (by trivial), _, _, rfl, (.inl ⟨by trivial, none, 0, by trivial, by intros; rfl⟩), _, _, rfl, (by trivial), rfl⟩⟩⟩
theorem t89_ok : t89.ok Try.prog 89 := ⟨by kernel_rfl, by kernel_rfl, by kernel_rfl, ⟨_, Try.underlying89, rfl⟩, (fun _ => eqInts_of (by kernel_rfl) (by kernel_rfl) (by kernel_rfl)), ⟨rfl, rfl, rfl, rfl, fun F h β => by simp [t89, Rep, Reps]⟩⟩
theorem t90_ok : t90.ok Try.prog 90 := ⟨by kernel_rfl, by kernel_rfl, by kernel_rfl, ⟨_, Try.underlying90, rfl⟩, (fun _ => eqInts_of (by kernel_rfl) (by kernel_rfl) (by kernel_rfl)), ⟨rfl, rfl, rfl, rfl, fun F h β => by simp [t90, Rep, Reps]⟩⟩
theorem t92_ok : t92.ok Try.prog 92 := ⟨by kernel_rfl, by kernel_rfl, by kernel_rfl, ⟨_, Try.underlying92, rfl⟩, (fun _ => eqInts_of (by kernel_rfl) (by kernel_rfl) (by kernel_rfl)), ⟨rfl, rfl, rfl, rfl, fun F h β => by simp [t92, Rep, Reps]⟩⟩
theorem t93_ok : t93.ok Try.prog 93 := ⟨by kernel_rfl, by kernel_rfl, by kernel_rfl, ⟨_, Try.underlying93, rfl⟩, (fun _ => eqInts_of (by kernel_rfl) (by kernel_rfl) (by kernel_rfl)), ⟨rfl, rfl, rfl, rfl, fun F h β => by simp [t93, Rep, Reps]⟩⟩
theorem t94_ok : t94.ok Try.prog 94 := ⟨by kernel_rfl, by kernel_rfl, by kernel_rfl, ⟨_, Try.underlying94, rfl⟩, (fun _ => eqInts_of (by kernel_rfl) (by kernel_rfl) (by kernel_rfl)), ⟨rfl, rfl, rfl, rfl, fun F h β => by simp [t94, Rep, Reps]⟩⟩
theorem t96_ok : t96.ok Try.prog 96 := ⟨by kernel_rfl, by kernel_rfl, by kernel_rfl, ⟨_, Try.underlying96, rfl⟩, (fun _ => eqInts_of (by kernel_rfl) (by kernel_rfl) (by kernel_rfl)), ⟨rfl, rfl, rfl, rfl, fun F h β => by simp [t96, Rep, Reps]⟩⟩
theorem t97_ok : t97.ok Try.prog 97 := ⟨by kernel_rfl, by kernel_rfl, by kernel_rfl, ⟨_, Try.underlying97, rfl⟩, (fun _ => eqInts_of (by kernel_rfl) (by kernel_rfl) (by kernel_rfl)), ⟨rfl, rfl, rfl, rfl, fun F h β => by simp [t97, Rep, Reps]⟩⟩
theorem t98_ok : t98.ok Try.prog 98 := ⟨by kernel_rfl, by kernel_rfl, by kernel_rfl, ⟨_, Try.underlying98, rfl⟩, (fun _ => eqInts_of (by kernel_rfl) (by kernel_rfl) (by kernel_rfl)), ⟨rfl, rfl, rfl, rfl, fun F h β => by simp [t98, Rep, Reps]⟩⟩
theorem t100_ok : t100.ok Try.prog 100 := ⟨by kernel_rfl, by kernel_rfl, by kernel_rfl, ⟨_, Try.underlying100, rfl⟩, (fun _ => eqInts_of (by kernel_rfl) (by kernel_rfl) (by kernel_rfl)), ⟨rfl, rfl, rfl, rfl, fun F h β => by simp [t100, Rep, Reps]⟩⟩
theorem t101_ok : t101.ok Try.prog 101 := ⟨by kernel_rfl, by kernel_rfl, by kernel_rfl, ⟨_, Try.underlying101, rfl⟩, (fun _ => eqInts_of (by kernel_rfl) (by kernel_rfl) (by kernel_rfl)), ⟨rfl, rfl, rfl, rfl, fun F h β => by simp [t101, Rep, Reps]⟩⟩
theorem t102_ok : t102.ok Try.prog 102 := ⟨by kernel_rfl, by kernel_rfl, by kernel_rfl, ⟨_, Try.underlying102, rfl⟩, (fun _ => eqInts_of (by kernel_rfl) (by kernel_rfl) (by kernel_rfl)), ⟨rfl, rfl, rfl, rfl, fun F h β => by simp [t102, Rep, Reps]⟩⟩
theorem t104_ok : t104.ok Try.prog 104 := ⟨by kernel_rfl, by kernel_rfl, by kernel_rfl, ⟨_, Try.underlying104, rfl⟩, (fun _ => eqInts_of (by kernel_rfl) (by kernel_rfl) (by kernel_rfl)), ⟨rfl, rfl, rfl, rfl, fun F h β => by simp [t104, Rep, Reps]⟩⟩
theorem t106_ok : t106.ok Try.prog 106 := ⟨by kernel_rfl, by kernel_rfl, by kernel_rfl, ⟨_, Try.underlying106, rfl⟩, (fun _ => eqInts_of (by kernel_rfl) (by kernel_rfl) (by kernel_rfl)), ⟨rfl, rfl, rfl, rfl, fun F h β => by simp [t106, Rep, Reps]⟩⟩
theorem t107_ok : t107.ok Try.prog 107 := ⟨by kernel_rfl, by kernel_rfl, by kernel_rfl, Try.underlying107, (fun h => by cases h), ⟨rfl, rfl, rfl, rfl, fun F h β => by simp [t107, Rep, Reps]⟩⟩
theorem t128_ok : t128.ok Try.prog 128 := ⟨by kernel_rfl, by kernel_rfl, by kernel_rfl, ⟨_, Try.underlying128, rfl⟩, (fun _ => eqInts_of (by kernel_rfl) (by kernel_rfl) (by kernel_rfl)), ⟨rfl, rfl, rfl, rfl, fun F h β => by simp [t128, Rep, Reps]⟩⟩
theorem t129_ok : t129.ok Try.prog 129 := ⟨by kernel_rfl, by kernel_rfl, by kernel_rfl, ⟨_, Try.underlying129, rfl⟩, (fun _ => eqInts_of (by kernel_rfl) (by kernel_rfl) (by kernel_rfl)), ⟨rfl, rfl, rfl, rfl, fun F h β => by simp [t129, Rep, Reps]⟩⟩
theorem t131_ok : t131.ok Try.prog 131 := ⟨by kernel_rfl, by kernel_rfl, by kernel_rfl, ⟨_, Try.underlying131, rfl⟩, (fun _ => eqInts_of (by kernel_rfl) (by kernel_rfl) (by kernel_rfl)), ⟨rfl, rfl, rfl, rfl, fun F h β => by simp [t131, Rep, Reps]⟩⟩
theorem t132_ok : t132.ok Try.prog 132 := ⟨by kernel_rfl, by kernel_rfl, by kernel_rfl, Try.underlying132, (fun h => by cases h), ⟨rfl, rfl, rfl, rfl, fun F h β => by simp [t132, Rep, Reps]⟩⟩
theorem t135_ok : t135.ok Try.prog 135 := ⟨by kernel_rfl, by kernel_rfl, by kernel_rfl, Try.underlying135, (fun h => by cases h), ⟨rfl, rfl, rfl, rfl, fun F h β => by simp [t135, Rep, Reps]⟩⟩
theorem t139_ok : t139.ok Try.prog 139 := ⟨by kernel_rfl, by kernel_rfl, by kernel_rfl, Try.underlying139, (fun h => by cases h), ⟨rfl, rfl, rfl, rfl, fun F h β => by simp [t139, Rep, Reps]⟩⟩
theorem t148_ok : t148.ok Try.prog 148 := ⟨by kernel_rfl, by kernel_rfl, by kernel_rfl, Try.underlying148, (fun h => by cases h), ⟨rfl, rfl, rfl, rfl, fun F h β => by simp [t148, Rep, Reps]⟩⟩
theorem t150_ok : t150.ok Try.prog 150 := ⟨by kernel_rfl, by kernel_rfl, by kernel_rfl, Try.underlying150, (fun h => by cases h), ⟨rfl, rfl, rfl, rfl, fun F h β => by simp [t150, Rep, Reps]⟩⟩
theorem t151_ok : t151.ok Try.prog 151 := ⟨by kernel_rfl, by kernel_rfl, by kernel_rfl, Try.underlying151, (fun h => by cases h), ⟨rfl, rfl, rfl, rfl, fun F h β => by simp [t151, Rep, Reps]⟩⟩
theorem t155_ok : t155.ok Try.prog 155 := ⟨by kernel_rfl, by kernel_rfl, by kernel_rfl, Try.underlying155, (fun h => by cases h), ⟨rfl, rfl, rfl, rfl, fun F h β => by simp [t155, Rep, Reps]⟩⟩
theorem t158_ok : t158.ok Try.prog 158 := ⟨by kernel_rfl, by kernel_rfl, by kernel_rfl, Try.underlying158, (fun h => by cases h), ⟨rfl, rfl, rfl, rfl, fun F h β => by simp [t158, Rep, Reps]⟩⟩
theorem t170_ok : t170.ok Try.prog 170 := ⟨by kernel_rfl, by kernel_rfl, by kernel_rfl, ⟨_, _, _, Try.underlying170⟩, (fun h => by cases h), ⟨rfl, rfl, rfl, rfl, fun F h β => by simp [t170, Rep, Reps]⟩⟩
theorem t171_ok : t171.ok Try.prog 171 := ⟨by kernel_rfl, by kernel_rfl, by kernel_rfl, Try.underlying171, (fun h => by cases h), ⟨rfl, rfl, rfl, rfl, fun F h β => by simp [t171, Rep, Reps]⟩⟩
theorem t174_ok : t174.ok Try.prog 174 := ⟨by kernel_rfl, by kernel_rfl, by kernel_rfl, ⟨_, Try.underlying174, rfl⟩, (fun h => by cases h), ⟨rfl, rfl, rfl, rfl, fun F h β => by simp [t174, Rep, Reps]⟩⟩
theorem t179_ok : t179.ok Try.prog 179 := ⟨by kernel_rfl, by kernel_rfl, by kernel_rfl, ⟨_, Try.underlying179, rfl⟩, (fun _ => eqInts_of (by kernel_rfl) (by kernel_rfl) (by kernel_rfl)), ⟨rfl, rfl, rfl, rfl, fun F h β => by simp [t179, Rep, Reps]⟩⟩
def G : Ctx := [(2, t2), (3, t3), (4, t4), (5, t5), (9, t9), (12, t12), (20, t20), (21, t21), (22, t22), (23, t23), (24, t24), (25, t25), (26, t26), (27, t27), (28, t28), (29, t29), (30, t30), (33, t33), (34, t34), (35, t35), (36, t36), (37, t37), (38, t38), (39, t39), (40, t40), (41, t41), (52, t52), (70, t70), (71, t71), (72, t72), (74, t74), (75, t75), (77, t77), (78, t78), (79, t79), (80, t80), (82, t82), (83, t83), (84, t84), (85, t85), (86, t86), (87, t87), (89, t89), (90, t90), (92, t92), (93, t93), (94, t94), (96, t96), (97, t97), (98, t98), (100, t100), (101, t101), (102, t102), (104, t104), (106, t106), (107, t107), (128, t128), (129, t129), (131, t131), (132, t132), (135, t135), (139, t139), (148, t148), (150, t150), (151, t151), (155, t155), (158, t158), (170, t170), (171, t171), (174, t174), (179, t179)]
@[simp] theorem G_2 : G.get 2 = some t2 := rfl
@[simp] theorem G_3 : G.get 3 = some t3 := rfl
@[simp] theorem G_4 : G.get 4 = some t4 := rfl
@[simp] theorem G_5 : G.get 5 = some t5 := rfl
@[simp] theorem G_9 : G.get 9 = some t9 := rfl
@[simp] theorem G_12 : G.get 12 = some t12 := rfl
@[simp] theorem G_20 : G.get 20 = some t20 := rfl
@[simp] theorem G_21 : G.get 21 = some t21 := rfl
@[simp] theorem G_22 : G.get 22 = some t22 := rfl
@[simp] theorem G_23 : G.get 23 = some t23 := rfl
@[simp] theorem G_24 : G.get 24 = some t24 := rfl
@[simp] theorem G_25 : G.get 25 = some t25 := rfl
@[simp] theorem G_26 : G.get 26 = some t26 := rfl
@[simp] theorem G_27 : G.get 27 = some t27 := rfl
@[simp] theorem G_28 : G.get 28 = some t28 := rfl
@[simp] theorem G_29 : G.get 29 = some t29 := rfl
@[simp] theorem G_30 : G.get 30 = some t30 := rfl
@[simp] theorem G_33 : G.get 33 = some t33 := rfl
@[simp] theorem G_34 : G.get 34 = some t34 := rfl
@[simp] theorem G_35 : G.get 35 = some t35 := rfl
@[simp] theorem G_36 : G.get 36 = some t36 := rfl
@[simp] theorem G_37 : G.get 37 = some t37 := rfl
@[simp] theorem G_38 : G.get 38 = some t38 := rfl
@[simp] theorem G_39 : G.get 39 = some t39 := rfl
@[simp] theorem G_40 : G.get 40 = some t40 := rfl
@[simp] theorem G_41 : G.get 41 = some t41 := rfl
@[simp] theorem G_52 : G.get 52 = some t52 := rfl
@[simp] theorem G_70 : G.get 70 = some t70 := rfl
@[simp] theorem G_71 : G.get 71 = some t71 := rfl
@[simp] theorem G_72 : G.get 72 = some t72 := rfl
@[simp] theorem G_74 : G.get 74 = some t74 := rfl
@[simp] theorem G_75 : G.get 75 = some t75 := rfl
@[simp] theorem G_77 : G.get 77 = some t77 := rfl
@[simp] theorem G_78 : G.get 78 = some t78 := rfl
@[simp] theorem G_79 : G.get 79 = some t79 := rfl
@[simp] theorem G_80 : G.get 80 = some t80 := rfl
@[simp] theorem G_82 : G.get 82 = some t82 := rfl
@[simp] theorem G_83 : G.get 83 = some t83 := rfl
@[simp] theorem G_84 : G.get 84 = some t84 := rfl
@[simp] theorem G_85 : G.get 85 = some t85 := rfl
@[simp] theorem G_86 : G.get 86 = some t86 := rfl
@[simp] theorem G_87 : G.get 87 = some t87 := rfl
@[simp] theorem G_89 : G.get 89 = some t89 := rfl
@[simp] theorem G_90 : G.get 90 = some t90 := rfl
@[simp] theorem G_92 : G.get 92 = some t92 := rfl
@[simp] theorem G_93 : G.get 93 = some t93 := rfl
@[simp] theorem G_94 : G.get 94 = some t94 := rfl
@[simp] theorem G_96 : G.get 96 = some t96 := rfl
@[simp] theorem G_97 : G.get 97 = some t97 := rfl
@[simp] theorem G_98 : G.get 98 = some t98 := rfl
@[simp] theorem G_100 : G.get 100 = some t100 := rfl
@[simp] theorem G_101 : G.get 101 = some t101 := rfl
@[simp] theorem G_102 : G.get 102 = some t102 := rfl
@[simp] theorem G_104 : G.get 104 = some t104 := rfl
@[simp] theorem G_106 : G.get 106 = some t106 := rfl
@[simp] theorem G_107 : G.get 107 = some t107 := rfl
@[simp] theorem G_128 : G.get 128 = some t128 := rfl
@[simp] theorem G_129 : G.get 129 = some t129 := rfl
@[simp] theorem G_131 : G.get 131 = some t131 := rfl
@[simp] theorem G_132 : G.get 132 = some t132 := rfl
@[simp] theorem G_135 : G.get 135 = some t135 := rfl
@[simp] theorem G_139 : G.get 139 = some t139 := rfl
@[simp] theorem G_148 : G.get 148 = some t148 := rfl
@[simp] theorem G_150 : G.get 150 = some t150 := rfl
@[simp] theorem G_151 : G.get 151 = some t151 := rfl
@[simp] theorem G_155 : G.get 155 = some t155 := rfl
@[simp] theorem G_158 : G.get 158 = some t158 := rfl
@[simp] theorem G_170 : G.get 170 = some t170 := rfl
@[simp] theorem G_171 : G.get 171 = some t171 := rfl
@[simp] theorem G_174 : G.get 174 = some t174 := rfl
@[simp] theorem G_179 : G.get 179 = some t179 := rfl
theorem G_ok : G.ok Try.prog := by
  intro p hp
  simp only [G, List.mem_cons, List.not_mem_nil, or_false] at hp
  rcases hp with rfl | rfl | rfl | rfl | rfl | rfl | rfl | rfl | rfl | rfl | rfl | rfl | rfl | rfl | rfl | rfl | rfl | rfl | rfl | rfl | rfl | rfl | rfl | rfl | rfl | rfl | rfl | rfl | rfl | rfl | rfl | rfl | rfl | rfl | rfl | rfl | rfl | rfl | rfl | rfl | rfl | rfl | rfl | rfl | rfl | rfl | rfl | rfl | rfl | rfl | rfl | rfl | rfl | rfl | rfl | rfl | rfl | rfl | rfl | rfl | rfl | rfl | rfl | rfl | rfl | rfl | rfl | rfl | rfl | rfl | rfl
  · exact t2_ok
  · exact t3_ok
  · exact t4_ok
  · exact t5_ok
  · exact t9_ok
  · exact t12_ok
  · exact t20_ok
  · exact t21_ok
  · exact t22_ok
  · exact t23_ok
  · exact t24_ok
  · exact t25_ok
  · exact t26_ok
  · exact t27_ok
  · exact t28_ok
  · exact t29_ok
  · exact t30_ok
  · exact t33_ok
  · exact t34_ok
  · exact t35_ok
  · exact t36_ok
  · exact t37_ok
  · exact t38_ok
  · exact t39_ok
  · exact t40_ok
  · exact t41_ok
  · exact t52_ok
  · exact t70_ok
  · exact t71_ok
  · exact t72_ok
  · exact t74_ok
  · exact t75_ok
  · exact t77_ok
  · exact t78_ok
  · exact t79_ok
  · exact t80_ok
  · exact t82_ok
  · exact t83_ok
  · exact t84_ok
  · exact t85_ok
  · exact t86_ok
  · exact t87_ok
  · exact t89_ok
  · exact t90_ok
  · exact t92_ok
  · exact t93_ok
  · exact t94_ok
  · exact t96_ok
  · exact t97_ok
  · exact t98_ok
  · exact t100_ok
  · exact t101_ok
  · exact t102_ok
  · exact t104_ok
  · exact t106_ok
  · exact t107_ok
  · exact t128_ok
  · exact t129_ok
  · exact t131_ok
  · exact t132_ok
  · exact t135_ok
  · exact t139_ok
  · exact t148_ok
  · exact t150_ok
  · exact t151_ok
  · exact t155_ok
  · exact t158_ok
  · exact t170_ok
  · exact t171_ok
  · exact t174_ok
  · exact t179_ok
theorem mix : Try.prog.follows .mixedOrders = true := by kernel_rfl
end Go.Proofs.Ytnncheloiiannaa
