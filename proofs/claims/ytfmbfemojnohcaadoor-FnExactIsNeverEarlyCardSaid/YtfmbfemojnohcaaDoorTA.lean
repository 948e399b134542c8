/- What is known of the types of this program: their sizes, zero values and parts. -/
import Derived.Test.YtfmbfemojnohcaaDoorProg
import Derived.Test.YtfmbfemojnohcaaDoorTY
import Derived.KernelRfl
namespace Go.Proofs.YtfmbfemojnohcaaDoor
open Go Go.Eng
set_option linter.unusedSimpArgs false
set_option linter.unusedVariables false
set_option maxRecDepth 20000
/-- int64 -/
def t2 : TI := ⟨1, 8, .int .i64 0, .lit (.int .i64 0), .lit (.int .i64 0), .int .i64, false⟩
@[simp] theorem t2_size : t2.size = 1 := rfl
@[simp] theorem t2_bytes : t2.bytes = 8 := rfl
@[simp] theorem t2_z : t2.z = .lit (.int .i64 0) := rfl
@[simp] theorem t2_y : t2.y = .lit (.int .i64 0) := rfl
@[simp] theorem t2_kind : t2.kind = .int .i64 := rfl
@[simp] theorem t2_cmp : t2.cmp = false := rfl
/-- int -/
def t3 : TI := ⟨1, 8, .int .i64 0, .lit (.int .i64 0), .lit (.int .i64 0), .int .i64, false⟩
@[simp] theorem t3_size : t3.size = 1 := rfl
@[simp] theorem t3_bytes : t3.bytes = 8 := rfl
@[simp] theorem t3_z : t3.z = .lit (.int .i64 0) := rfl
@[simp] theorem t3_y : t3.y = .lit (.int .i64 0) := rfl
@[simp] theorem t3_kind : t3.kind = .int .i64 := rfl
@[simp] theorem t3_cmp : t3.cmp = false := rfl
/-- bool -/
def t4 : TI := ⟨1, 1, .bool false, .lit (.bool false), .lit (.bool false), .bool, false⟩
@[simp] theorem t4_size : t4.size = 1 := rfl
@[simp] theorem t4_bytes : t4.bytes = 1 := rfl
@[simp] theorem t4_z : t4.z = .lit (.bool false) := rfl
@[simp] theorem t4_y : t4.y = .lit (.bool false) := rfl
@[simp] theorem t4_kind : t4.kind = .bool := rfl
@[simp] theorem t4_cmp : t4.cmp = false := rfl
/-- uint8 -/
def t5 : TI := ⟨1, 1, .int .u8 0, .lit (.int .u8 0), .lit (.int .u8 0), .int .u8, false⟩
@[simp] theorem t5_size : t5.size = 1 := rfl
@[simp] theorem t5_bytes : t5.bytes = 1 := rfl
@[simp] theorem t5_z : t5.z = .lit (.int .u8 0) := rfl
@[simp] theorem t5_y : t5.y = .lit (.int .u8 0) := rfl
@[simp] theorem t5_kind : t5.kind = .int .u8 := rfl
@[simp] theorem t5_cmp : t5.cmp = false := rfl
/-- string -/
def t9 : TI := ⟨1, 16, .string ⟨#[]⟩, .lit (.string ⟨#[]⟩), .lit (.string ⟨#[]⟩), .str, false⟩
@[simp] theorem t9_size : t9.size = 1 := rfl
@[simp] theorem t9_bytes : t9.bytes = 16 := rfl
@[simp] theorem t9_z : t9.z = .lit (.string ⟨#[]⟩) := rfl
@[simp] theorem t9_y : t9.y = .lit (.string ⟨#[]⟩) := rfl
@[simp] theorem t9_kind : t9.kind = .str := rfl
@[simp] theorem t9_cmp : t9.cmp = false := rfl
/-- uintptr -/
def t12 : TI := ⟨1, 8, .int .u64 0, .lit (.int .u64 0), .lit (.int .u64 0), .int .u64, false⟩
@[simp] theorem t12_size : t12.size = 1 := rfl
@[simp] theorem t12_bytes : t12.bytes = 8 := rfl
@[simp] theorem t12_z : t12.z = .lit (.int .u64 0) := rfl
@[simp] theorem t12_y : t12.y = .lit (.int .u64 0) := rfl
@[simp] theorem t12_kind : t12.kind = .int .u64 := rfl
@[simp] theorem t12_cmp : t12.cmp = false := rfl
/-- interface {} -/
def t20 : TI := ⟨1, 16, .nilIface, .lit .nilIface, .lit .nilIface, .iface, false⟩
@[simp] theorem t20_size : t20.size = 1 := rfl
@[simp] theorem t20_bytes : t20.bytes = 16 := rfl
@[simp] theorem t20_z : t20.z = .lit .nilIface := rfl
@[simp] theorem t20_y : t20.y = .lit .nilIface := rfl
@[simp] theorem t20_kind : t20.kind = .iface := rfl
@[simp] theorem t20_cmp : t20.cmp = false := rfl
/-- int32 -/
def t21 : TI := ⟨1, 4, .int .i32 0, .lit (.int .i32 0), .lit (.int .i32 0), .int .i32, false⟩
@[simp] theorem t21_size : t21.size = 1 := rfl
@[simp] theorem t21_bytes : t21.bytes = 4 := rfl
@[simp] theorem t21_z : t21.z = .lit (.int .i32 0) := rfl
@[simp] theorem t21_y : t21.y = .lit (.int .i32 0) := rfl
@[simp] theorem t21_kind : t21.kind = .int .i32 := rfl
@[simp] theorem t21_cmp : t21.cmp = false := rfl
/-- []laws.Find -/
def t22 : TI := ⟨1, 24, .slice none 0 0, .sl true 0 .any [], yLTFind, .slice 89, false⟩
@[simp] theorem t22_size : t22.size = 1 := rfl
@[simp] theorem t22_bytes : t22.bytes = 24 := rfl
@[simp] theorem t22_z : t22.z = .sl true 0 .any [] := rfl
@[simp] theorem t22_y : t22.y = yLTFind := rfl
@[simp] theorem t22_kind : t22.kind = .slice 89 := rfl
@[simp] theorem t22_cmp : t22.cmp = false := rfl
/-- []laws.Secret -/
def t23 : TI := ⟨1, 24, .slice none 0 0, .sl true 0 .any [], yLTSecret, .slice 81, false⟩
@[simp] theorem t23_size : t23.size = 1 := rfl
@[simp] theorem t23_bytes : t23.bytes = 24 := rfl
@[simp] theorem t23_z : t23.z = .sl true 0 .any [] := rfl
@[simp] theorem t23_y : t23.y = yLTSecret := rfl
@[simp] theorem t23_kind : t23.kind = .slice 81 := rfl
@[simp] theorem t23_cmp : t23.cmp = false := rfl
/-- []laws.Slot -/
def t24 : TI := ⟨1, 24, .slice none 0 0, .sl true 0 .any [], yLTSlot, .slice 97, false⟩
@[simp] theorem t24_size : t24.size = 1 := rfl
@[simp] theorem t24_bytes : t24.bytes = 24 := rfl
@[simp] theorem t24_z : t24.z = .sl true 0 .any [] := rfl
@[simp] theorem t24_y : t24.y = yLTSlot := rfl
@[simp] theorem t24_kind : t24.kind = .slice 97 := rfl
@[simp] theorem t24_cmp : t24.cmp = false := rfl
/-- []laws.Claim -/
def t25 : TI := ⟨1, 24, .slice none 0 0, .sl true 0 .any [], yLTClaim, .slice 99, false⟩
@[simp] theorem t25_size : t25.size = 1 := rfl
@[simp] theorem t25_bytes : t25.bytes = 24 := rfl
@[simp] theorem t25_z : t25.z = .sl true 0 .any [] := rfl
@[simp] theorem t25_y : t25.y = yLTClaim := rfl
@[simp] theorem t25_kind : t25.kind = .slice 99 := rfl
@[simp] theorem t25_cmp : t25.cmp = false := rfl
/-- []laws.Trial -/
def t26 : TI := ⟨1, 24, .slice none 0 0, .sl true 0 .any [], yLTTrial, .slice 103, false⟩
@[simp] theorem t26_size : t26.size = 1 := rfl
@[simp] theorem t26_bytes : t26.bytes = 24 := rfl
@[simp] theorem t26_z : t26.z = .sl true 0 .any [] := rfl
@[simp] theorem t26_y : t26.y = yLTTrial := rfl
@[simp] theorem t26_kind : t26.kind = .slice 103 := rfl
@[simp] theorem t26_cmp : t26.cmp = false := rfl
/-- []laws.Hand -/
def t27 : TI := ⟨1, 24, .slice none 0 0, .sl true 0 .any [], yLTHand, .slice 105, false⟩
@[simp] theorem t27_size : t27.size = 1 := rfl
@[simp] theorem t27_bytes : t27.bytes = 24 := rfl
@[simp] theorem t27_z : t27.z = .sl true 0 .any [] := rfl
@[simp] theorem t27_y : t27.y = yLTHand := rfl
@[simp] theorem t27_kind : t27.kind = .slice 105 := rfl
@[simp] theorem t27_cmp : t27.cmp = false := rfl
/-- []laws.Entry -/
def t28 : TI := ⟨1, 24, .slice none 0 0, .sl true 0 .any [], yLTEntry, .slice 109, false⟩
@[simp] theorem t28_size : t28.size = 1 := rfl
@[simp] theorem t28_bytes : t28.bytes = 24 := rfl
@[simp] theorem t28_z : t28.z = .sl true 0 .any [] := rfl
@[simp] theorem t28_y : t28.y = yLTEntry := rfl
@[simp] theorem t28_kind : t28.kind = .slice 109 := rfl
@[simp] theorem t28_cmp : t28.cmp = false := rfl
/-- struct { No int; Finds []laws.Find; Secrets []laws.Secret; Slots []laws.Slot; Claims []laws.Claim; Trials []laws.Trial; Chain []laws.Hand; Book []laws.Entry; Now int } -/
def t29 : TI := ⟨9, 184, .agg #[.int .i64 0, .slice none 0 0, .slice none 0 0, .slice none 0 0, .slice none 0 0, .slice none 0 0, .slice none 0 0, .slice none 0 0, .int .i64 0], .agg [.lit (.int .i64 0), .sl true 0 .any [], .sl true 0 .any [], .sl true 0 .any [], .sl true 0 .any [], .sl true 0 .any [], .sl true 0 .any [], .sl true 0 .any [], .lit (.int .i64 0)], yTHouse, .st [(0, 3), (1, 22), (2, 23), (3, 24), (4, 25), (5, 26), (6, 27), (7, 28), (8, 3)], false⟩
@[simp] theorem t29_size : t29.size = 9 := rfl
@[simp] theorem t29_bytes : t29.bytes = 184 := rfl
@[simp] theorem t29_z : t29.z = .agg [.lit (.int .i64 0), .sl true 0 .any [], .sl true 0 .any [], .sl true 0 .any [], .sl true 0 .any [], .sl true 0 .any [], .sl true 0 .any [], .sl true 0 .any [], .lit (.int .i64 0)] := rfl
@[simp] theorem t29_y : t29.y = yTHouse := rfl
@[simp] theorem t29_kind : t29.kind = .st [(0, 3), (1, 22), (2, 23), (3, 24), (4, 25), (5, 26), (6, 27), (7, 28), (8, 3)] := rfl
@[simp] theorem t29_cmp : t29.cmp = false := rfl
/-- laws.House = loop.example/g03007/laws.House -/
def t30 : TI := ⟨9, 184, .agg #[.int .i64 0, .slice none 0 0, .slice none 0 0, .slice none 0 0, .slice none 0 0, .slice none 0 0, .slice none 0 0, .slice none 0 0, .int .i64 0], .agg [.lit (.int .i64 0), .sl true 0 .any [], .sl true 0 .any [], .sl true 0 .any [], .sl true 0 .any [], .sl true 0 .any [], .sl true 0 .any [], .sl true 0 .any [], .lit (.int .i64 0)], yTHouse, .st [(0, 3), (1, 22), (2, 23), (3, 24), (4, 25), (5, 26), (6, 27), (7, 28), (8, 3)], false⟩
@[simp] theorem t30_size : t30.size = 9 := rfl
@[simp] theorem t30_bytes : t30.bytes = 184 := rfl
@[simp] theorem t30_z : t30.z = .agg [.lit (.int .i64 0), .sl true 0 .any [], .sl true 0 .any [], .sl true 0 .any [], .sl true 0 .any [], .sl true 0 .any [], .sl true 0 .any [], .sl true 0 .any [], .lit (.int .i64 0)] := rfl
@[simp] theorem t30_y : t30.y = yTHouse := rfl
@[simp] theorem t30_kind : t30.kind = .st [(0, 3), (1, 22), (2, 23), (3, 24), (4, 25), (5, 26), (6, 27), (7, 28), (8, 3)] := rfl
@[simp] theorem t30_cmp : t30.cmp = false := rfl
/-- []impl.Find -/
def t33 : TI := ⟨1, 24, .slice none 0 0, .sl true 0 .any [], yLTFind, .slice 60, false⟩
@[simp] theorem t33_size : t33.size = 1 := rfl
@[simp] theorem t33_bytes : t33.bytes = 24 := rfl
@[simp] theorem t33_z : t33.z = .sl true 0 .any [] := rfl
@[simp] theorem t33_y : t33.y = yLTFind := rfl
@[simp] theorem t33_kind : t33.kind = .slice 60 := rfl
@[simp] theorem t33_cmp : t33.cmp = false := rfl
/-- []impl.Secret -/
def t34 : TI := ⟨1, 24, .slice none 0 0, .sl true 0 .any [], yLTSecret, .slice 92, false⟩
@[simp] theorem t34_size : t34.size = 1 := rfl
@[simp] theorem t34_bytes : t34.bytes = 24 := rfl
@[simp] theorem t34_z : t34.z = .sl true 0 .any [] := rfl
@[simp] theorem t34_y : t34.y = yLTSecret := rfl
@[simp] theorem t34_kind : t34.kind = .slice 92 := rfl
@[simp] theorem t34_cmp : t34.cmp = false := rfl
/-- []impl.Slot -/
def t35 : TI := ⟨1, 24, .slice none 0 0, .sl true 0 .any [], yLTSlot, .slice 95, false⟩
@[simp] theorem t35_size : t35.size = 1 := rfl
@[simp] theorem t35_bytes : t35.bytes = 24 := rfl
@[simp] theorem t35_z : t35.z = .sl true 0 .any [] := rfl
@[simp] theorem t35_y : t35.y = yLTSlot := rfl
@[simp] theorem t35_kind : t35.kind = .slice 95 := rfl
@[simp] theorem t35_cmp : t35.cmp = false := rfl
/-- []impl.Claim -/
def t36 : TI := ⟨1, 24, .slice none 0 0, .sl true 0 .any [], yLTClaim, .slice 83, false⟩
@[simp] theorem t36_size : t36.size = 1 := rfl
@[simp] theorem t36_bytes : t36.bytes = 24 := rfl
@[simp] theorem t36_z : t36.z = .sl true 0 .any [] := rfl
@[simp] theorem t36_y : t36.y = yLTClaim := rfl
@[simp] theorem t36_kind : t36.kind = .slice 83 := rfl
@[simp] theorem t36_cmp : t36.cmp = false := rfl
/-- []impl.Trial -/
def t37 : TI := ⟨1, 24, .slice none 0 0, .sl true 0 .any [], yLTTrial, .slice 101, false⟩
@[simp] theorem t37_size : t37.size = 1 := rfl
@[simp] theorem t37_bytes : t37.bytes = 24 := rfl
@[simp] theorem t37_z : t37.z = .sl true 0 .any [] := rfl
@[simp] theorem t37_y : t37.y = yLTTrial := rfl
@[simp] theorem t37_kind : t37.kind = .slice 101 := rfl
@[simp] theorem t37_cmp : t37.cmp = false := rfl
/-- []impl.Hand -/
def t38 : TI := ⟨1, 24, .slice none 0 0, .sl true 0 .any [], yLTHand, .slice 53, false⟩
@[simp] theorem t38_size : t38.size = 1 := rfl
@[simp] theorem t38_bytes : t38.bytes = 24 := rfl
@[simp] theorem t38_z : t38.z = .sl true 0 .any [] := rfl
@[simp] theorem t38_y : t38.y = yLTHand := rfl
@[simp] theorem t38_kind : t38.kind = .slice 53 := rfl
@[simp] theorem t38_cmp : t38.cmp = false := rfl
/-- []impl.Entry -/
def t39 : TI := ⟨1, 24, .slice none 0 0, .sl true 0 .any [], yLTEntry, .slice 107, false⟩
@[simp] theorem t39_size : t39.size = 1 := rfl
@[simp] theorem t39_bytes : t39.bytes = 24 := rfl
@[simp] theorem t39_z : t39.z = .sl true 0 .any [] := rfl
@[simp] theorem t39_y : t39.y = yLTEntry := rfl
@[simp] theorem t39_kind : t39.kind = .slice 107 := rfl
@[simp] theorem t39_cmp : t39.cmp = false := rfl
/-- struct { No int; Finds []impl.Find; Secrets []impl.Secret; Slots []impl.Slot; Claims []impl.Claim; Trials []impl.Trial; Chain []impl.Hand; Book []impl.Entry; Now int } -/
def t40 : TI := ⟨9, 184, .agg #[.int .i64 0, .slice none 0 0, .slice none 0 0, .slice none 0 0, .slice none 0 0, .slice none 0 0, .slice none 0 0, .slice none 0 0, .int .i64 0], .agg [.lit (.int .i64 0), .sl true 0 .any [], .sl true 0 .any [], .sl true 0 .any [], .sl true 0 .any [], .sl true 0 .any [], .sl true 0 .any [], .sl true 0 .any [], .lit (.int .i64 0)], yTHouse, .st [(0, 3), (1, 33), (2, 34), (3, 35), (4, 36), (5, 37), (6, 38), (7, 39), (8, 3)], false⟩
@[simp] theorem t40_size : t40.size = 9 := rfl
@[simp] theorem t40_bytes : t40.bytes = 184 := rfl
@[simp] theorem t40_z : t40.z = .agg [.lit (.int .i64 0), .sl true 0 .any [], .sl true 0 .any [], .sl true 0 .any [], .sl true 0 .any [], .sl true 0 .any [], .sl true 0 .any [], .sl true 0 .any [], .lit (.int .i64 0)] := rfl
@[simp] theorem t40_y : t40.y = yTHouse := rfl
@[simp] theorem t40_kind : t40.kind = .st [(0, 3), (1, 33), (2, 34), (3, 35), (4, 36), (5, 37), (6, 38), (7, 39), (8, 3)] := rfl
@[simp] theorem t40_cmp : t40.cmp = false := rfl
/-- impl.House = loop.example/g03007/impl.House -/
def t41 : TI := ⟨9, 184, .agg #[.int .i64 0, .slice none 0 0, .slice none 0 0, .slice none 0 0, .slice none 0 0, .slice none 0 0, .slice none 0 0, .slice none 0 0, .int .i64 0], .agg [.lit (.int .i64 0), .sl true 0 .any [], .sl true 0 .any [], .sl true 0 .any [], .sl true 0 .any [], .sl true 0 .any [], .sl true 0 .any [], .sl true 0 .any [], .lit (.int .i64 0)], yTHouse, .st [(0, 3), (1, 33), (2, 34), (3, 35), (4, 36), (5, 37), (6, 38), (7, 39), (8, 3)], false⟩
@[simp] theorem t41_size : t41.size = 9 := rfl
@[simp] theorem t41_bytes : t41.bytes = 184 := rfl
@[simp] theorem t41_z : t41.z = .agg [.lit (.int .i64 0), .sl true 0 .any [], .sl true 0 .any [], .sl true 0 .any [], .sl true 0 .any [], .sl true 0 .any [], .sl true 0 .any [], .sl true 0 .any [], .lit (.int .i64 0)] := rfl
@[simp] theorem t41_y : t41.y = yTHouse := rfl
@[simp] theorem t41_kind : t41.kind = .st [(0, 3), (1, 33), (2, 34), (3, 35), (4, 36), (5, 37), (6, 38), (7, 39), (8, 3)] := rfl
@[simp] theorem t41_cmp : t41.cmp = false := rfl
/-- struct { Thing int; Holder int; Who int; At int; Seal int } -/
def t52 : TI := ⟨5, 40, .agg #[.int .i64 0, .int .i64 0, .int .i64 0, .int .i64 0, .int .i64 0], .agg [.lit (.int .i64 0), .lit (.int .i64 0), .lit (.int .i64 0), .lit (.int .i64 0), .lit (.int .i64 0)], yTHand, .st [(0, 3), (1, 3), (2, 3), (3, 3), (4, 3)], true⟩
@[simp] theorem t52_size : t52.size = 5 := rfl
@[simp] theorem t52_bytes : t52.bytes = 40 := rfl
@[simp] theorem t52_z : t52.z = .agg [.lit (.int .i64 0), .lit (.int .i64 0), .lit (.int .i64 0), .lit (.int .i64 0), .lit (.int .i64 0)] := rfl
@[simp] theorem t52_y : t52.y = yTHand := rfl
@[simp] theorem t52_kind : t52.kind = .st [(0, 3), (1, 3), (2, 3), (3, 3), (4, 3)] := rfl
@[simp] theorem t52_cmp : t52.cmp = true := rfl
/-- impl.Hand = loop.example/g03007/impl.Hand -/
def t53 : TI := ⟨5, 40, .agg #[.int .i64 0, .int .i64 0, .int .i64 0, .int .i64 0, .int .i64 0], .agg [.lit (.int .i64 0), .lit (.int .i64 0), .lit (.int .i64 0), .lit (.int .i64 0), .lit (.int .i64 0)], yTHand, .st [(0, 3), (1, 3), (2, 3), (3, 3), (4, 3)], true⟩
@[simp] theorem t53_size : t53.size = 5 := rfl
@[simp] theorem t53_bytes : t53.bytes = 40 := rfl
@[simp] theorem t53_z : t53.z = .agg [.lit (.int .i64 0), .lit (.int .i64 0), .lit (.int .i64 0), .lit (.int .i64 0), .lit (.int .i64 0)] := rfl
@[simp] theorem t53_y : t53.y = yTHand := rfl
@[simp] theorem t53_kind : t53.kind = .st [(0, 3), (1, 3), (2, 3), (3, 3), (4, 3)] := rfl
@[simp] theorem t53_cmp : t53.cmp = true := rfl
/-- struct { Id int; Kind int; Colour int; Size int; Worth int } -/
def t57 : TI := ⟨5, 40, .agg #[.int .i64 0, .int .i64 0, .int .i64 0, .int .i64 0, .int .i64 0], .agg [.lit (.int .i64 0), .lit (.int .i64 0), .lit (.int .i64 0), .lit (.int .i64 0), .lit (.int .i64 0)], yTThing, .st [(0, 3), (1, 3), (2, 3), (3, 3), (4, 3)], true⟩
@[simp] theorem t57_size : t57.size = 5 := rfl
@[simp] theorem t57_bytes : t57.bytes = 40 := rfl
@[simp] theorem t57_z : t57.z = .agg [.lit (.int .i64 0), .lit (.int .i64 0), .lit (.int .i64 0), .lit (.int .i64 0), .lit (.int .i64 0)] := rfl
@[simp] theorem t57_y : t57.y = yTThing := rfl
@[simp] theorem t57_kind : t57.kind = .st [(0, 3), (1, 3), (2, 3), (3, 3), (4, 3)] := rfl
@[simp] theorem t57_cmp : t57.cmp = true := rfl
/-- impl.Thing = loop.example/g03007/impl.Thing -/
def t58 : TI := ⟨5, 40, .agg #[.int .i64 0, .int .i64 0, .int .i64 0, .int .i64 0, .int .i64 0], .agg [.lit (.int .i64 0), .lit (.int .i64 0), .lit (.int .i64 0), .lit (.int .i64 0), .lit (.int .i64 0)], yTThing, .st [(0, 3), (1, 3), (2, 3), (3, 3), (4, 3)], true⟩
@[simp] theorem t58_size : t58.size = 5 := rfl
@[simp] theorem t58_bytes : t58.bytes = 40 := rfl
@[simp] theorem t58_z : t58.z = .agg [.lit (.int .i64 0), .lit (.int .i64 0), .lit (.int .i64 0), .lit (.int .i64 0), .lit (.int .i64 0)] := rfl
@[simp] theorem t58_y : t58.y = yTThing := rfl
@[simp] theorem t58_kind : t58.kind = .st [(0, 3), (1, 3), (2, 3), (3, 3), (4, 3)] := rfl
@[simp] theorem t58_cmp : t58.cmp = true := rfl
/-- struct { Thing impl.Thing; Place int; At int; Finder int } -/
def t59 : TI := ⟨8, 64, .agg #[.int .i64 0, .int .i64 0, .int .i64 0, .int .i64 0, .int .i64 0, .int .i64 0, .int .i64 0, .int .i64 0], .agg [.lit (.int .i64 0), .lit (.int .i64 0), .lit (.int .i64 0), .lit (.int .i64 0), .lit (.int .i64 0), .lit (.int .i64 0), .lit (.int .i64 0), .lit (.int .i64 0)], yTFind, .st [(0, 58), (5, 3), (6, 3), (7, 3)], true⟩
@[simp] theorem t59_size : t59.size = 8 := rfl
@[simp] theorem t59_bytes : t59.bytes = 64 := rfl
@[simp] theorem t59_z : t59.z = .agg [.lit (.int .i64 0), .lit (.int .i64 0), .lit (.int .i64 0), .lit (.int .i64 0), .lit (.int .i64 0), .lit (.int .i64 0), .lit (.int .i64 0), .lit (.int .i64 0)] := rfl
@[simp] theorem t59_y : t59.y = yTFind := rfl
@[simp] theorem t59_kind : t59.kind = .st [(0, 58), (5, 3), (6, 3), (7, 3)] := rfl
@[simp] theorem t59_cmp : t59.cmp = true := rfl
/-- impl.Find = loop.example/g03007/impl.Find -/
def t60 : TI := ⟨8, 64, .agg #[.int .i64 0, .int .i64 0, .int .i64 0, .int .i64 0, .int .i64 0, .int .i64 0, .int .i64 0, .int .i64 0], .agg [.lit (.int .i64 0), .lit (.int .i64 0), .lit (.int .i64 0), .lit (.int .i64 0), .lit (.int .i64 0), .lit (.int .i64 0), .lit (.int .i64 0), .lit (.int .i64 0)], yTFind, .st [(0, 58), (5, 3), (6, 3), (7, 3)], true⟩
@[simp] theorem t60_size : t60.size = 8 := rfl
@[simp] theorem t60_bytes : t60.bytes = 64 := rfl
@[simp] theorem t60_z : t60.z = .agg [.lit (.int .i64 0), .lit (.int .i64 0), .lit (.int .i64 0), .lit (.int .i64 0), .lit (.int .i64 0), .lit (.int .i64 0), .lit (.int .i64 0), .lit (.int .i64 0)] := rfl
@[simp] theorem t60_y : t60.y = yTFind := rfl
@[simp] theorem t60_kind : t60.kind = .st [(0, 58), (5, 3), (6, 3), (7, 3)] := rfl
@[simp] theorem t60_cmp : t60.cmp = true := rfl
/-- []laws.Mark -/
def t79 : TI := ⟨1, 24, .slice none 0 0, .sl true 0 .any [], yLTMark, .slice 138, false⟩
@[simp] theorem t79_size : t79.size = 1 := rfl
@[simp] theorem t79_bytes : t79.bytes = 24 := rfl
@[simp] theorem t79_z : t79.z = .sl true 0 .any [] := rfl
@[simp] theorem t79_y : t79.y = yLTMark := rfl
@[simp] theorem t79_kind : t79.kind = .slice 138 := rfl
@[simp] theorem t79_cmp : t79.cmp = false := rfl
/-- struct { Thing int; Marks []laws.Mark; Salt int } -/
def t80 : TI := ⟨3, 40, .agg #[.int .i64 0, .slice none 0 0, .int .i64 0], .agg [.lit (.int .i64 0), .sl true 0 .any [], .lit (.int .i64 0)], yTSecret, .st [(0, 3), (1, 79), (2, 3)], false⟩
@[simp] theorem t80_size : t80.size = 3 := rfl
@[simp] theorem t80_bytes : t80.bytes = 40 := rfl
@[simp] theorem t80_z : t80.z = .agg [.lit (.int .i64 0), .sl true 0 .any [], .lit (.int .i64 0)] := rfl
@[simp] theorem t80_y : t80.y = yTSecret := rfl
@[simp] theorem t80_kind : t80.kind = .st [(0, 3), (1, 79), (2, 3)] := rfl
@[simp] theorem t80_cmp : t80.cmp = false := rfl
/-- laws.Secret = loop.example/g03007/laws.Secret -/
def t81 : TI := ⟨3, 40, .agg #[.int .i64 0, .slice none 0 0, .int .i64 0], .agg [.lit (.int .i64 0), .sl true 0 .any [], .lit (.int .i64 0)], yTSecret, .st [(0, 3), (1, 79), (2, 3)], false⟩
@[simp] theorem t81_size : t81.size = 3 := rfl
@[simp] theorem t81_bytes : t81.bytes = 40 := rfl
@[simp] theorem t81_z : t81.z = .agg [.lit (.int .i64 0), .sl true 0 .any [], .lit (.int .i64 0)] := rfl
@[simp] theorem t81_y : t81.y = yTSecret := rfl
@[simp] theorem t81_kind : t81.kind = .st [(0, 3), (1, 79), (2, 3)] := rfl
@[simp] theorem t81_cmp : t81.cmp = false := rfl
/-- struct { Id int; Who int; Thing int; At int; State int } -/
def t82 : TI := ⟨5, 40, .agg #[.int .i64 0, .int .i64 0, .int .i64 0, .int .i64 0, .int .i64 0], .agg [.lit (.int .i64 0), .lit (.int .i64 0), .lit (.int .i64 0), .lit (.int .i64 0), .lit (.int .i64 0)], yTClaim, .st [(0, 3), (1, 3), (2, 3), (3, 3), (4, 3)], true⟩
@[simp] theorem t82_size : t82.size = 5 := rfl
@[simp] theorem t82_bytes : t82.bytes = 40 := rfl
@[simp] theorem t82_z : t82.z = .agg [.lit (.int .i64 0), .lit (.int .i64 0), .lit (.int .i64 0), .lit (.int .i64 0), .lit (.int .i64 0)] := rfl
@[simp] theorem t82_y : t82.y = yTClaim := rfl
@[simp] theorem t82_kind : t82.kind = .st [(0, 3), (1, 3), (2, 3), (3, 3), (4, 3)] := rfl
@[simp] theorem t82_cmp : t82.cmp = true := rfl
/-- impl.Claim = loop.example/g03007/impl.Claim -/
def t83 : TI := ⟨5, 40, .agg #[.int .i64 0, .int .i64 0, .int .i64 0, .int .i64 0, .int .i64 0], .agg [.lit (.int .i64 0), .lit (.int .i64 0), .lit (.int .i64 0), .lit (.int .i64 0), .lit (.int .i64 0)], yTClaim, .st [(0, 3), (1, 3), (2, 3), (3, 3), (4, 3)], true⟩
@[simp] theorem t83_size : t83.size = 5 := rfl
@[simp] theorem t83_bytes : t83.bytes = 40 := rfl
@[simp] theorem t83_z : t83.z = .agg [.lit (.int .i64 0), .lit (.int .i64 0), .lit (.int .i64 0), .lit (.int .i64 0), .lit (.int .i64 0)] := rfl
@[simp] theorem t83_y : t83.y = yTClaim := rfl
@[simp] theorem t83_kind : t83.kind = .st [(0, 3), (1, 3), (2, 3), (3, 3), (4, 3)] := rfl
@[simp] theorem t83_cmp : t83.cmp = true := rfl
/-- func(impl.Find) bool -/
def t84 : TI := ⟨1, 8, .nilFunc, .lit .nilFunc, .lit .nilFunc, .func, false⟩
@[simp] theorem t84_size : t84.size = 1 := rfl
@[simp] theorem t84_bytes : t84.bytes = 8 := rfl
@[simp] theorem t84_z : t84.z = .lit .nilFunc := rfl
@[simp] theorem t84_y : t84.y = .lit .nilFunc := rfl
@[simp] theorem t84_kind : t84.kind = .func := rfl
@[simp] theorem t84_cmp : t84.cmp = false := rfl
/-- func(impl.Find) int -/
def t85 : TI := ⟨1, 8, .nilFunc, .lit .nilFunc, .lit .nilFunc, .func, false⟩
@[simp] theorem t85_size : t85.size = 1 := rfl
@[simp] theorem t85_bytes : t85.bytes = 8 := rfl
@[simp] theorem t85_z : t85.z = .lit .nilFunc := rfl
@[simp] theorem t85_y : t85.y = .lit .nilFunc := rfl
@[simp] theorem t85_kind : t85.kind = .func := rfl
@[simp] theorem t85_cmp : t85.cmp = false := rfl
/-- laws.Thing = loop.example/g03007/laws.Thing -/
def t87 : TI := ⟨5, 40, .agg #[.int .i64 0, .int .i64 0, .int .i64 0, .int .i64 0, .int .i64 0], .agg [.lit (.int .i64 0), .lit (.int .i64 0), .lit (.int .i64 0), .lit (.int .i64 0), .lit (.int .i64 0)], yTThing, .st [(0, 3), (1, 3), (2, 3), (3, 3), (4, 3)], true⟩
@[simp] theorem t87_size : t87.size = 5 := rfl
@[simp] theorem t87_bytes : t87.bytes = 40 := rfl
@[simp] theorem t87_z : t87.z = .agg [.lit (.int .i64 0), .lit (.int .i64 0), .lit (.int .i64 0), .lit (.int .i64 0), .lit (.int .i64 0)] := rfl
@[simp] theorem t87_y : t87.y = yTThing := rfl
@[simp] theorem t87_kind : t87.kind = .st [(0, 3), (1, 3), (2, 3), (3, 3), (4, 3)] := rfl
@[simp] theorem t87_cmp : t87.cmp = true := rfl
/-- struct { Thing laws.Thing; Place int; At int; Finder int } -/
def t88 : TI := ⟨8, 64, .agg #[.int .i64 0, .int .i64 0, .int .i64 0, .int .i64 0, .int .i64 0, .int .i64 0, .int .i64 0, .int .i64 0], .agg [.lit (.int .i64 0), .lit (.int .i64 0), .lit (.int .i64 0), .lit (.int .i64 0), .lit (.int .i64 0), .lit (.int .i64 0), .lit (.int .i64 0), .lit (.int .i64 0)], yTFind, .st [(0, 87), (5, 3), (6, 3), (7, 3)], true⟩
@[simp] theorem t88_size : t88.size = 8 := rfl
@[simp] theorem t88_bytes : t88.bytes = 64 := rfl
@[simp] theorem t88_z : t88.z = .agg [.lit (.int .i64 0), .lit (.int .i64 0), .lit (.int .i64 0), .lit (.int .i64 0), .lit (.int .i64 0), .lit (.int .i64 0), .lit (.int .i64 0), .lit (.int .i64 0)] := rfl
@[simp] theorem t88_y : t88.y = yTFind := rfl
@[simp] theorem t88_kind : t88.kind = .st [(0, 87), (5, 3), (6, 3), (7, 3)] := rfl
@[simp] theorem t88_cmp : t88.cmp = true := rfl
/-- laws.Find = loop.example/g03007/laws.Find -/
def t89 : TI := ⟨8, 64, .agg #[.int .i64 0, .int .i64 0, .int .i64 0, .int .i64 0, .int .i64 0, .int .i64 0, .int .i64 0, .int .i64 0], .agg [.lit (.int .i64 0), .lit (.int .i64 0), .lit (.int .i64 0), .lit (.int .i64 0), .lit (.int .i64 0), .lit (.int .i64 0), .lit (.int .i64 0), .lit (.int .i64 0)], yTFind, .st [(0, 87), (5, 3), (6, 3), (7, 3)], true⟩
@[simp] theorem t89_size : t89.size = 8 := rfl
@[simp] theorem t89_bytes : t89.bytes = 64 := rfl
@[simp] theorem t89_z : t89.z = .agg [.lit (.int .i64 0), .lit (.int .i64 0), .lit (.int .i64 0), .lit (.int .i64 0), .lit (.int .i64 0), .lit (.int .i64 0), .lit (.int .i64 0), .lit (.int .i64 0)] := rfl
@[simp] theorem t89_y : t89.y = yTFind := rfl
@[simp] theorem t89_kind : t89.kind = .st [(0, 87), (5, 3), (6, 3), (7, 3)] := rfl
@[simp] theorem t89_cmp : t89.cmp = true := rfl
/-- []impl.Mark -/
def t90 : TI := ⟨1, 24, .slice none 0 0, .sl true 0 .any [], yLTMark, .slice 136, false⟩
@[simp] theorem t90_size : t90.size = 1 := rfl
@[simp] theorem t90_bytes : t90.bytes = 24 := rfl
@[simp] theorem t90_z : t90.z = .sl true 0 .any [] := rfl
@[simp] theorem t90_y : t90.y = yLTMark := rfl
@[simp] theorem t90_kind : t90.kind = .slice 136 := rfl
@[simp] theorem t90_cmp : t90.cmp = false := rfl
/-- struct { Thing int; Marks []impl.Mark; Salt int } -/
def t91 : TI := ⟨3, 40, .agg #[.int .i64 0, .slice none 0 0, .int .i64 0], .agg [.lit (.int .i64 0), .sl true 0 .any [], .lit (.int .i64 0)], yTSecret, .st [(0, 3), (1, 90), (2, 3)], false⟩
@[simp] theorem t91_size : t91.size = 3 := rfl
@[simp] theorem t91_bytes : t91.bytes = 40 := rfl
@[simp] theorem t91_z : t91.z = .agg [.lit (.int .i64 0), .sl true 0 .any [], .lit (.int .i64 0)] := rfl
@[simp] theorem t91_y : t91.y = yTSecret := rfl
@[simp] theorem t91_kind : t91.kind = .st [(0, 3), (1, 90), (2, 3)] := rfl
@[simp] theorem t91_cmp : t91.cmp = false := rfl
/-- impl.Secret = loop.example/g03007/impl.Secret -/
def t92 : TI := ⟨3, 40, .agg #[.int .i64 0, .slice none 0 0, .int .i64 0], .agg [.lit (.int .i64 0), .sl true 0 .any [], .lit (.int .i64 0)], yTSecret, .st [(0, 3), (1, 90), (2, 3)], false⟩
@[simp] theorem t92_size : t92.size = 3 := rfl
@[simp] theorem t92_bytes : t92.bytes = 40 := rfl
@[simp] theorem t92_z : t92.z = .agg [.lit (.int .i64 0), .sl true 0 .any [], .lit (.int .i64 0)] := rfl
@[simp] theorem t92_y : t92.y = yTSecret := rfl
@[simp] theorem t92_kind : t92.kind = .st [(0, 3), (1, 90), (2, 3)] := rfl
@[simp] theorem t92_cmp : t92.cmp = false := rfl
/-- struct { Id int; Size int; Thing int } -/
def t94 : TI := ⟨3, 24, .agg #[.int .i64 0, .int .i64 0, .int .i64 0], .agg [.lit (.int .i64 0), .lit (.int .i64 0), .lit (.int .i64 0)], yTSlot, .st [(0, 3), (1, 3), (2, 3)], true⟩
@[simp] theorem t94_size : t94.size = 3 := rfl
@[simp] theorem t94_bytes : t94.bytes = 24 := rfl
@[simp] theorem t94_z : t94.z = .agg [.lit (.int .i64 0), .lit (.int .i64 0), .lit (.int .i64 0)] := rfl
@[simp] theorem t94_y : t94.y = yTSlot := rfl
@[simp] theorem t94_kind : t94.kind = .st [(0, 3), (1, 3), (2, 3)] := rfl
@[simp] theorem t94_cmp : t94.cmp = true := rfl
/-- impl.Slot = loop.example/g03007/impl.Slot -/
def t95 : TI := ⟨3, 24, .agg #[.int .i64 0, .int .i64 0, .int .i64 0], .agg [.lit (.int .i64 0), .lit (.int .i64 0), .lit (.int .i64 0)], yTSlot, .st [(0, 3), (1, 3), (2, 3)], true⟩
@[simp] theorem t95_size : t95.size = 3 := rfl
@[simp] theorem t95_bytes : t95.bytes = 24 := rfl
@[simp] theorem t95_z : t95.z = .agg [.lit (.int .i64 0), .lit (.int .i64 0), .lit (.int .i64 0)] := rfl
@[simp] theorem t95_y : t95.y = yTSlot := rfl
@[simp] theorem t95_kind : t95.kind = .st [(0, 3), (1, 3), (2, 3)] := rfl
@[simp] theorem t95_cmp : t95.cmp = true := rfl
/-- laws.Slot = loop.example/g03007/laws.Slot -/
def t97 : TI := ⟨3, 24, .agg #[.int .i64 0, .int .i64 0, .int .i64 0], .agg [.lit (.int .i64 0), .lit (.int .i64 0), .lit (.int .i64 0)], yTSlot, .st [(0, 3), (1, 3), (2, 3)], true⟩
@[simp] theorem t97_size : t97.size = 3 := rfl
@[simp] theorem t97_bytes : t97.bytes = 24 := rfl
@[simp] theorem t97_z : t97.z = .agg [.lit (.int .i64 0), .lit (.int .i64 0), .lit (.int .i64 0)] := rfl
@[simp] theorem t97_y : t97.y = yTSlot := rfl
@[simp] theorem t97_kind : t97.kind = .st [(0, 3), (1, 3), (2, 3)] := rfl
@[simp] theorem t97_cmp : t97.cmp = true := rfl
/-- laws.Claim = loop.example/g03007/laws.Claim -/
def t99 : TI := ⟨5, 40, .agg #[.int .i64 0, .int .i64 0, .int .i64 0, .int .i64 0, .int .i64 0], .agg [.lit (.int .i64 0), .lit (.int .i64 0), .lit (.int .i64 0), .lit (.int .i64 0), .lit (.int .i64 0)], yTClaim, .st [(0, 3), (1, 3), (2, 3), (3, 3), (4, 3)], true⟩
@[simp] theorem t99_size : t99.size = 5 := rfl
@[simp] theorem t99_bytes : t99.bytes = 40 := rfl
@[simp] theorem t99_z : t99.z = .agg [.lit (.int .i64 0), .lit (.int .i64 0), .lit (.int .i64 0), .lit (.int .i64 0), .lit (.int .i64 0)] := rfl
@[simp] theorem t99_y : t99.y = yTClaim := rfl
@[simp] theorem t99_kind : t99.kind = .st [(0, 3), (1, 3), (2, 3), (3, 3), (4, 3)] := rfl
@[simp] theorem t99_cmp : t99.cmp = true := rfl
/-- struct { Claim int; Asked int; Right int; Wrong int } -/
def t100 : TI := ⟨4, 32, .agg #[.int .i64 0, .int .i64 0, .int .i64 0, .int .i64 0], .agg [.lit (.int .i64 0), .lit (.int .i64 0), .lit (.int .i64 0), .lit (.int .i64 0)], yTTrial, .st [(0, 3), (1, 3), (2, 3), (3, 3)], true⟩
@[simp] theorem t100_size : t100.size = 4 := rfl
@[simp] theorem t100_bytes : t100.bytes = 32 := rfl
@[simp] theorem t100_z : t100.z = .agg [.lit (.int .i64 0), .lit (.int .i64 0), .lit (.int .i64 0), .lit (.int .i64 0)] := rfl
@[simp] theorem t100_y : t100.y = yTTrial := rfl
@[simp] theorem t100_kind : t100.kind = .st [(0, 3), (1, 3), (2, 3), (3, 3)] := rfl
@[simp] theorem t100_cmp : t100.cmp = true := rfl
/-- impl.Trial = loop.example/g03007/impl.Trial -/
def t101 : TI := ⟨4, 32, .agg #[.int .i64 0, .int .i64 0, .int .i64 0, .int .i64 0], .agg [.lit (.int .i64 0), .lit (.int .i64 0), .lit (.int .i64 0), .lit (.int .i64 0)], yTTrial, .st [(0, 3), (1, 3), (2, 3), (3, 3)], true⟩
@[simp] theorem t101_size : t101.size = 4 := rfl
@[simp] theorem t101_bytes : t101.bytes = 32 := rfl
@[simp] theorem t101_z : t101.z = .agg [.lit (.int .i64 0), .lit (.int .i64 0), .lit (.int .i64 0), .lit (.int .i64 0)] := rfl
@[simp] theorem t101_y : t101.y = yTTrial := rfl
@[simp] theorem t101_kind : t101.kind = .st [(0, 3), (1, 3), (2, 3), (3, 3)] := rfl
@[simp] theorem t101_cmp : t101.cmp = true := rfl
/-- laws.Trial = loop.example/g03007/laws.Trial -/
def t103 : TI := ⟨4, 32, .agg #[.int .i64 0, .int .i64 0, .int .i64 0, .int .i64 0], .agg [.lit (.int .i64 0), .lit (.int .i64 0), .lit (.int .i64 0), .lit (.int .i64 0)], yTTrial, .st [(0, 3), (1, 3), (2, 3), (3, 3)], true⟩
@[simp] theorem t103_size : t103.size = 4 := rfl
@[simp] theorem t103_bytes : t103.bytes = 32 := rfl
@[simp] theorem t103_z : t103.z = .agg [.lit (.int .i64 0), .lit (.int .i64 0), .lit (.int .i64 0), .lit (.int .i64 0)] := rfl
@[simp] theorem t103_y : t103.y = yTTrial := rfl
@[simp] theorem t103_kind : t103.kind = .st [(0, 3), (1, 3), (2, 3), (3, 3)] := rfl
@[simp] theorem t103_cmp : t103.cmp = true := rfl
/-- laws.Hand = loop.example/g03007/laws.Hand -/
def t105 : TI := ⟨5, 40, .agg #[.int .i64 0, .int .i64 0, .int .i64 0, .int .i64 0, .int .i64 0], .agg [.lit (.int .i64 0), .lit (.int .i64 0), .lit (.int .i64 0), .lit (.int .i64 0), .lit (.int .i64 0)], yTHand, .st [(0, 3), (1, 3), (2, 3), (3, 3), (4, 3)], true⟩
@[simp] theorem t105_size : t105.size = 5 := rfl
@[simp] theorem t105_bytes : t105.bytes = 40 := rfl
@[simp] theorem t105_z : t105.z = .agg [.lit (.int .i64 0), .lit (.int .i64 0), .lit (.int .i64 0), .lit (.int .i64 0), .lit (.int .i64 0)] := rfl
@[simp] theorem t105_y : t105.y = yTHand := rfl
@[simp] theorem t105_kind : t105.kind = .st [(0, 3), (1, 3), (2, 3), (3, 3), (4, 3)] := rfl
@[simp] theorem t105_cmp : t105.cmp = true := rfl
/-- struct { From int; To int; Cents int; At int } -/
def t106 : TI := ⟨4, 32, .agg #[.int .i64 0, .int .i64 0, .int .i64 0, .int .i64 0], .agg [.lit (.int .i64 0), .lit (.int .i64 0), .lit (.int .i64 0), .lit (.int .i64 0)], yTEntry, .st [(0, 3), (1, 3), (2, 3), (3, 3)], true⟩
@[simp] theorem t106_size : t106.size = 4 := rfl
@[simp] theorem t106_bytes : t106.bytes = 32 := rfl
@[simp] theorem t106_z : t106.z = .agg [.lit (.int .i64 0), .lit (.int .i64 0), .lit (.int .i64 0), .lit (.int .i64 0)] := rfl
@[simp] theorem t106_y : t106.y = yTEntry := rfl
@[simp] theorem t106_kind : t106.kind = .st [(0, 3), (1, 3), (2, 3), (3, 3)] := rfl
@[simp] theorem t106_cmp : t106.cmp = true := rfl
/-- impl.Entry = loop.example/g03007/impl.Entry -/
def t107 : TI := ⟨4, 32, .agg #[.int .i64 0, .int .i64 0, .int .i64 0, .int .i64 0], .agg [.lit (.int .i64 0), .lit (.int .i64 0), .lit (.int .i64 0), .lit (.int .i64 0)], yTEntry, .st [(0, 3), (1, 3), (2, 3), (3, 3)], true⟩
@[simp] theorem t107_size : t107.size = 4 := rfl
@[simp] theorem t107_bytes : t107.bytes = 32 := rfl
@[simp] theorem t107_z : t107.z = .agg [.lit (.int .i64 0), .lit (.int .i64 0), .lit (.int .i64 0), .lit (.int .i64 0)] := rfl
@[simp] theorem t107_y : t107.y = yTEntry := rfl
@[simp] theorem t107_kind : t107.kind = .st [(0, 3), (1, 3), (2, 3), (3, 3)] := rfl
@[simp] theorem t107_cmp : t107.cmp = true := rfl
/-- laws.Entry = loop.example/g03007/laws.Entry -/
def t109 : TI := ⟨4, 32, .agg #[.int .i64 0, .int .i64 0, .int .i64 0, .int .i64 0], .agg [.lit (.int .i64 0), .lit (.int .i64 0), .lit (.int .i64 0), .lit (.int .i64 0)], yTEntry, .st [(0, 3), (1, 3), (2, 3), (3, 3)], true⟩
@[simp] theorem t109_size : t109.size = 4 := rfl
@[simp] theorem t109_bytes : t109.bytes = 32 := rfl
@[simp] theorem t109_z : t109.z = .agg [.lit (.int .i64 0), .lit (.int .i64 0), .lit (.int .i64 0), .lit (.int .i64 0)] := rfl
@[simp] theorem t109_y : t109.y = yTEntry := rfl
@[simp] theorem t109_kind : t109.kind = .st [(0, 3), (1, 3), (2, 3), (3, 3)] := rfl
@[simp] theorem t109_cmp : t109.cmp = true := rfl
/-- *impl.House -/
def t111 : TI := ⟨1, 8, .pointer none, .lit (.pointer none), .lit (.pointer none), .ptr 41, false⟩
@[simp] theorem t111_size : t111.size = 1 := rfl
@[simp] theorem t111_bytes : t111.bytes = 8 := rfl
@[simp] theorem t111_z : t111.z = .lit (.pointer none) := rfl
@[simp] theorem t111_y : t111.y = .lit (.pointer none) := rfl
@[simp] theorem t111_kind : t111.kind = .ptr 41 := rfl
@[simp] theorem t111_cmp : t111.cmp = false := rfl
/-- [4]func(impl.Find) bool -/
def t128 : TI := ⟨4, 32, .agg #[.nilFunc, .nilFunc, .nilFunc, .nilFunc], .agg [.lit .nilFunc, .lit .nilFunc, .lit .nilFunc, .lit .nilFunc], .any, .arr 4 84, false⟩
@[simp] theorem t128_size : t128.size = 4 := rfl
@[simp] theorem t128_bytes : t128.bytes = 32 := rfl
@[simp] theorem t128_z : t128.z = .agg [.lit .nilFunc, .lit .nilFunc, .lit .nilFunc, .lit .nilFunc] := rfl
@[simp] theorem t128_y : t128.y = .any := rfl
@[simp] theorem t128_kind : t128.kind = .arr 4 84 := rfl
@[simp] theorem t128_cmp : t128.cmp = false := rfl
/-- struct { items []impl.Find; numberOf func(impl.Find) int } -/
def t130 : TI := ⟨2, 32, .agg #[.slice none 0 0, .nilFunc], .agg [.sl true 0 .any [], .lit .nilFunc], .any, .st [(0, 33), (1, 85)], false⟩
@[simp] theorem t130_size : t130.size = 2 := rfl
@[simp] theorem t130_bytes : t130.bytes = 32 := rfl
@[simp] theorem t130_z : t130.z = .agg [.sl true 0 .any [], .lit .nilFunc] := rfl
@[simp] theorem t130_y : t130.y = .any := rfl
@[simp] theorem t130_kind : t130.kind = .st [(0, 33), (1, 85)] := rfl
@[simp] theorem t130_cmp : t130.cmp = false := rfl
/-- impl.sortedList[loop.example/g03007/impl.Find] = loop.example/g03007/impl.sortedList[loop.example/g03007/impl.Find] -/
def t131 : TI := ⟨2, 32, .agg #[.slice none 0 0, .nilFunc], .agg [.sl true 0 .any [], .lit .nilFunc], .any, .st [(0, 33), (1, 85)], false⟩
@[simp] theorem t131_size : t131.size = 2 := rfl
@[simp] theorem t131_bytes : t131.bytes = 32 := rfl
@[simp] theorem t131_z : t131.z = .agg [.sl true 0 .any [], .lit .nilFunc] := rfl
@[simp] theorem t131_y : t131.y = .any := rfl
@[simp] theorem t131_kind : t131.kind = .st [(0, 33), (1, 85)] := rfl
@[simp] theorem t131_cmp : t131.cmp = false := rfl
/-- struct { Question int; Answer int } -/
def t135 : TI := ⟨2, 16, .agg #[.int .i64 0, .int .i64 0], .agg [.lit (.int .i64 0), .lit (.int .i64 0)], yTMark, .st [(0, 3), (1, 3)], true⟩
@[simp] theorem t135_size : t135.size = 2 := rfl
@[simp] theorem t135_bytes : t135.bytes = 16 := rfl
@[simp] theorem t135_z : t135.z = .agg [.lit (.int .i64 0), .lit (.int .i64 0)] := rfl
@[simp] theorem t135_y : t135.y = yTMark := rfl
@[simp] theorem t135_kind : t135.kind = .st [(0, 3), (1, 3)] := rfl
@[simp] theorem t135_cmp : t135.cmp = true := rfl
/-- impl.Mark = loop.example/g03007/impl.Mark -/
def t136 : TI := ⟨2, 16, .agg #[.int .i64 0, .int .i64 0], .agg [.lit (.int .i64 0), .lit (.int .i64 0)], yTMark, .st [(0, 3), (1, 3)], true⟩
@[simp] theorem t136_size : t136.size = 2 := rfl
@[simp] theorem t136_bytes : t136.bytes = 16 := rfl
@[simp] theorem t136_z : t136.z = .agg [.lit (.int .i64 0), .lit (.int .i64 0)] := rfl
@[simp] theorem t136_y : t136.y = yTMark := rfl
@[simp] theorem t136_kind : t136.kind = .st [(0, 3), (1, 3)] := rfl
@[simp] theorem t136_cmp : t136.cmp = true := rfl
/-- laws.Mark = loop.example/g03007/laws.Mark -/
def t138 : TI := ⟨2, 16, .agg #[.int .i64 0, .int .i64 0], .agg [.lit (.int .i64 0), .lit (.int .i64 0)], yTMark, .st [(0, 3), (1, 3)], true⟩
@[simp] theorem t138_size : t138.size = 2 := rfl
@[simp] theorem t138_bytes : t138.bytes = 16 := rfl
@[simp] theorem t138_z : t138.z = .agg [.lit (.int .i64 0), .lit (.int .i64 0)] := rfl
@[simp] theorem t138_y : t138.y = yTMark := rfl
@[simp] theorem t138_kind : t138.kind = .st [(0, 3), (1, 3)] := rfl
@[simp] theorem t138_cmp : t138.cmp = true := rfl
/-- [9]int -/
def t139 : TI := ⟨9, 72, .agg #[.int .i64 0, .int .i64 0, .int .i64 0, .int .i64 0, .int .i64 0, .int .i64 0, .int .i64 0, .int .i64 0, .int .i64 0], .agg [.lit (.int .i64 0), .lit (.int .i64 0), .lit (.int .i64 0), .lit (.int .i64 0), .lit (.int .i64 0), .lit (.int .i64 0), .lit (.int .i64 0), .lit (.int .i64 0), .lit (.int .i64 0)], .any, .arr 9 3, false⟩
@[simp] theorem t139_size : t139.size = 9 := rfl
@[simp] theorem t139_bytes : t139.bytes = 72 := rfl
@[simp] theorem t139_z : t139.z = .agg [.lit (.int .i64 0), .lit (.int .i64 0), .lit (.int .i64 0), .lit (.int .i64 0), .lit (.int .i64 0), .lit (.int .i64 0), .lit (.int .i64 0), .lit (.int .i64 0), .lit (.int .i64 0)] := rfl
@[simp] theorem t139_y : t139.y = .any := rfl
@[simp] theorem t139_kind : t139.kind = .arr 9 3 := rfl
@[simp] theorem t139_cmp : t139.cmp = false := rfl
/-- []int -/
def t147 : TI := ⟨1, 24, .slice none 0 0, .sl true 0 .any [], yLI, .slice 3, false⟩
@[simp] theorem t147_size : t147.size = 1 := rfl
@[simp] theorem t147_bytes : t147.bytes = 24 := rfl
@[simp] theorem t147_z : t147.z = .sl true 0 .any [] := rfl
@[simp] theorem t147_y : t147.y = yLI := rfl
@[simp] theorem t147_kind : t147.kind = .slice 3 := rfl
@[simp] theorem t147_cmp : t147.cmp = false := rfl
/-- uint32 -/
def t156 : TI := ⟨1, 4, .int .u32 0, .lit (.int .u32 0), .lit (.int .u32 0), .int .u32, false⟩
@[simp] theorem t156_size : t156.size = 1 := rfl
@[simp] theorem t156_bytes : t156.bytes = 4 := rfl
@[simp] theorem t156_z : t156.z = .lit (.int .u32 0) := rfl
@[simp] theorem t156_y : t156.y = .lit (.int .u32 0) := rfl
@[simp] theorem t156_kind : t156.kind = .int .u32 := rfl
@[simp] theorem t156_cmp : t156.cmp = false := rfl
/-- func(unsafe.Pointer, unsafe.Pointer) bool -/
def t159 : TI := ⟨1, 8, .nilFunc, .lit .nilFunc, .lit .nilFunc, .func, false⟩
@[simp] theorem t159_size : t159.size = 1 := rfl
@[simp] theorem t159_bytes : t159.bytes = 8 := rfl
@[simp] theorem t159_z : t159.z = .lit .nilFunc := rfl
@[simp] theorem t159_y : t159.y = .lit .nilFunc := rfl
@[simp] theorem t159_kind : t159.kind = .func := rfl
@[simp] theorem t159_cmp : t159.cmp = false := rfl
/-- *uint8 -/
def t160 : TI := ⟨1, 8, .pointer none, .lit (.pointer none), .lit (.pointer none), .ptr 5, false⟩
@[simp] theorem t160_size : t160.size = 1 := rfl
@[simp] theorem t160_bytes : t160.bytes = 8 := rfl
@[simp] theorem t160_z : t160.z = .lit (.pointer none) := rfl
@[simp] theorem t160_y : t160.y = .lit (.pointer none) := rfl
@[simp] theorem t160_kind : t160.kind = .ptr 5 := rfl
@[simp] theorem t160_cmp : t160.cmp = false := rfl
/-- struct { Size_ uintptr; PtrBytes uintptr; Hash uint32; TFlag abi.TFlag; Align_ uint8; FieldAlign_ uint8; Kind_ abi.Kind; Equal func(unsafe.Pointer, unsafe.Pointer) bool; GCData *uint8; Str abi.NameOff; PtrToThis abi.TypeOff } -/
def t163 : TI := ⟨11, 48, .agg #[.int .u64 0, .int .u64 0, .int .u32 0, .int .u8 0, .int .u8 0, .int .u8 0, .int .u8 0, .nilFunc, .pointer none, .int .i32 0, .int .i32 0], .agg [.lit (.int .u64 0), .lit (.int .u64 0), .lit (.int .u32 0), .lit (.int .u8 0), .lit (.int .u8 0), .lit (.int .u8 0), .lit (.int .u8 0), .lit .nilFunc, .lit (.pointer none), .lit (.int .i32 0), .lit (.int .i32 0)], .any, .st [(0, 12), (1, 12), (2, 156), (3, 157), (4, 5), (5, 5), (6, 158), (7, 159), (8, 160), (9, 161), (10, 162)], false⟩
@[simp] theorem t163_size : t163.size = 11 := rfl
@[simp] theorem t163_bytes : t163.bytes = 48 := rfl
@[simp] theorem t163_z : t163.z = .agg [.lit (.int .u64 0), .lit (.int .u64 0), .lit (.int .u32 0), .lit (.int .u8 0), .lit (.int .u8 0), .lit (.int .u8 0), .lit (.int .u8 0), .lit .nilFunc, .lit (.pointer none), .lit (.int .i32 0), .lit (.int .i32 0)] := rfl
@[simp] theorem t163_y : t163.y = .any := rfl
@[simp] theorem t163_kind : t163.kind = .st [(0, 12), (1, 12), (2, 156), (3, 157), (4, 5), (5, 5), (6, 158), (7, 159), (8, 160), (9, 161), (10, 162)] := rfl
@[simp] theorem t163_cmp : t163.cmp = false := rfl
/-- struct { kind int; colour int; size int; place int } -/
def t169 : TI := ⟨4, 32, .agg #[.int .i64 0, .int .i64 0, .int .i64 0, .int .i64 0], .agg [.lit (.int .i64 0), .lit (.int .i64 0), .lit (.int .i64 0), .lit (.int .i64 0)], yTLikeness, .st [(0, 3), (1, 3), (2, 3), (3, 3)], true⟩
@[simp] theorem t169_size : t169.size = 4 := rfl
@[simp] theorem t169_bytes : t169.bytes = 32 := rfl
@[simp] theorem t169_z : t169.z = .agg [.lit (.int .i64 0), .lit (.int .i64 0), .lit (.int .i64 0), .lit (.int .i64 0)] := rfl
@[simp] theorem t169_y : t169.y = yTLikeness := rfl
@[simp] theorem t169_kind : t169.kind = .st [(0, 3), (1, 3), (2, 3), (3, 3)] := rfl
@[simp] theorem t169_cmp : t169.cmp = true := rfl
/-- impl.likeness = loop.example/g03007/impl.likeness -/
def t170 : TI := ⟨4, 32, .agg #[.int .i64 0, .int .i64 0, .int .i64 0, .int .i64 0], .agg [.lit (.int .i64 0), .lit (.int .i64 0), .lit (.int .i64 0), .lit (.int .i64 0)], yTLikeness, .st [(0, 3), (1, 3), (2, 3), (3, 3)], true⟩
@[simp] theorem t170_size : t170.size = 4 := rfl
@[simp] theorem t170_bytes : t170.bytes = 32 := rfl
@[simp] theorem t170_z : t170.z = .agg [.lit (.int .i64 0), .lit (.int .i64 0), .lit (.int .i64 0), .lit (.int .i64 0)] := rfl
@[simp] theorem t170_y : t170.y = yTLikeness := rfl
@[simp] theorem t170_kind : t170.kind = .st [(0, 3), (1, 3), (2, 3), (3, 3)] := rfl
@[simp] theorem t170_cmp : t170.cmp = true := rfl
theorem t2_ok : t2.ok Tryd.prog 2 := ⟨by kernel_rfl, by kernel_rfl, by kernel_rfl, Tryd.underlying2, (fun h => by cases h), ⟨rfl, rfl, rfl, rfl, fun F h β => by simp [t2, Rep, Reps]⟩⟩
theorem t3_ok : t3.ok Tryd.prog 3 := ⟨by kernel_rfl, by kernel_rfl, by kernel_rfl, Tryd.underlying3, (fun h => by cases h), ⟨rfl, rfl, rfl, rfl, fun F h β => by simp [t3, Rep, Reps]⟩⟩
theorem t4_ok : t4.ok Tryd.prog 4 := ⟨by kernel_rfl, by kernel_rfl, by kernel_rfl, Tryd.underlying4, (fun h => by cases h), ⟨rfl, rfl, rfl, rfl, fun F h β => by simp [t4, Rep, Reps]⟩⟩
theorem t5_ok : t5.ok Tryd.prog 5 := ⟨by kernel_rfl, by kernel_rfl, by kernel_rfl, Tryd.underlying5, (fun h => by cases h), ⟨rfl, rfl, rfl, rfl, fun F h β => by simp [t5, Rep, Reps]⟩⟩
theorem t9_ok : t9.ok Tryd.prog 9 := ⟨by kernel_rfl, by kernel_rfl, by kernel_rfl, Tryd.underlying9, (fun h => by cases h), ⟨rfl, rfl, rfl, rfl, fun F h β => by simp [t9, Rep, Reps]⟩⟩
theorem t12_ok : t12.ok Tryd.prog 12 := ⟨by kernel_rfl, by kernel_rfl, by kernel_rfl, Tryd.underlying12, (fun h => by cases h), ⟨rfl, rfl, rfl, rfl, fun F h β => by simp [t12, Rep, Reps]⟩⟩
theorem t20_ok : t20.ok Tryd.prog 20 := ⟨by kernel_rfl, by kernel_rfl, by kernel_rfl, ⟨_, Tryd.underlying20⟩, (fun h => by cases h), ⟨rfl, rfl, rfl, rfl, fun F h β => by simp [t20, Rep, Reps]⟩⟩
theorem t21_ok : t21.ok Tryd.prog 21 := ⟨by kernel_rfl, by kernel_rfl, by kernel_rfl, Tryd.underlying21, (fun h => by cases h), ⟨rfl, rfl, rfl, rfl, fun F h β => by simp [t21, Rep, Reps]⟩⟩
theorem t22_ok : t22.ok Tryd.prog 22 := ⟨by kernel_rfl, by kernel_rfl, by kernel_rfl, Tryd.underlying22, (fun h => by cases h), ⟨rfl, rfl, rfl, rfl, fun F h β => by simp [t22, Rep, Reps]⟩⟩
theorem t23_ok : t23.ok Tryd.prog 23 := ⟨by kernel_rfl, by kernel_rfl, by kernel_rfl, Tryd.underlying23, (fun h => by cases h), ⟨rfl, rfl, rfl, rfl, fun F h β => by simp [t23, Rep, Reps]⟩⟩
theorem t24_ok : t24.ok Tryd.prog 24 := ⟨by kernel_rfl, by kernel_rfl, by kernel_rfl, Tryd.underlying24, (fun h => by cases h), ⟨rfl, rfl, rfl, rfl, fun F h β => by simp [t24, Rep, Reps]⟩⟩
theorem t25_ok : t25.ok Tryd.prog 25 := ⟨by kernel_rfl, by kernel_rfl, by kernel_rfl, Tryd.underlying25, (fun h => by cases h), ⟨rfl, rfl, rfl, rfl, fun F h β => by simp [t25, Rep, Reps]⟩⟩
theorem t26_ok : t26.ok Tryd.prog 26 := ⟨by kernel_rfl, by kernel_rfl, by kernel_rfl, Tryd.underlying26, (fun h => by cases h), ⟨rfl, rfl, rfl, rfl, fun F h β => by simp [t26, Rep, Reps]⟩⟩
theorem t27_ok : t27.ok Tryd.prog 27 := ⟨by kernel_rfl, by kernel_rfl, by kernel_rfl, Tryd.underlying27, (fun h => by cases h), ⟨rfl, rfl, rfl, rfl, fun F h β => by simp [t27, Rep, Reps]⟩⟩
theorem t28_ok : t28.ok Tryd.prog 28 := ⟨by kernel_rfl, by kernel_rfl, by kernel_rfl, Tryd.underlying28, (fun h => by cases h), ⟨rfl, rfl, rfl, rfl, fun F h β => by simp [t28, Rep, Reps]⟩⟩
theorem t29_ok : t29.ok Tryd.prog 29 := ⟨by kernel_rfl, by kernel_rfl, by kernel_rfl, ⟨_, Tryd.underlying29, rfl⟩, (fun h => by cases h), ⟨rfl, rfl, rfl, rfl, fun F h β => by
    show Rep F h β t29.z t29.zero
    simp only [t29, Rep, Reps]
    exact ⟨_, rfl, _, _, rfl, (by trivial), _, _, rfl, (.inl ⟨by trivial, none, 0, by trivial, by intros; rfl⟩), _, _, rfl, (.inl ⟨by trivial, none, 0, by trivial, by intros; rfl⟩), _, _, rfl, (.inl ⟨by trivial, none, 0, by trivial, by intros; rfl⟩), _, _, rfl, (.inl ⟨by trivial, none, 0, by trivial, by intros; rfl⟩), _, _, rfl, (.inl ⟨by trivial, none, 0, by trivial, by intros; rfl⟩), _, _, rfl, (.inl ⟨by trivial, none, 0, by trivial, by intros; rfl⟩), _, _, rfl, (.inl ⟨by trivial, none, 0, by trivial, by intros; rfl⟩), _, _, rfl, (by trivial), rfl⟩⟩⟩
theorem t30_ok : t30.ok Tryd.prog 30 := ⟨by kernel_rfl, by kernel_rfl, by kernel_rfl, ⟨_, Tryd.underlying30, rfl⟩, (fun h => by cases h), ⟨rfl, rfl, rfl, rfl, fun F h β => by
    show Rep F h β t30.z t30.zero
    simp only [t30, Rep, Reps]
    exact ⟨_, rfl, _, _, rfl, (by trivial), _, _, rfl, (.inl ⟨by trivial, none, 0, by trivial, by intros; rfl⟩), _, _, rfl, (.inl ⟨by trivial, none, 0, by trivial, by intros; rfl⟩), _, _, rfl, (.inl ⟨by trivial, none, 0, by trivial, by intros; rfl⟩), _, _, rfl, (.inl ⟨by trivial, none, 0, by trivial, by intros; rfl⟩), _, _, rfl, (.inl ⟨by trivial, none, 0, by trivial, by intros; rfl⟩), _, _, rfl, (.inl ⟨by trivial, none, 0, by trivial, by intros; rfl⟩), _, _, rfl, (.inl ⟨by trivial, none, 0, by trivial, by intros; rfl⟩), _, _, rfl, (by trivial), rfl⟩⟩⟩
theorem t33_ok : t33.ok Tryd.prog 33 := ⟨by kernel_rfl, by kernel_rfl, by kernel_rfl, Tryd.underlying33, (fun h => by cases h), ⟨rfl, rfl, rfl, rfl, fun F h β => by simp [t33, Rep, Reps]⟩⟩
theorem t34_ok : t34.ok Tryd.prog 34 := ⟨by kernel_rfl, by kernel_rfl, by kernel_rfl, Tryd.underlying34, (fun h => by cases h), ⟨rfl, rfl, rfl, rfl, fun F h β => by simp [t34, Rep, Reps]⟩⟩
theorem t35_ok : t35.ok Tryd.prog 35 := ⟨by kernel_rfl, by kernel_rfl, by kernel_rfl, Tryd.underlying35, (fun h => by cases h), ⟨rfl, rfl, rfl, rfl, fun F h β => by simp [t35, Rep, Reps]⟩⟩
theorem t36_ok : t36.ok Tryd.prog 36 := ⟨by kernel_rfl, by kernel_rfl, by kernel_rfl, Tryd.underlying36, (fun h => by cases h), ⟨rfl, rfl, rfl, rfl, fun F h β => by simp [t36, Rep, Reps]⟩⟩
theorem t37_ok : t37.ok Tryd.prog 37 := ⟨by kernel_rfl, by kernel_rfl, by kernel_rfl, Tryd.underlying37, (fun h => by cases h), ⟨rfl, rfl, rfl, rfl, fun F h β => by simp [t37, Rep, Reps]⟩⟩
theorem t38_ok : t38.ok Tryd.prog 38 := ⟨by kernel_rfl, by kernel_rfl, by kernel_rfl, Tryd.underlying38, (fun h => by cases h), ⟨rfl, rfl, rfl, rfl, fun F h β => by simp [t38, Rep, Reps]⟩⟩
theorem t39_ok : t39.ok Tryd.prog 39 := ⟨by kernel_rfl, by kernel_rfl, by kernel_rfl, Tryd.underlying39, (fun h => by cases h), ⟨rfl, rfl, rfl, rfl, fun F h β => by simp [t39, Rep, Reps]⟩⟩
theorem t40_ok : t40.ok Tryd.prog 40 := ⟨by kernel_rfl, by kernel_rfl, by kernel_rfl, ⟨_, Tryd.underlying40, rfl⟩, (fun h => by cases h), ⟨rfl, rfl, rfl, rfl, fun F h β => by
    show Rep F h β t40.z t40.zero
    simp only [t40, Rep, Reps]
    exact ⟨_, rfl, _, _, rfl, (by trivial), _, _, rfl, (.inl ⟨by trivial, none, 0, by trivial, by intros; rfl⟩), _, _, rfl, (.inl ⟨by trivial, none, 0, by trivial, by intros; rfl⟩), _, _, rfl, (.inl ⟨by trivial, none, 0, by trivial, by intros; rfl⟩), _, _, rfl, (.inl ⟨by trivial, none, 0, by trivial, by intros; rfl⟩), _, _, rfl, (.inl ⟨by trivial, none, 0, by trivial, by intros; rfl⟩), _, _, rfl, (.inl ⟨by trivial, none, 0, by trivial, by intros; rfl⟩), _, _, rfl, (.inl ⟨by trivial, none, 0, by trivial, by intros; rfl⟩), _, _, rfl, (by trivial), rfl⟩⟩⟩
theorem t41_ok : t41.ok Tryd.prog 41 := ⟨by kernel_rfl, by kernel_rfl, by kernel_rfl, ⟨_, Tryd.underlying41, rfl⟩, (fun h => by cases h), ⟨rfl, rfl, rfl, rfl, fun F h β => by
    show Rep F h β t41.z t41.zero
    simp only [t41, Rep, Reps]
    exact ⟨_, rfl, _, _, rfl, (by trivial), _, _, rfl, (.inl ⟨by trivial, none, 0, by trivial, by intros; rfl⟩), _, _, rfl, (.inl ⟨by trivial, none, 0, by trivial, by intros; rfl⟩), _, _, rfl, (.inl ⟨by trivial, none, 0, by trivial, by intros; rfl⟩), _, _, rfl, (.inl ⟨by trivial, none, 0, by trivial, by intros; rfl⟩), _, _, rfl, (.inl ⟨by trivial, none, 0, by trivial, by intros; rfl⟩), _, _, rfl, (.inl ⟨by trivial, none, 0, by trivial, by intros; rfl⟩), _, _, rfl, (.inl ⟨by trivial, none, 0, by trivial, by intros; rfl⟩), _, _, rfl, (by trivial), rfl⟩⟩⟩
theorem t52_ok : t52.ok Tryd.prog 52 := ⟨by kernel_rfl, by kernel_rfl, by kernel_rfl, ⟨_, Tryd.underlying52, rfl⟩, (fun _ => eqInts_of (by kernel_rfl) (by kernel_rfl) (by kernel_rfl)), ⟨rfl, rfl, rfl, rfl, fun F h β => by simp [t52, Rep, Reps]⟩⟩
theorem t53_ok : t53.ok Tryd.prog 53 := ⟨by kernel_rfl, by kernel_rfl, by kernel_rfl, ⟨_, Tryd.underlying53, rfl⟩, (fun _ => eqInts_of (by kernel_rfl) (by kernel_rfl) (by kernel_rfl)), ⟨rfl, rfl, rfl, rfl, fun F h β => by simp [t53, Rep, Reps]⟩⟩
theorem t57_ok : t57.ok Tryd.prog 57 := ⟨by kernel_rfl, by kernel_rfl, by kernel_rfl, ⟨_, Tryd.underlying57, rfl⟩, (fun _ => eqInts_of (by kernel_rfl) (by kernel_rfl) (by kernel_rfl)), ⟨rfl, rfl, rfl, rfl, fun F h β => by simp [t57, Rep, Reps]⟩⟩
theorem t58_ok : t58.ok Tryd.prog 58 := ⟨by kernel_rfl, by kernel_rfl, by kernel_rfl, ⟨_, Tryd.underlying58, rfl⟩, (fun _ => eqInts_of (by kernel_rfl) (by kernel_rfl) (by kernel_rfl)), ⟨rfl, rfl, rfl, rfl, fun F h β => by simp [t58, Rep, Reps]⟩⟩
theorem t59_ok : t59.ok Tryd.prog 59 := ⟨by kernel_rfl, by kernel_rfl, by kernel_rfl, ⟨_, Tryd.underlying59, rfl⟩, (fun _ => eqInts_of (by kernel_rfl) (by kernel_rfl) (by kernel_rfl)), ⟨rfl, rfl, rfl, rfl, fun F h β => by simp [t59, Rep, Reps]⟩⟩
theorem t60_ok : t60.ok Tryd.prog 60 := ⟨by kernel_rfl, by kernel_rfl, by kernel_rfl, ⟨_, Tryd.underlying60, rfl⟩, (fun _ => eqInts_of (by kernel_rfl) (by kernel_rfl) (by kernel_rfl)), ⟨rfl, rfl, rfl, rfl, fun F h β => by simp [t60, Rep, Reps]⟩⟩
theorem t79_ok : t79.ok Tryd.prog 79 := ⟨by kernel_rfl, by kernel_rfl, by kernel_rfl, Tryd.underlying79, (fun h => by cases h), ⟨rfl, rfl, rfl, rfl, fun F h β => by simp [t79, Rep, Reps]⟩⟩
theorem t80_ok : t80.ok Tryd.prog 80 := ⟨by kernel_rfl, by kernel_rfl, by kernel_rfl, ⟨_, Tryd.underlying80, rfl⟩, (fun h => by cases h), ⟨rfl, rfl, rfl, rfl, fun F h β => by
    show Rep F h β t80.z t80.zero
    simp only [t80, Rep, Reps]
    exact ⟨_, rfl, _, _, rfl, (by trivial), _, _, rfl, (.inl ⟨by trivial, none, 0, by trivial, by intros; rfl⟩), _, _, rfl, (by trivial), rfl⟩⟩⟩
theorem t81_ok : t81.ok Tryd.prog 81 := ⟨by kernel_rfl, by kernel_rfl, by kernel_rfl, ⟨_, Tryd.underlying81, rfl⟩, (fun h => by cases h), ⟨rfl, rfl, rfl, rfl, fun F h β => by
    show Rep F h β t81.z t81.zero
    simp only [t81, Rep, Reps]
    exact ⟨_, rfl, _, _, rfl, (by trivial), _, _, rfl, (.inl ⟨by trivial, none, 0, by trivial, by intros; rfl⟩), _, _, rfl, (by trivial), rfl⟩⟩⟩
theorem t82_ok : t82.ok Tryd.prog 82 := ⟨by kernel_rfl, by kernel_rfl, by kernel_rfl, ⟨_, Tryd.underlying82, rfl⟩, (fun _ => eqInts_of (by kernel_rfl) (by kernel_rfl) (by kernel_rfl)), ⟨rfl, rfl, rfl, rfl, fun F h β => by simp [t82, Rep, Reps]⟩⟩
theorem t83_ok : t83.ok Tryd.prog 83 := ⟨by kernel_rfl, by kernel_rfl, by kernel_rfl, ⟨_, Tryd.underlying83, rfl⟩, (fun _ => eqInts_of (by kernel_rfl) (by kernel_rfl) (by kernel_rfl)), ⟨rfl, rfl, rfl, rfl, fun F h β => by simp [t83, Rep, Reps]⟩⟩
theorem t84_ok : t84.ok Tryd.prog 84 := ⟨by kernel_rfl, by kernel_rfl, by kernel_rfl, ⟨_, _, _, Tryd.underlying84⟩, (fun h => by cases h), ⟨rfl, rfl, rfl, rfl, fun F h β => by simp [t84, Rep, Reps]⟩⟩
theorem t85_ok : t85.ok Tryd.prog 85 := ⟨by kernel_rfl, by kernel_rfl, by kernel_rfl, ⟨_, _, _, Tryd.underlying85⟩, (fun h => by cases h), ⟨rfl, rfl, rfl, rfl, fun F h β => by simp [t85, Rep, Reps]⟩⟩
theorem t87_ok : t87.ok Tryd.prog 87 := ⟨by kernel_rfl, by kernel_rfl, by kernel_rfl, ⟨_, Tryd.underlying87, rfl⟩, (fun _ => eqInts_of (by kernel_rfl) (by kernel_rfl) (by kernel_rfl)), ⟨rfl, rfl, rfl, rfl, fun F h β => by simp [t87, Rep, Reps]⟩⟩
theorem t88_ok : t88.ok Tryd.prog 88 := ⟨by kernel_rfl, by kernel_rfl, by kernel_rfl, ⟨_, Tryd.underlying88, rfl⟩, (fun _ => eqInts_of (by kernel_rfl) (by kernel_rfl) (by kernel_rfl)), ⟨rfl, rfl, rfl, rfl, fun F h β => by simp [t88, Rep, Reps]⟩⟩
theorem t89_ok : t89.ok Tryd.prog 89 := ⟨by kernel_rfl, by kernel_rfl, by kernel_rfl, ⟨_, Tryd.underlying89, rfl⟩, (fun _ => eqInts_of (by kernel_rfl) (by kernel_rfl) (by kernel_rfl)), ⟨rfl, rfl, rfl, rfl, fun F h β => by simp [t89, Rep, Reps]⟩⟩
theorem t90_ok : t90.ok Tryd.prog 90 := ⟨by kernel_rfl, by kernel_rfl, by kernel_rfl, Tryd.underlying90, (fun h => by cases h), ⟨rfl, rfl, rfl, rfl, fun F h β => by simp [t90, Rep, Reps]⟩⟩
theorem t91_ok : t91.ok Tryd.prog 91 := ⟨by kernel_rfl, by kernel_rfl, by kernel_rfl, ⟨_, Tryd.underlying91, rfl⟩, (fun h => by cases h), ⟨rfl, rfl, rfl, rfl, fun F h β => by
    show Rep F h β t91.z t91.zero
    simp only [t91, Rep, Reps]
    exact ⟨_, rfl, _, _, rfl, (by trivial), _, _, rfl, (.inl ⟨by trivial, none, 0, by trivial, by intros; rfl⟩), _, _, rfl, (by trivial), rfl⟩⟩⟩
theorem t92_ok : t92.ok Tryd.prog 92 := ⟨by kernel_rfl, by kernel_rfl, by kernel_rfl, ⟨_, Tryd.underlying92, rfl⟩, (fun h => by cases h), ⟨rfl, rfl, rfl, rfl, fun F h β => by
    show Rep F h β t92.z t92.zero
    simp only [t92, Rep, Reps]
    exact ⟨_, rfl, _, _, rfl, (by trivial), _, _, rfl, (.inl ⟨by trivial, none, 0, by trivial, by intros; rfl⟩), _, _, rfl, (by trivial), rfl⟩⟩⟩
theorem t94_ok : t94.ok Tryd.prog 94 := ⟨by kernel_rfl, by kernel_rfl, by kernel_rfl, ⟨_, Tryd.underlying94, rfl⟩, (fun _ => eqInts_of (by kernel_rfl) (by kernel_rfl) (by kernel_rfl)), ⟨rfl, rfl, rfl, rfl, fun F h β => by simp [t94, Rep, Reps]⟩⟩
theorem t95_ok : t95.ok Tryd.prog 95 := ⟨by kernel_rfl, by kernel_rfl, by kernel_rfl, ⟨_, Tryd.underlying95, rfl⟩, (fun _ => eqInts_of (by kernel_rfl) (by kernel_rfl) (by kernel_rfl)), ⟨rfl, rfl, rfl, rfl, fun F h β => by simp [t95, Rep, Reps]⟩⟩
theorem t97_ok : t97.ok Tryd.prog 97 := ⟨by kernel_rfl, by kernel_rfl, by kernel_rfl, ⟨_, Tryd.underlying97, rfl⟩, (fun _ => eqInts_of (by kernel_rfl) (by kernel_rfl) (by kernel_rfl)), ⟨rfl, rfl, rfl, rfl, fun F h β => by simp [t97, Rep, Reps]⟩⟩
theorem t99_ok : t99.ok Tryd.prog 99 := ⟨by kernel_rfl, by kernel_rfl, by kernel_rfl, ⟨_, Tryd.underlying99, rfl⟩, (fun _ => eqInts_of (by kernel_rfl) (by kernel_rfl) (by kernel_rfl)), ⟨rfl, rfl, rfl, rfl, fun F h β => by simp [t99, Rep, Reps]⟩⟩
theorem t100_ok : t100.ok Tryd.prog 100 := ⟨by kernel_rfl, by kernel_rfl, by kernel_rfl, ⟨_, Tryd.underlying100, rfl⟩, (fun _ => eqInts_of (by kernel_rfl) (by kernel_rfl) (by kernel_rfl)), ⟨rfl, rfl, rfl, rfl, fun F h β => by simp [t100, Rep, Reps]⟩⟩
theorem t101_ok : t101.ok Tryd.prog 101 := ⟨by kernel_rfl, by kernel_rfl, by kernel_rfl, ⟨_, Tryd.underlying101, rfl⟩, (fun _ => eqInts_of (by kernel_rfl) (by kernel_rfl) (by kernel_rfl)), ⟨rfl, rfl, rfl, rfl, fun F h β => by simp [t101, Rep, Reps]⟩⟩
theorem t103_ok : t103.ok Tryd.prog 103 := ⟨by kernel_rfl, by kernel_rfl, by kernel_rfl, ⟨_, Tryd.underlying103, rfl⟩, (fun _ => eqInts_of (by kernel_rfl) (by kernel_rfl) (by kernel_rfl)), ⟨rfl, rfl, rfl, rfl, fun F h β => by simp [t103, Rep, Reps]⟩⟩
theorem t105_ok : t105.ok Tryd.prog 105 := ⟨by kernel_rfl, by kernel_rfl, by kernel_rfl, ⟨_, Tryd.underlying105, rfl⟩, (fun _ => eqInts_of (by kernel_rfl) (by kernel_rfl) (by kernel_rfl)), ⟨rfl, rfl, rfl, rfl, fun F h β => by simp [t105, Rep, Reps]⟩⟩
theorem t106_ok : t106.ok Tryd.prog 106 := ⟨by kernel_rfl, by kernel_rfl, by kernel_rfl, ⟨_, Tryd.underlying106, rfl⟩, (fun _ => eqInts_of (by kernel_rfl) (by kernel_rfl) (by kernel_rfl)), ⟨rfl, rfl, rfl, rfl, fun F h β => by simp [t106, Rep, Reps]⟩⟩
theorem t107_ok : t107.ok Tryd.prog 107 := ⟨by kernel_rfl, by kernel_rfl, by kernel_rfl, ⟨_, Tryd.underlying107, rfl⟩, (fun _ => eqInts_of (by kernel_rfl) (by kernel_rfl) (by kernel_rfl)), ⟨rfl, rfl, rfl, rfl, fun F h β => by simp [t107, Rep, Reps]⟩⟩
theorem t109_ok : t109.ok Tryd.prog 109 := ⟨by kernel_rfl, by kernel_rfl, by kernel_rfl, ⟨_, Tryd.underlying109, rfl⟩, (fun _ => eqInts_of (by kernel_rfl) (by kernel_rfl) (by kernel_rfl)), ⟨rfl, rfl, rfl, rfl, fun F h β => by simp [t109, Rep, Reps]⟩⟩
theorem t111_ok : t111.ok Tryd.prog 111 := ⟨by kernel_rfl, by kernel_rfl, by kernel_rfl, Tryd.underlying111, (fun h => by cases h), ⟨rfl, rfl, rfl, rfl, fun F h β => by simp [t111, Rep, Reps]⟩⟩
theorem t128_ok : t128.ok Tryd.prog 128 := ⟨by kernel_rfl, by kernel_rfl, by kernel_rfl, Tryd.underlying128, (fun h => by cases h), ⟨rfl, rfl, rfl, rfl, fun F h β => by simp [t128, Rep, Reps]⟩⟩
theorem t130_ok : t130.ok Tryd.prog 130 := ⟨by kernel_rfl, by kernel_rfl, by kernel_rfl, ⟨_, Tryd.underlying130, rfl⟩, (fun h => by cases h), ⟨rfl, rfl, rfl, rfl, fun F h β => by
    show Rep F h β t130.z t130.zero
    simp only [t130, Rep, Reps]
    exact ⟨_, rfl, _, _, rfl, (.inl ⟨by trivial, none, 0, by trivial, by intros; rfl⟩), _, _, rfl, (by trivial), rfl⟩⟩⟩
theorem t131_ok : t131.ok Tryd.prog 131 := ⟨by kernel_rfl, by kernel_rfl, by kernel_rfl, ⟨_, Tryd.underlying131, rfl⟩, (fun h => by cases h), ⟨rfl, rfl, rfl, rfl, fun F h β => by
    show Rep F h β t131.z t131.zero
    simp only [t131, Rep, Reps]
    exact ⟨_, rfl, _, _, rfl, (.inl ⟨by trivial, none, 0, by trivial, by intros; rfl⟩), _, _, rfl, (by trivial), rfl⟩⟩⟩
theorem t135_ok : t135.ok Tryd.prog 135 := ⟨by kernel_rfl, by kernel_rfl, by kernel_rfl, ⟨_, Tryd.underlying135, rfl⟩, (fun _ => eqInts_of (by kernel_rfl) (by kernel_rfl) (by kernel_rfl)), ⟨rfl, rfl, rfl, rfl, fun F h β => by simp [t135, Rep, Reps]⟩⟩
theorem t136_ok : t136.ok Tryd.prog 136 := ⟨by kernel_rfl, by kernel_rfl, by kernel_rfl, ⟨_, Tryd.underlying136, rfl⟩, (fun _ => eqInts_of (by kernel_rfl) (by kernel_rfl) (by kernel_rfl)), ⟨rfl, rfl, rfl, rfl, fun F h β => by simp [t136, Rep, Reps]⟩⟩
theorem t138_ok : t138.ok Tryd.prog 138 := ⟨by kernel_rfl, by kernel_rfl, by kernel_rfl, ⟨_, Tryd.underlying138, rfl⟩, (fun _ => eqInts_of (by kernel_rfl) (by kernel_rfl) (by kernel_rfl)), ⟨rfl, rfl, rfl, rfl, fun F h β => by simp [t138, Rep, Reps]⟩⟩
theorem t139_ok : t139.ok Tryd.prog 139 := ⟨by kernel_rfl, by kernel_rfl, by kernel_rfl, Tryd.underlying139, (fun h => by cases h), ⟨rfl, rfl, rfl, rfl, fun F h β => by simp [t139, Rep, Reps]⟩⟩
theorem t147_ok : t147.ok Tryd.prog 147 := ⟨by kernel_rfl, by kernel_rfl, by kernel_rfl, Tryd.underlying147, (fun h => by cases h), ⟨rfl, rfl, rfl, rfl, fun F h β => by simp [t147, Rep, Reps]⟩⟩
theorem t156_ok : t156.ok Tryd.prog 156 := ⟨by kernel_rfl, by kernel_rfl, by kernel_rfl, Tryd.underlying156, (fun h => by cases h), ⟨rfl, rfl, rfl, rfl, fun F h β => by simp [t156, Rep, Reps]⟩⟩
theorem t159_ok : t159.ok Tryd.prog 159 := ⟨by kernel_rfl, by kernel_rfl, by kernel_rfl, ⟨_, _, _, Tryd.underlying159⟩, (fun h => by cases h), ⟨rfl, rfl, rfl, rfl, fun F h β => by simp [t159, Rep, Reps]⟩⟩
theorem t160_ok : t160.ok Tryd.prog 160 := ⟨by kernel_rfl, by kernel_rfl, by kernel_rfl, Tryd.underlying160, (fun h => by cases h), ⟨rfl, rfl, rfl, rfl, fun F h β => by simp [t160, Rep, Reps]⟩⟩
theorem t163_ok : t163.ok Tryd.prog 163 := ⟨by kernel_rfl, by kernel_rfl, by kernel_rfl, ⟨_, Tryd.underlying163, rfl⟩, (fun h => by cases h), ⟨rfl, rfl, rfl, rfl, fun F h β => by simp [t163, Rep, Reps]⟩⟩
theorem t169_ok : t169.ok Tryd.prog 169 := ⟨by kernel_rfl, by kernel_rfl, by kernel_rfl, ⟨_, Tryd.underlying169, rfl⟩, (fun _ => eqInts_of (by kernel_rfl) (by kernel_rfl) (by kernel_rfl)), ⟨rfl, rfl, rfl, rfl, fun F h β => by simp [t169, Rep, Reps]⟩⟩
theorem t170_ok : t170.ok Tryd.prog 170 := ⟨by kernel_rfl, by kernel_rfl, by kernel_rfl, ⟨_, Tryd.underlying170, rfl⟩, (fun _ => eqInts_of (by kernel_rfl) (by kernel_rfl) (by kernel_rfl)), ⟨rfl, rfl, rfl, rfl, fun F h β => by simp [t170, Rep, Reps]⟩⟩
def G : Ctx := [(2, t2), (3, t3), (4, t4), (5, t5), (9, t9), (12, t12), (20, t20), (21, t21), (22, t22), (23, t23), (24, t24), (25, t25), (26, t26), (27, t27), (28, t28), (29, t29), (30, t30), (33, t33), (34, t34), (35, t35), (36, t36), (37, t37), (38, t38), (39, t39), (40, t40), (41, t41), (52, t52), (53, t53), (57, t57), (58, t58), (59, t59), (60, t60), (79, t79), (80, t80), (81, t81), (82, t82), (83, t83), (84, t84), (85, t85), (87, t87), (88, t88), (89, t89), (90, t90), (91, t91), (92, t92), (94, t94), (95, t95), (97, t97), (99, t99), (100, t100), (101, t101), (103, t103), (105, t105), (106, t106), (107, t107), (109, t109), (111, t111), (128, t128), (130, t130), (131, t131), (135, t135), (136, t136), (138, t138), (139, t139), (147, t147), (156, t156), (159, t159), (160, t160), (163, t163), (169, t169), (170, t170)]
@[simp] theorem G_2 : G.get 2 = some t2 := rfl
@[simp] theorem G_3 : G.get 3 = some t3 := rfl
@[simp] theorem G_4 : G.get 4 = some t4 := rfl
@[simp] theorem G_5 : G.get 5 = some t5 := rfl
@[simp] theorem G_9 : G.get 9 = some t9 := rfl
@[simp] theorem G_12 : G.get 12 = some t12 := rfl
@[simp] theorem G_20 : G.get 20 = some t20 := rfl
@[simp] theorem G_21 : G.get 21 = some t21 := rfl
@[simp] theorem G_22 : G.get 22 = some t22 := rfl
@[simp] theorem G_23 : G.get 23 = some t23 := rfl
@[simp] theorem G_24 : G.get 24 = some t24 := rfl
@[simp] theorem G_25 : G.get 25 = some t25 := rfl
@[simp] theorem G_26 : G.get 26 = some t26 := rfl
@[simp] theorem G_27 : G.get 27 = some t27 := rfl
@[simp] theorem G_28 : G.get 28 = some t28 := rfl
@[simp] theorem G_29 : G.get 29 = some t29 := rfl
@[simp] theorem G_30 : G.get 30 = some t30 := rfl
@[simp] theorem G_33 : G.get 33 = some t33 := rfl
@[simp] theorem G_34 : G.get 34 = some t34 := rfl
@[simp] theorem G_35 : G.get 35 = some t35 := rfl
@[simp] theorem G_36 : G.get 36 = some t36 := rfl
@[simp] theorem G_37 : G.get 37 = some t37 := rfl
@[simp] theorem G_38 : G.get 38 = some t38 := rfl
@[simp] theorem G_39 : G.get 39 = some t39 := rfl
@[simp] theorem G_40 : G.get 40 = some t40 := rfl
@[simp] theorem G_41 : G.get 41 = some t41 := rfl
@[simp] theorem G_52 : G.get 52 = some t52 := rfl
@[simp] theorem G_53 : G.get 53 = some t53 := rfl
@[simp] theorem G_57 : G.get 57 = some t57 := rfl
@[simp] theorem G_58 : G.get 58 = some t58 := rfl
@[simp] theorem G_59 : G.get 59 = some t59 := rfl
@[simp] theorem G_60 : G.get 60 = some t60 := rfl
@[simp] theorem G_79 : G.get 79 = some t79 := rfl
@[simp] theorem G_80 : G.get 80 = some t80 := rfl
@[simp] theorem G_81 : G.get 81 = some t81 := rfl
@[simp] theorem G_82 : G.get 82 = some t82 := rfl
@[simp] theorem G_83 : G.get 83 = some t83 := rfl
@[simp] theorem G_84 : G.get 84 = some t84 := rfl
@[simp] theorem G_85 : G.get 85 = some t85 := rfl
@[simp] theorem G_87 : G.get 87 = some t87 := rfl
@[simp] theorem G_88 : G.get 88 = some t88 := rfl
@[simp] theorem G_89 : G.get 89 = some t89 := rfl
@[simp] theorem G_90 : G.get 90 = some t90 := rfl
@[simp] theorem G_91 : G.get 91 = some t91 := rfl
@[simp] theorem G_92 : G.get 92 = some t92 := rfl
@[simp] theorem G_94 : G.get 94 = some t94 := rfl
@[simp] theorem G_95 : G.get 95 = some t95 := rfl
@[simp] theorem G_97 : G.get 97 = some t97 := rfl
@[simp] theorem G_99 : G.get 99 = some t99 := rfl
@[simp] theorem G_100 : G.get 100 = some t100 := rfl
@[simp] theorem G_101 : G.get 101 = some t101 := rfl
@[simp] theorem G_103 : G.get 103 = some t103 := rfl
@[simp] theorem G_105 : G.get 105 = some t105 := rfl
@[simp] theorem G_106 : G.get 106 = some t106 := rfl
@[simp] theorem G_107 : G.get 107 = some t107 := rfl
@[simp] theorem G_109 : G.get 109 = some t109 := rfl
@[simp] theorem G_111 : G.get 111 = some t111 := rfl
@[simp] theorem G_128 : G.get 128 = some t128 := rfl
@[simp] theorem G_130 : G.get 130 = some t130 := rfl
@[simp] theorem G_131 : G.get 131 = some t131 := rfl
@[simp] theorem G_135 : G.get 135 = some t135 := rfl
@[simp] theorem G_136 : G.get 136 = some t136 := rfl
@[simp] theorem G_138 : G.get 138 = some t138 := rfl
@[simp] theorem G_139 : G.get 139 = some t139 := rfl
@[simp] theorem G_147 : G.get 147 = some t147 := rfl
@[simp] theorem G_156 : G.get 156 = some t156 := rfl
@[simp] theorem G_159 : G.get 159 = some t159 := rfl
@[simp] theorem G_160 : G.get 160 = some t160 := rfl
@[simp] theorem G_163 : G.get 163 = some t163 := rfl
@[simp] theorem G_169 : G.get 169 = some t169 := rfl
@[simp] theorem G_170 : G.get 170 = some t170 := rfl
theorem G_ok : G.ok Tryd.prog := by
  intro p hp
  simp only [G, List.mem_cons, List.not_mem_nil, or_false] at hp
  rcases hp with rfl | rfl | rfl | rfl | rfl | rfl | rfl | rfl | rfl | rfl | rfl | rfl | rfl | rfl | rfl | rfl | rfl | rfl | rfl | rfl | rfl | rfl | rfl | rfl | rfl | rfl | rfl | rfl | rfl | rfl | rfl | rfl | rfl | rfl | rfl | rfl | rfl | rfl | rfl | rfl | rfl | rfl | rfl | rfl | rfl | rfl | rfl | rfl | rfl | rfl | rfl | rfl | rfl | rfl | rfl | rfl | rfl | rfl | rfl | rfl | rfl | rfl | rfl | rfl | rfl | rfl | rfl | rfl | rfl | rfl | rfl
  · exact t2_ok
  · exact t3_ok
  · exact t4_ok
  · exact t5_ok
  · exact t9_ok
  · exact t12_ok
  · exact t20_ok
  · exact t21_ok
  · exact t22_ok
  · exact t23_ok
  · exact t24_ok
  · exact t25_ok
  · exact t26_ok
  · exact t27_ok
  · exact t28_ok
  · exact t29_ok
  · exact t30_ok
  · exact t33_ok
  · exact t34_ok
  · exact t35_ok
  · exact t36_ok
  · exact t37_ok
  · exact t38_ok
  · exact t39_ok
  · exact t40_ok
  · exact t41_ok
  · exact t52_ok
  · exact t53_ok
  · exact t57_ok
  · exact t58_ok
  · exact t59_ok
  · exact t60_ok
  · exact t79_ok
  · exact t80_ok
  · exact t81_ok
  · exact t82_ok
  · exact t83_ok
  · exact t84_ok
  · exact t85_ok
  · exact t87_ok
  · exact t88_ok
  · exact t89_ok
  · exact t90_ok
  · exact t91_ok
  · exact t92_ok
  · exact t94_ok
  · exact t95_ok
  · exact t97_ok
  · exact t99_ok
  · exact t100_ok
  · exact t101_ok
  · exact t103_ok
  · exact t105_ok
  · exact t106_ok
  · exact t107_ok
  · exact t109_ok
  · exact t111_ok
  · exact t128_ok
  · exact t130_ok
  · exact t131_ok
  · exact t135_ok
  · exact t136_ok
  · exact t138_ok
  · exact t139_ok
  · exact t147_ok
  · exact t156_ok
  · exact t159_ok
  · exact t160_ok
  · exact t163_ok
  · exact t169_ok
  · exact t170_ok
theorem mix : Tryd.prog.follows .mixedOrders = true := by kernel_rfl
end Go.Proofs.YtfmbfemojnohcaaDoor
