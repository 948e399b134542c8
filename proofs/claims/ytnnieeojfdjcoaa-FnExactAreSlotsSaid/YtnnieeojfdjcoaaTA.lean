/- What is known of the types of this program: their sizes, zero values and parts. -/
import Derived.Test.YtnnieeojfdjcoaaProg
import Derived.Test.YtnnieeojfdjcoaaTY
import Derived.KernelRfl
namespace Go.Proofs.Ytnnieeojfdjcoaa
open Go Go.Eng
set_option linter.unusedSimpArgs false
set_option linter.unusedVariables false
/-- int64 -/
def t2 : TI := ⟨1, 8, .int .i64 0, .lit (.int .i64 0), .lit (.int .i64 0), .int .i64, false⟩
@[simp] theorem t2_size : t2.size = 1 := rfl
@[simp] theorem t2_bytes : t2.bytes = 8 := rfl
@[simp] theorem t2_z : t2.z = .lit (.int .i64 0) := rfl
@[simp] theorem t2_y : t2.y = .lit (.int .i64 0) := rfl
@[simp] theorem t2_kind : t2.kind = .int .i64 := rfl
@[simp] theorem t2_cmp : t2.cmp = false := rfl
/-- int -/
def t3 : TI := ⟨1, 8, .int .i64 0, .lit (.int .i64 0), .lit (.int .i64 0), .int .i64, false⟩
@[simp] theorem t3_size : t3.size = 1 := rfl
@[simp] theorem t3_bytes : t3.bytes = 8 := rfl
@[simp] theorem t3_z : t3.z = .lit (.int .i64 0) := rfl
@[simp] theorem t3_y : t3.y = .lit (.int .i64 0) := rfl
@[simp] theorem t3_kind : t3.kind = .int .i64 := rfl
@[simp] theorem t3_cmp : t3.cmp = false := rfl
/-- bool -/
def t4 : TI := ⟨1, 1, .bool false, .lit (.bool false), .lit (.bool false), .bool, false⟩
@[simp] theorem t4_size : t4.size = 1 := rfl
@[simp] theorem t4_bytes : t4.bytes = 1 := rfl
@[simp] theorem t4_z : t4.z = .lit (.bool false) := rfl
@[simp] theorem t4_y : t4.y = .lit (.bool false) := rfl
@[simp] theorem t4_kind : t4.kind = .bool := rfl
@[simp] theorem t4_cmp : t4.cmp = false := rfl
/-- uint8 -/
def t5 : TI := ⟨1, 1, .int .u8 0, .lit (.int .u8 0), .lit (.int .u8 0), .int .u8, false⟩
@[simp] theorem t5_size : t5.size = 1 := rfl
@[simp] theorem t5_bytes : t5.bytes = 1 := rfl
@[simp] theorem t5_z : t5.z = .lit (.int .u8 0) := rfl
@[simp] theorem t5_y : t5.y = .lit (.int .u8 0) := rfl
@[simp] theorem t5_kind : t5.kind = .int .u8 := rfl
@[simp] theorem t5_cmp : t5.cmp = false := rfl
/-- string -/
def t9 : TI := ⟨1, 16, .string ⟨#[]⟩, .lit (.string ⟨#[]⟩), .lit (.string ⟨#[]⟩), .str, false⟩
@[simp] theorem t9_size : t9.size = 1 := rfl
@[simp] theorem t9_bytes : t9.bytes = 16 := rfl
@[simp] theorem t9_z : t9.z = .lit (.string ⟨#[]⟩) := rfl
@[simp] theorem t9_y : t9.y = .lit (.string ⟨#[]⟩) := rfl
@[simp] theorem t9_kind : t9.kind = .str := rfl
@[simp] theorem t9_cmp : t9.cmp = false := rfl
/-- uintptr -/
def t12 : TI := ⟨1, 8, .int .u64 0, .lit (.int .u64 0), .lit (.int .u64 0), .int .u64, false⟩
@[simp] theorem t12_size : t12.size = 1 := rfl
@[simp] theorem t12_bytes : t12.bytes = 8 := rfl
@[simp] theorem t12_z : t12.z = .lit (.int .u64 0) := rfl
@[simp] theorem t12_y : t12.y = .lit (.int .u64 0) := rfl
@[simp] theorem t12_kind : t12.kind = .int .u64 := rfl
@[simp] theorem t12_cmp : t12.cmp = false := rfl
/-- interface {} -/
def t20 : TI := ⟨1, 16, .nilIface, .lit .nilIface, .lit .nilIface, .iface, false⟩
@[simp] theorem t20_size : t20.size = 1 := rfl
@[simp] theorem t20_bytes : t20.bytes = 16 := rfl
@[simp] theorem t20_z : t20.z = .lit .nilIface := rfl
@[simp] theorem t20_y : t20.y = .lit .nilIface := rfl
@[simp] theorem t20_kind : t20.kind = .iface := rfl
@[simp] theorem t20_cmp : t20.cmp = false := rfl
/-- int32 -/
def t21 : TI := ⟨1, 4, .int .i32 0, .lit (.int .i32 0), .lit (.int .i32 0), .int .i32, false⟩
@[simp] theorem t21_size : t21.size = 1 := rfl
@[simp] theorem t21_bytes : t21.bytes = 4 := rfl
@[simp] theorem t21_z : t21.z = .lit (.int .i32 0) := rfl
@[simp] theorem t21_y : t21.y = .lit (.int .i32 0) := rfl
@[simp] theorem t21_kind : t21.kind = .int .i32 := rfl
@[simp] theorem t21_cmp : t21.cmp = false := rfl
/-- []laws.Mark -/
def t22 : TI := ⟨1, 24, .slice none 0 0, .sl true 0 .any [], yLTMark, .slice 35, false⟩
@[simp] theorem t22_size : t22.size = 1 := rfl
@[simp] theorem t22_bytes : t22.bytes = 24 := rfl
@[simp] theorem t22_z : t22.z = .sl true 0 .any [] := rfl
@[simp] theorem t22_y : t22.y = yLTMark := rfl
@[simp] theorem t22_kind : t22.kind = .slice 35 := rfl
@[simp] theorem t22_cmp : t22.cmp = false := rfl
/-- []impl.Mark -/
def t25 : TI := ⟨1, 24, .slice none 0 0, .sl true 0 .any [], yLTMark, .slice 38, false⟩
@[simp] theorem t25_size : t25.size = 1 := rfl
@[simp] theorem t25_bytes : t25.bytes = 24 := rfl
@[simp] theorem t25_z : t25.z = .sl true 0 .any [] := rfl
@[simp] theorem t25_y : t25.y = yLTMark := rfl
@[simp] theorem t25_kind : t25.kind = .slice 38 := rfl
@[simp] theorem t25_cmp : t25.cmp = false := rfl
/-- struct { Question int; Answer int } -/
def t34 : TI := ⟨2, 16, .agg #[.int .i64 0, .int .i64 0], .agg [.lit (.int .i64 0), .lit (.int .i64 0)], yTMark, .st [(0, 3), (1, 3)], true⟩
@[simp] theorem t34_size : t34.size = 2 := rfl
@[simp] theorem t34_bytes : t34.bytes = 16 := rfl
@[simp] theorem t34_z : t34.z = .agg [.lit (.int .i64 0), .lit (.int .i64 0)] := rfl
@[simp] theorem t34_y : t34.y = yTMark := rfl
@[simp] theorem t34_kind : t34.kind = .st [(0, 3), (1, 3)] := rfl
@[simp] theorem t34_cmp : t34.cmp = true := rfl
/-- laws.Mark = loop.example/g03007/laws.Mark -/
def t35 : TI := ⟨2, 16, .agg #[.int .i64 0, .int .i64 0], .agg [.lit (.int .i64 0), .lit (.int .i64 0)], yTMark, .st [(0, 3), (1, 3)], true⟩
@[simp] theorem t35_size : t35.size = 2 := rfl
@[simp] theorem t35_bytes : t35.bytes = 16 := rfl
@[simp] theorem t35_z : t35.z = .agg [.lit (.int .i64 0), .lit (.int .i64 0)] := rfl
@[simp] theorem t35_y : t35.y = yTMark := rfl
@[simp] theorem t35_kind : t35.kind = .st [(0, 3), (1, 3)] := rfl
@[simp] theorem t35_cmp : t35.cmp = true := rfl
/-- impl.Mark = loop.example/g03007/impl.Mark -/
def t38 : TI := ⟨2, 16, .agg #[.int .i64 0, .int .i64 0], .agg [.lit (.int .i64 0), .lit (.int .i64 0)], yTMark, .st [(0, 3), (1, 3)], true⟩
@[simp] theorem t38_size : t38.size = 2 := rfl
@[simp] theorem t38_bytes : t38.bytes = 16 := rfl
@[simp] theorem t38_z : t38.z = .agg [.lit (.int .i64 0), .lit (.int .i64 0)] := rfl
@[simp] theorem t38_y : t38.y = yTMark := rfl
@[simp] theorem t38_kind : t38.kind = .st [(0, 3), (1, 3)] := rfl
@[simp] theorem t38_cmp : t38.cmp = true := rfl
/-- struct { Claim int; Asked int; Right int; Wrong int } -/
def t41 : TI := ⟨4, 32, .agg #[.int .i64 0, .int .i64 0, .int .i64 0, .int .i64 0], .agg [.lit (.int .i64 0), .lit (.int .i64 0), .lit (.int .i64 0), .lit (.int .i64 0)], yTTrial, .st [(0, 3), (1, 3), (2, 3), (3, 3)], true⟩
@[simp] theorem t41_size : t41.size = 4 := rfl
@[simp] theorem t41_bytes : t41.bytes = 32 := rfl
@[simp] theorem t41_z : t41.z = .agg [.lit (.int .i64 0), .lit (.int .i64 0), .lit (.int .i64 0), .lit (.int .i64 0)] := rfl
@[simp] theorem t41_y : t41.y = yTTrial := rfl
@[simp] theorem t41_kind : t41.kind = .st [(0, 3), (1, 3), (2, 3), (3, 3)] := rfl
@[simp] theorem t41_cmp : t41.cmp = true := rfl
/-- laws.Trial = loop.example/g03007/laws.Trial -/
def t42 : TI := ⟨4, 32, .agg #[.int .i64 0, .int .i64 0, .int .i64 0, .int .i64 0], .agg [.lit (.int .i64 0), .lit (.int .i64 0), .lit (.int .i64 0), .lit (.int .i64 0)], yTTrial, .st [(0, 3), (1, 3), (2, 3), (3, 3)], true⟩
@[simp] theorem t42_size : t42.size = 4 := rfl
@[simp] theorem t42_bytes : t42.bytes = 32 := rfl
@[simp] theorem t42_z : t42.z = .agg [.lit (.int .i64 0), .lit (.int .i64 0), .lit (.int .i64 0), .lit (.int .i64 0)] := rfl
@[simp] theorem t42_y : t42.y = yTTrial := rfl
@[simp] theorem t42_kind : t42.kind = .st [(0, 3), (1, 3), (2, 3), (3, 3)] := rfl
@[simp] theorem t42_cmp : t42.cmp = true := rfl
/-- impl.Trial = loop.example/g03007/impl.Trial -/
def t44 : TI := ⟨4, 32, .agg #[.int .i64 0, .int .i64 0, .int .i64 0, .int .i64 0], .agg [.lit (.int .i64 0), .lit (.int .i64 0), .lit (.int .i64 0), .lit (.int .i64 0)], yTTrial, .st [(0, 3), (1, 3), (2, 3), (3, 3)], true⟩
@[simp] theorem t44_size : t44.size = 4 := rfl
@[simp] theorem t44_bytes : t44.bytes = 32 := rfl
@[simp] theorem t44_z : t44.z = .agg [.lit (.int .i64 0), .lit (.int .i64 0), .lit (.int .i64 0), .lit (.int .i64 0)] := rfl
@[simp] theorem t44_y : t44.y = yTTrial := rfl
@[simp] theorem t44_kind : t44.kind = .st [(0, 3), (1, 3), (2, 3), (3, 3)] := rfl
@[simp] theorem t44_cmp : t44.cmp = true := rfl
/-- []int -/
def t54 : TI := ⟨1, 24, .slice none 0 0, .sl true 0 .any [], yLI, .slice 3, false⟩
@[simp] theorem t54_size : t54.size = 1 := rfl
@[simp] theorem t54_bytes : t54.bytes = 24 := rfl
@[simp] theorem t54_z : t54.z = .sl true 0 .any [] := rfl
@[simp] theorem t54_y : t54.y = yLI := rfl
@[simp] theorem t54_kind : t54.kind = .slice 3 := rfl
@[simp] theorem t54_cmp : t54.cmp = false := rfl
/-- []laws.Claim -/
def t59 : TI := ⟨1, 24, .slice none 0 0, .sl true 0 .any [], yLTClaim, .slice 69, false⟩
@[simp] theorem t59_size : t59.size = 1 := rfl
@[simp] theorem t59_bytes : t59.bytes = 24 := rfl
@[simp] theorem t59_z : t59.z = .sl true 0 .any [] := rfl
@[simp] theorem t59_y : t59.y = yLTClaim := rfl
@[simp] theorem t59_kind : t59.kind = .slice 69 := rfl
@[simp] theorem t59_cmp : t59.cmp = false := rfl
/-- []impl.Claim -/
def t62 : TI := ⟨1, 24, .slice none 0 0, .sl true 0 .any [], yLTClaim, .slice 72, false⟩
@[simp] theorem t62_size : t62.size = 1 := rfl
@[simp] theorem t62_bytes : t62.bytes = 24 := rfl
@[simp] theorem t62_z : t62.z = .sl true 0 .any [] := rfl
@[simp] theorem t62_y : t62.y = yLTClaim := rfl
@[simp] theorem t62_kind : t62.kind = .slice 72 := rfl
@[simp] theorem t62_cmp : t62.cmp = false := rfl
/-- struct { Id int; Who int; Thing int; At int; State int } -/
def t68 : TI := ⟨5, 40, .agg #[.int .i64 0, .int .i64 0, .int .i64 0, .int .i64 0, .int .i64 0], .agg [.lit (.int .i64 0), .lit (.int .i64 0), .lit (.int .i64 0), .lit (.int .i64 0), .lit (.int .i64 0)], yTClaim, .st [(0, 3), (1, 3), (2, 3), (3, 3), (4, 3)], true⟩
@[simp] theorem t68_size : t68.size = 5 := rfl
@[simp] theorem t68_bytes : t68.bytes = 40 := rfl
@[simp] theorem t68_z : t68.z = .agg [.lit (.int .i64 0), .lit (.int .i64 0), .lit (.int .i64 0), .lit (.int .i64 0), .lit (.int .i64 0)] := rfl
@[simp] theorem t68_y : t68.y = yTClaim := rfl
@[simp] theorem t68_kind : t68.kind = .st [(0, 3), (1, 3), (2, 3), (3, 3), (4, 3)] := rfl
@[simp] theorem t68_cmp : t68.cmp = true := rfl
/-- laws.Claim = loop.example/g03007/laws.Claim -/
def t69 : TI := ⟨5, 40, .agg #[.int .i64 0, .int .i64 0, .int .i64 0, .int .i64 0, .int .i64 0], .agg [.lit (.int .i64 0), .lit (.int .i64 0), .lit (.int .i64 0), .lit (.int .i64 0), .lit (.int .i64 0)], yTClaim, .st [(0, 3), (1, 3), (2, 3), (3, 3), (4, 3)], true⟩
@[simp] theorem t69_size : t69.size = 5 := rfl
@[simp] theorem t69_bytes : t69.bytes = 40 := rfl
@[simp] theorem t69_z : t69.z = .agg [.lit (.int .i64 0), .lit (.int .i64 0), .lit (.int .i64 0), .lit (.int .i64 0), .lit (.int .i64 0)] := rfl
@[simp] theorem t69_y : t69.y = yTClaim := rfl
@[simp] theorem t69_kind : t69.kind = .st [(0, 3), (1, 3), (2, 3), (3, 3), (4, 3)] := rfl
@[simp] theorem t69_cmp : t69.cmp = true := rfl
/-- impl.Claim = loop.example/g03007/impl.Claim -/
def t72 : TI := ⟨5, 40, .agg #[.int .i64 0, .int .i64 0, .int .i64 0, .int .i64 0, .int .i64 0], .agg [.lit (.int .i64 0), .lit (.int .i64 0), .lit (.int .i64 0), .lit (.int .i64 0), .lit (.int .i64 0)], yTClaim, .st [(0, 3), (1, 3), (2, 3), (3, 3), (4, 3)], true⟩
@[simp] theorem t72_size : t72.size = 5 := rfl
@[simp] theorem t72_bytes : t72.bytes = 40 := rfl
@[simp] theorem t72_z : t72.z = .agg [.lit (.int .i64 0), .lit (.int .i64 0), .lit (.int .i64 0), .lit (.int .i64 0), .lit (.int .i64 0)] := rfl
@[simp] theorem t72_y : t72.y = yTClaim := rfl
@[simp] theorem t72_kind : t72.kind = .st [(0, 3), (1, 3), (2, 3), (3, 3), (4, 3)] := rfl
@[simp] theorem t72_cmp : t72.cmp = true := rfl
/-- []laws.Slot -/
def t79 : TI := ⟨1, 24, .slice none 0 0, .sl true 0 .any [], yLTSlot, .slice 150, false⟩
@[simp] theorem t79_size : t79.size = 1 := rfl
@[simp] theorem t79_bytes : t79.bytes = 24 := rfl
@[simp] theorem t79_z : t79.z = .sl true 0 .any [] := rfl
@[simp] theorem t79_y : t79.y = yLTSlot := rfl
@[simp] theorem t79_kind : t79.kind = .slice 150 := rfl
@[simp] theorem t79_cmp : t79.cmp = false := rfl
/-- []impl.Slot -/
def t82 : TI := ⟨1, 24, .slice none 0 0, .sl true 0 .any [], yLTSlot, .slice 148, false⟩
@[simp] theorem t82_size : t82.size = 1 := rfl
@[simp] theorem t82_bytes : t82.bytes = 24 := rfl
@[simp] theorem t82_z : t82.z = .sl true 0 .any [] := rfl
@[simp] theorem t82_y : t82.y = yLTSlot := rfl
@[simp] theorem t82_kind : t82.kind = .slice 148 := rfl
@[simp] theorem t82_cmp : t82.cmp = false := rfl
/-- struct { Id int; Kind int; Colour int; Size int; Worth int } -/
def t88 : TI := ⟨5, 40, .agg #[.int .i64 0, .int .i64 0, .int .i64 0, .int .i64 0, .int .i64 0], .agg [.lit (.int .i64 0), .lit (.int .i64 0), .lit (.int .i64 0), .lit (.int .i64 0), .lit (.int .i64 0)], yTThing, .st [(0, 3), (1, 3), (2, 3), (3, 3), (4, 3)], true⟩
@[simp] theorem t88_size : t88.size = 5 := rfl
@[simp] theorem t88_bytes : t88.bytes = 40 := rfl
@[simp] theorem t88_z : t88.z = .agg [.lit (.int .i64 0), .lit (.int .i64 0), .lit (.int .i64 0), .lit (.int .i64 0), .lit (.int .i64 0)] := rfl
@[simp] theorem t88_y : t88.y = yTThing := rfl
@[simp] theorem t88_kind : t88.kind = .st [(0, 3), (1, 3), (2, 3), (3, 3), (4, 3)] := rfl
@[simp] theorem t88_cmp : t88.cmp = true := rfl
/-- laws.Thing = loop.example/g03007/laws.Thing -/
def t89 : TI := ⟨5, 40, .agg #[.int .i64 0, .int .i64 0, .int .i64 0, .int .i64 0, .int .i64 0], .agg [.lit (.int .i64 0), .lit (.int .i64 0), .lit (.int .i64 0), .lit (.int .i64 0), .lit (.int .i64 0)], yTThing, .st [(0, 3), (1, 3), (2, 3), (3, 3), (4, 3)], true⟩
@[simp] theorem t89_size : t89.size = 5 := rfl
@[simp] theorem t89_bytes : t89.bytes = 40 := rfl
@[simp] theorem t89_z : t89.z = .agg [.lit (.int .i64 0), .lit (.int .i64 0), .lit (.int .i64 0), .lit (.int .i64 0), .lit (.int .i64 0)] := rfl
@[simp] theorem t89_y : t89.y = yTThing := rfl
@[simp] theorem t89_kind : t89.kind = .st [(0, 3), (1, 3), (2, 3), (3, 3), (4, 3)] := rfl
@[simp] theorem t89_cmp : t89.cmp = true := rfl
/-- impl.Thing = loop.example/g03007/impl.Thing -/
def t92 : TI := ⟨5, 40, .agg #[.int .i64 0, .int .i64 0, .int .i64 0, .int .i64 0, .int .i64 0], .agg [.lit (.int .i64 0), .lit (.int .i64 0), .lit (.int .i64 0), .lit (.int .i64 0), .lit (.int .i64 0)], yTThing, .st [(0, 3), (1, 3), (2, 3), (3, 3), (4, 3)], true⟩
@[simp] theorem t92_size : t92.size = 5 := rfl
@[simp] theorem t92_bytes : t92.bytes = 40 := rfl
@[simp] theorem t92_z : t92.z = .agg [.lit (.int .i64 0), .lit (.int .i64 0), .lit (.int .i64 0), .lit (.int .i64 0), .lit (.int .i64 0)] := rfl
@[simp] theorem t92_y : t92.y = yTThing := rfl
@[simp] theorem t92_kind : t92.kind = .st [(0, 3), (1, 3), (2, 3), (3, 3), (4, 3)] := rfl
@[simp] theorem t92_cmp : t92.cmp = true := rfl
/-- []laws.Thing -/
def t97 : TI := ⟨1, 24, .slice none 0 0, .sl true 0 .any [], yLTThing, .slice 89, false⟩
@[simp] theorem t97_size : t97.size = 1 := rfl
@[simp] theorem t97_bytes : t97.bytes = 24 := rfl
@[simp] theorem t97_z : t97.z = .sl true 0 .any [] := rfl
@[simp] theorem t97_y : t97.y = yLTThing := rfl
@[simp] theorem t97_kind : t97.kind = .slice 89 := rfl
@[simp] theorem t97_cmp : t97.cmp = false := rfl
/-- []impl.Thing -/
def t101 : TI := ⟨1, 24, .slice none 0 0, .sl true 0 .any [], yLTThing, .slice 92, false⟩
@[simp] theorem t101_size : t101.size = 1 := rfl
@[simp] theorem t101_bytes : t101.bytes = 24 := rfl
@[simp] theorem t101_z : t101.z = .sl true 0 .any [] := rfl
@[simp] theorem t101_y : t101.y = yLTThing := rfl
@[simp] theorem t101_kind : t101.kind = .slice 92 := rfl
@[simp] theorem t101_cmp : t101.cmp = false := rfl
/-- func(impl.Mark) int -/
def t110 : TI := ⟨1, 8, .nilFunc, .lit .nilFunc, .lit .nilFunc, .func, false⟩
@[simp] theorem t110_size : t110.size = 1 := rfl
@[simp] theorem t110_bytes : t110.bytes = 8 := rfl
@[simp] theorem t110_z : t110.z = .lit .nilFunc := rfl
@[simp] theorem t110_y : t110.y = .lit .nilFunc := rfl
@[simp] theorem t110_kind : t110.kind = .func := rfl
@[simp] theorem t110_cmp : t110.cmp = false := rfl
/-- struct { items []impl.Mark; numberOf func(impl.Mark) int } -/
def t111 : TI := ⟨2, 32, .agg #[.slice none 0 0, .nilFunc], .agg [.sl true 0 .any [], .lit .nilFunc], .any, .st [(0, 25), (1, 110)], false⟩
@[simp] theorem t111_size : t111.size = 2 := rfl
@[simp] theorem t111_bytes : t111.bytes = 32 := rfl
@[simp] theorem t111_z : t111.z = .agg [.sl true 0 .any [], .lit .nilFunc] := rfl
@[simp] theorem t111_y : t111.y = .any := rfl
@[simp] theorem t111_kind : t111.kind = .st [(0, 25), (1, 110)] := rfl
@[simp] theorem t111_cmp : t111.cmp = false := rfl
/-- impl.sortedList[loop.example/g03007/impl.Mark] = loop.example/g03007/impl.sortedList[loop.example/g03007/impl.Mark] -/
def t112 : TI := ⟨2, 32, .agg #[.slice none 0 0, .nilFunc], .agg [.sl true 0 .any [], .lit .nilFunc], .any, .st [(0, 25), (1, 110)], false⟩
@[simp] theorem t112_size : t112.size = 2 := rfl
@[simp] theorem t112_bytes : t112.bytes = 32 := rfl
@[simp] theorem t112_z : t112.z = .agg [.sl true 0 .any [], .lit .nilFunc] := rfl
@[simp] theorem t112_y : t112.y = .any := rfl
@[simp] theorem t112_kind : t112.kind = .st [(0, 25), (1, 110)] := rfl
@[simp] theorem t112_cmp : t112.cmp = false := rfl
/-- map[int]int -/
def t118 : TI := ⟨1, 8, .map none, .fm 0 [] .any [], .any, .map 3 3, false⟩
@[simp] theorem t118_size : t118.size = 1 := rfl
@[simp] theorem t118_bytes : t118.bytes = 8 := rfl
@[simp] theorem t118_z : t118.z = .fm 0 [] .any [] := rfl
@[simp] theorem t118_y : t118.y = .any := rfl
@[simp] theorem t118_kind : t118.kind = .map 3 3 := rfl
@[simp] theorem t118_cmp : t118.cmp = false := rfl
/-- interface { impl.next(impl.Trial) impl.Trial } -/
def t124 : TI := ⟨1, 16, .nilIface, .lit .nilIface, .lit .nilIface, .iface, false⟩
@[simp] theorem t124_size : t124.size = 1 := rfl
@[simp] theorem t124_bytes : t124.bytes = 16 := rfl
@[simp] theorem t124_z : t124.z = .lit .nilIface := rfl
@[simp] theorem t124_y : t124.y = .lit .nilIface := rfl
@[simp] theorem t124_kind : t124.kind = .iface := rfl
@[simp] theorem t124_cmp : t124.cmp = false := rfl
/-- impl.judgement = loop.example/g03007/impl.judgement -/
def t125 : TI := ⟨1, 16, .nilIface, .lit .nilIface, .lit .nilIface, .iface, false⟩
@[simp] theorem t125_size : t125.size = 1 := rfl
@[simp] theorem t125_bytes : t125.bytes = 16 := rfl
@[simp] theorem t125_z : t125.z = .lit .nilIface := rfl
@[simp] theorem t125_y : t125.y = .lit .nilIface := rfl
@[simp] theorem t125_kind : t125.kind = .iface := rfl
@[simp] theorem t125_cmp : t125.cmp = false := rfl
/-- func(impl.Claim) int -/
def t128 : TI := ⟨1, 8, .nilFunc, .lit .nilFunc, .lit .nilFunc, .func, false⟩
@[simp] theorem t128_size : t128.size = 1 := rfl
@[simp] theorem t128_bytes : t128.bytes = 8 := rfl
@[simp] theorem t128_z : t128.z = .lit .nilFunc := rfl
@[simp] theorem t128_y : t128.y = .lit .nilFunc := rfl
@[simp] theorem t128_kind : t128.kind = .func := rfl
@[simp] theorem t128_cmp : t128.cmp = false := rfl
/-- struct { items []impl.Claim; numberOf func(impl.Claim) int } -/
def t129 : TI := ⟨2, 32, .agg #[.slice none 0 0, .nilFunc], .agg [.sl true 0 .any [], .lit .nilFunc], .any, .st [(0, 62), (1, 128)], false⟩
@[simp] theorem t129_size : t129.size = 2 := rfl
@[simp] theorem t129_bytes : t129.bytes = 32 := rfl
@[simp] theorem t129_z : t129.z = .agg [.sl true 0 .any [], .lit .nilFunc] := rfl
@[simp] theorem t129_y : t129.y = .any := rfl
@[simp] theorem t129_kind : t129.kind = .st [(0, 62), (1, 128)] := rfl
@[simp] theorem t129_cmp : t129.cmp = false := rfl
/-- impl.sortedList[loop.example/g03007/impl.Claim] = loop.example/g03007/impl.sortedList[loop.example/g03007/impl.Claim] -/
def t130 : TI := ⟨2, 32, .agg #[.slice none 0 0, .nilFunc], .agg [.sl true 0 .any [], .lit .nilFunc], .any, .st [(0, 62), (1, 128)], false⟩
@[simp] theorem t130_size : t130.size = 2 := rfl
@[simp] theorem t130_bytes : t130.bytes = 32 := rfl
@[simp] theorem t130_z : t130.z = .agg [.sl true 0 .any [], .lit .nilFunc] := rfl
@[simp] theorem t130_y : t130.y = .any := rfl
@[simp] theorem t130_kind : t130.kind = .st [(0, 62), (1, 128)] := rfl
@[simp] theorem t130_cmp : t130.cmp = false := rfl
/-- *impl.claimBook -/
def t134 : TI := ⟨1, 8, .pointer none, .lit (.pointer none), .lit (.pointer none), .ptr 146, false⟩
@[simp] theorem t134_size : t134.size = 1 := rfl
@[simp] theorem t134_bytes : t134.bytes = 8 := rfl
@[simp] theorem t134_z : t134.z = .lit (.pointer none) := rfl
@[simp] theorem t134_y : t134.y = .lit (.pointer none) := rfl
@[simp] theorem t134_kind : t134.kind = .ptr 146 := rfl
@[simp] theorem t134_cmp : t134.cmp = false := rfl
/-- *impl.Claim -/
def t143 : TI := ⟨1, 8, .pointer none, .lit (.pointer none), .lit (.pointer none), .ptr 72, false⟩
@[simp] theorem t143_size : t143.size = 1 := rfl
@[simp] theorem t143_bytes : t143.bytes = 8 := rfl
@[simp] theorem t143_z : t143.z = .lit (.pointer none) := rfl
@[simp] theorem t143_y : t143.y = .lit (.pointer none) := rfl
@[simp] theorem t143_kind : t143.kind = .ptr 72 := rfl
@[simp] theorem t143_cmp : t143.cmp = false := rfl
/-- map[int][]impl.Claim -/
def t144 : TI := ⟨1, 8, .map none, .fm 0 [] .any [], .any, .map 3 62, false⟩
@[simp] theorem t144_size : t144.size = 1 := rfl
@[simp] theorem t144_bytes : t144.bytes = 8 := rfl
@[simp] theorem t144_z : t144.z = .fm 0 [] .any [] := rfl
@[simp] theorem t144_y : t144.y = .any := rfl
@[simp] theorem t144_kind : t144.kind = .map 3 62 := rfl
@[simp] theorem t144_cmp : t144.cmp = false := rfl
/-- struct { byThing map[int][]impl.Claim } -/
def t145 : TI := ⟨1, 8, .agg #[.map none], .agg [.fm 0 [] .any []], .any, .st [(0, 144)], false⟩
@[simp] theorem t145_size : t145.size = 1 := rfl
@[simp] theorem t145_bytes : t145.bytes = 8 := rfl
@[simp] theorem t145_z : t145.z = .agg [.fm 0 [] .any []] := rfl
@[simp] theorem t145_y : t145.y = .any := rfl
@[simp] theorem t145_kind : t145.kind = .st [(0, 144)] := rfl
@[simp] theorem t145_cmp : t145.cmp = false := rfl
/-- impl.claimBook = loop.example/g03007/impl.claimBook -/
def t146 : TI := ⟨1, 8, .agg #[.map none], .agg [.fm 0 [] .any []], .any, .st [(0, 144)], false⟩
@[simp] theorem t146_size : t146.size = 1 := rfl
@[simp] theorem t146_bytes : t146.bytes = 8 := rfl
@[simp] theorem t146_z : t146.z = .agg [.fm 0 [] .any []] := rfl
@[simp] theorem t146_y : t146.y = .any := rfl
@[simp] theorem t146_kind : t146.kind = .st [(0, 144)] := rfl
@[simp] theorem t146_cmp : t146.cmp = false := rfl
/-- struct { Id int; Size int; Thing int } -/
def t147 : TI := ⟨3, 24, .agg #[.int .i64 0, .int .i64 0, .int .i64 0], .agg [.lit (.int .i64 0), .lit (.int .i64 0), .lit (.int .i64 0)], yTSlot, .st [(0, 3), (1, 3), (2, 3)], true⟩
@[simp] theorem t147_size : t147.size = 3 := rfl
@[simp] theorem t147_bytes : t147.bytes = 24 := rfl
@[simp] theorem t147_z : t147.z = .agg [.lit (.int .i64 0), .lit (.int .i64 0), .lit (.int .i64 0)] := rfl
@[simp] theorem t147_y : t147.y = yTSlot := rfl
@[simp] theorem t147_kind : t147.kind = .st [(0, 3), (1, 3), (2, 3)] := rfl
@[simp] theorem t147_cmp : t147.cmp = true := rfl
/-- impl.Slot = loop.example/g03007/impl.Slot -/
def t148 : TI := ⟨3, 24, .agg #[.int .i64 0, .int .i64 0, .int .i64 0], .agg [.lit (.int .i64 0), .lit (.int .i64 0), .lit (.int .i64 0)], yTSlot, .st [(0, 3), (1, 3), (2, 3)], true⟩
@[simp] theorem t148_size : t148.size = 3 := rfl
@[simp] theorem t148_bytes : t148.bytes = 24 := rfl
@[simp] theorem t148_z : t148.z = .agg [.lit (.int .i64 0), .lit (.int .i64 0), .lit (.int .i64 0)] := rfl
@[simp] theorem t148_y : t148.y = yTSlot := rfl
@[simp] theorem t148_kind : t148.kind = .st [(0, 3), (1, 3), (2, 3)] := rfl
@[simp] theorem t148_cmp : t148.cmp = true := rfl
/-- laws.Slot = loop.example/g03007/laws.Slot -/
def t150 : TI := ⟨3, 24, .agg #[.int .i64 0, .int .i64 0, .int .i64 0], .agg [.lit (.int .i64 0), .lit (.int .i64 0), .lit (.int .i64 0)], yTSlot, .st [(0, 3), (1, 3), (2, 3)], true⟩
@[simp] theorem t150_size : t150.size = 3 := rfl
@[simp] theorem t150_bytes : t150.bytes = 24 := rfl
@[simp] theorem t150_z : t150.z = .agg [.lit (.int .i64 0), .lit (.int .i64 0), .lit (.int .i64 0)] := rfl
@[simp] theorem t150_y : t150.y = yTSlot := rfl
@[simp] theorem t150_kind : t150.kind = .st [(0, 3), (1, 3), (2, 3)] := rfl
@[simp] theorem t150_cmp : t150.cmp = true := rfl
/-- func(impl.Slot) int -/
def t151 : TI := ⟨1, 8, .nilFunc, .lit .nilFunc, .lit .nilFunc, .func, false⟩
@[simp] theorem t151_size : t151.size = 1 := rfl
@[simp] theorem t151_bytes : t151.bytes = 8 := rfl
@[simp] theorem t151_z : t151.z = .lit .nilFunc := rfl
@[simp] theorem t151_y : t151.y = .lit .nilFunc := rfl
@[simp] theorem t151_kind : t151.kind = .func := rfl
@[simp] theorem t151_cmp : t151.cmp = false := rfl
/-- struct { items []impl.Slot; numberOf func(impl.Slot) int } -/
def t152 : TI := ⟨2, 32, .agg #[.slice none 0 0, .nilFunc], .agg [.sl true 0 .any [], .lit .nilFunc], .any, .st [(0, 82), (1, 151)], false⟩
@[simp] theorem t152_size : t152.size = 2 := rfl
@[simp] theorem t152_bytes : t152.bytes = 32 := rfl
@[simp] theorem t152_z : t152.z = .agg [.sl true 0 .any [], .lit .nilFunc] := rfl
@[simp] theorem t152_y : t152.y = .any := rfl
@[simp] theorem t152_kind : t152.kind = .st [(0, 82), (1, 151)] := rfl
@[simp] theorem t152_cmp : t152.cmp = false := rfl
/-- impl.sortedList[loop.example/g03007/impl.Slot] = loop.example/g03007/impl.sortedList[loop.example/g03007/impl.Slot] -/
def t153 : TI := ⟨2, 32, .agg #[.slice none 0 0, .nilFunc], .agg [.sl true 0 .any [], .lit .nilFunc], .any, .st [(0, 82), (1, 151)], false⟩
@[simp] theorem t153_size : t153.size = 2 := rfl
@[simp] theorem t153_bytes : t153.bytes = 32 := rfl
@[simp] theorem t153_z : t153.z = .agg [.sl true 0 .any [], .lit .nilFunc] := rfl
@[simp] theorem t153_y : t153.y = .any := rfl
@[simp] theorem t153_kind : t153.kind = .st [(0, 82), (1, 151)] := rfl
@[simp] theorem t153_cmp : t153.cmp = false := rfl
/-- struct {} -/
def t172 : TI := ⟨0, 0, .agg #[], .agg [], .any, .st [], false⟩
@[simp] theorem t172_size : t172.size = 0 := rfl
@[simp] theorem t172_bytes : t172.bytes = 0 := rfl
@[simp] theorem t172_z : t172.z = .agg [] := rfl
@[simp] theorem t172_y : t172.y = .any := rfl
@[simp] theorem t172_kind : t172.kind = .st [] := rfl
@[simp] theorem t172_cmp : t172.cmp = false := rfl
/-- impl.rightAnswer = loop.example/g03007/impl.rightAnswer -/
def t173 : TI := ⟨0, 0, .agg #[], .agg [], .any, .st [], false⟩
@[simp] theorem t173_size : t173.size = 0 := rfl
@[simp] theorem t173_bytes : t173.bytes = 0 := rfl
@[simp] theorem t173_z : t173.z = .agg [] := rfl
@[simp] theorem t173_y : t173.y = .any := rfl
@[simp] theorem t173_kind : t173.kind = .st [] := rfl
@[simp] theorem t173_cmp : t173.cmp = false := rfl
/-- impl.wrongAnswer = loop.example/g03007/impl.wrongAnswer -/
def t174 : TI := ⟨0, 0, .agg #[], .agg [], .any, .st [], false⟩
@[simp] theorem t174_size : t174.size = 0 := rfl
@[simp] theorem t174_bytes : t174.bytes = 0 := rfl
@[simp] theorem t174_z : t174.z = .agg [] := rfl
@[simp] theorem t174_y : t174.y = .any := rfl
@[simp] theorem t174_kind : t174.kind = .st [] := rfl
@[simp] theorem t174_cmp : t174.cmp = false := rfl
/-- impl.content = loop.example/g03007/impl.content -/
def t178 : TI := ⟨1, 8, .int .i64 0, .lit (.int .i64 0), .lit (.int .i64 0), .int .i64, false⟩
@[simp] theorem t178_size : t178.size = 1 := rfl
@[simp] theorem t178_bytes : t178.bytes = 8 := rfl
@[simp] theorem t178_z : t178.z = .lit (.int .i64 0) := rfl
@[simp] theorem t178_y : t178.y = .lit (.int .i64 0) := rfl
@[simp] theorem t178_kind : t178.kind = .int .i64 := rfl
@[simp] theorem t178_cmp : t178.cmp = false := rfl
/-- *impl.sizeHeap -/
def t179 : TI := ⟨1, 8, .pointer none, .lit (.pointer none), .lit (.pointer none), .ptr 181, false⟩
@[simp] theorem t179_size : t179.size = 1 := rfl
@[simp] theorem t179_bytes : t179.bytes = 8 := rfl
@[simp] theorem t179_z : t179.z = .lit (.pointer none) := rfl
@[simp] theorem t179_y : t179.y = .lit (.pointer none) := rfl
@[simp] theorem t179_kind : t179.kind = .ptr 181 := rfl
@[simp] theorem t179_cmp : t179.cmp = false := rfl
/-- []impl.freeSlot -/
def t180 : TI := ⟨1, 24, .slice none 0 0, .sl true 0 .any [], yLTFreeSlot, .slice 184, false⟩
@[simp] theorem t180_size : t180.size = 1 := rfl
@[simp] theorem t180_bytes : t180.bytes = 24 := rfl
@[simp] theorem t180_z : t180.z = .sl true 0 .any [] := rfl
@[simp] theorem t180_y : t180.y = yLTFreeSlot := rfl
@[simp] theorem t180_kind : t180.kind = .slice 184 := rfl
@[simp] theorem t180_cmp : t180.cmp = false := rfl
/-- impl.sizeHeap = loop.example/g03007/impl.sizeHeap -/
def t181 : TI := ⟨1, 24, .slice none 0 0, .sl true 0 .any [], yLTFreeSlot, .slice 184, false⟩
@[simp] theorem t181_size : t181.size = 1 := rfl
@[simp] theorem t181_bytes : t181.bytes = 24 := rfl
@[simp] theorem t181_z : t181.z = .sl true 0 .any [] := rfl
@[simp] theorem t181_y : t181.y = yLTFreeSlot := rfl
@[simp] theorem t181_kind : t181.kind = .slice 184 := rfl
@[simp] theorem t181_cmp : t181.cmp = false := rfl
/-- struct { size int; index int } -/
def t183 : TI := ⟨2, 16, .agg #[.int .i64 0, .int .i64 0], .agg [.lit (.int .i64 0), .lit (.int .i64 0)], yTFreeSlot, .st [(0, 3), (1, 3)], true⟩
@[simp] theorem t183_size : t183.size = 2 := rfl
@[simp] theorem t183_bytes : t183.bytes = 16 := rfl
@[simp] theorem t183_z : t183.z = .agg [.lit (.int .i64 0), .lit (.int .i64 0)] := rfl
@[simp] theorem t183_y : t183.y = yTFreeSlot := rfl
@[simp] theorem t183_kind : t183.kind = .st [(0, 3), (1, 3)] := rfl
@[simp] theorem t183_cmp : t183.cmp = true := rfl
/-- impl.freeSlot = loop.example/g03007/impl.freeSlot -/
def t184 : TI := ⟨2, 16, .agg #[.int .i64 0, .int .i64 0], .agg [.lit (.int .i64 0), .lit (.int .i64 0)], yTFreeSlot, .st [(0, 3), (1, 3)], true⟩
@[simp] theorem t184_size : t184.size = 2 := rfl
@[simp] theorem t184_bytes : t184.bytes = 16 := rfl
@[simp] theorem t184_z : t184.z = .agg [.lit (.int .i64 0), .lit (.int .i64 0)] := rfl
@[simp] theorem t184_y : t184.y = yTFreeSlot := rfl
@[simp] theorem t184_kind : t184.kind = .st [(0, 3), (1, 3)] := rfl
@[simp] theorem t184_cmp : t184.cmp = true := rfl
/-- uint -/
def t193 : TI := ⟨1, 8, .int .u64 0, .lit (.int .u64 0), .lit (.int .u64 0), .int .u64, false⟩
@[simp] theorem t193_size : t193.size = 1 := rfl
@[simp] theorem t193_bytes : t193.bytes = 8 := rfl
@[simp] theorem t193_z : t193.z = .lit (.int .u64 0) := rfl
@[simp] theorem t193_y : t193.y = .lit (.int .u64 0) := rfl
@[simp] theorem t193_kind : t193.kind = .int .u64 := rfl
@[simp] theorem t193_cmp : t193.cmp = false := rfl
/-- interface { Len() int; Less(int, int) bool; Pop() interface {}; Push(interface {}); Swap(int, int) } -/
def t195 : TI := ⟨1, 16, .nilIface, .lit .nilIface, .lit .nilIface, .iface, false⟩
@[simp] theorem t195_size : t195.size = 1 := rfl
@[simp] theorem t195_bytes : t195.bytes = 16 := rfl
@[simp] theorem t195_z : t195.z = .lit .nilIface := rfl
@[simp] theorem t195_y : t195.y = .lit .nilIface := rfl
@[simp] theorem t195_kind : t195.kind = .iface := rfl
@[simp] theorem t195_cmp : t195.cmp = false := rfl
/-- heap.Interface = container/heap.Interface -/
def t196 : TI := ⟨1, 16, .nilIface, .lit .nilIface, .lit .nilIface, .iface, false⟩
@[simp] theorem t196_size : t196.size = 1 := rfl
@[simp] theorem t196_bytes : t196.bytes = 16 := rfl
@[simp] theorem t196_z : t196.z = .lit .nilIface := rfl
@[simp] theorem t196_y : t196.y = .lit .nilIface := rfl
@[simp] theorem t196_kind : t196.kind = .iface := rfl
@[simp] theorem t196_cmp : t196.cmp = false := rfl
/-- slices.sortedHint -/
def t204 : TI := ⟨1, 8, .int .i64 0, .lit (.int .i64 0), .lit (.int .i64 0), .int .i64, false⟩
@[simp] theorem t204_size : t204.size = 1 := rfl
@[simp] theorem t204_bytes : t204.bytes = 8 := rfl
@[simp] theorem t204_z : t204.z = .lit (.int .i64 0) := rfl
@[simp] theorem t204_y : t204.y = .lit (.int .i64 0) := rfl
@[simp] theorem t204_kind : t204.kind = .int .i64 := rfl
@[simp] theorem t204_cmp : t204.cmp = false := rfl
/-- uint32 -/
def t211 : TI := ⟨1, 4, .int .u32 0, .lit (.int .u32 0), .lit (.int .u32 0), .int .u32, false⟩
@[simp] theorem t211_size : t211.size = 1 := rfl
@[simp] theorem t211_bytes : t211.bytes = 4 := rfl
@[simp] theorem t211_z : t211.z = .lit (.int .u32 0) := rfl
@[simp] theorem t211_y : t211.y = .lit (.int .u32 0) := rfl
@[simp] theorem t211_kind : t211.kind = .int .u32 := rfl
@[simp] theorem t211_cmp : t211.cmp = false := rfl
/-- uint64 -/
def t213 : TI := ⟨1, 8, .int .u64 0, .lit (.int .u64 0), .lit (.int .u64 0), .int .u64, false⟩
@[simp] theorem t213_size : t213.size = 1 := rfl
@[simp] theorem t213_bytes : t213.bytes = 8 := rfl
@[simp] theorem t213_z : t213.z = .lit (.int .u64 0) := rfl
@[simp] theorem t213_y : t213.y = .lit (.int .u64 0) := rfl
@[simp] theorem t213_kind : t213.kind = .int .u64 := rfl
@[simp] theorem t213_cmp : t213.cmp = false := rfl
/-- slices.xorshift -/
def t216 : TI := ⟨1, 8, .int .u64 0, .lit (.int .u64 0), .lit (.int .u64 0), .int .u64, false⟩
@[simp] theorem t216_size : t216.size = 1 := rfl
@[simp] theorem t216_bytes : t216.bytes = 8 := rfl
@[simp] theorem t216_z : t216.z = .lit (.int .u64 0) := rfl
@[simp] theorem t216_y : t216.y = .lit (.int .u64 0) := rfl
@[simp] theorem t216_kind : t216.kind = .int .u64 := rfl
@[simp] theorem t216_cmp : t216.cmp = false := rfl
/-- *int -/
def t220 : TI := ⟨1, 8, .pointer none, .lit (.pointer none), .lit (.pointer none), .ptr 3, false⟩
@[simp] theorem t220_size : t220.size = 1 := rfl
@[simp] theorem t220_bytes : t220.bytes = 8 := rfl
@[simp] theorem t220_z : t220.z = .lit (.pointer none) := rfl
@[simp] theorem t220_y : t220.y = .lit (.pointer none) := rfl
@[simp] theorem t220_kind : t220.kind = .ptr 3 := rfl
@[simp] theorem t220_cmp : t220.cmp = false := rfl
/-- *slices.xorshift -/
def t222 : TI := ⟨1, 8, .pointer none, .lit (.pointer none), .lit (.pointer none), .ptr 216, false⟩
@[simp] theorem t222_size : t222.size = 1 := rfl
@[simp] theorem t222_bytes : t222.bytes = 8 := rfl
@[simp] theorem t222_z : t222.z = .lit (.pointer none) := rfl
@[simp] theorem t222_y : t222.y = .lit (.pointer none) := rfl
@[simp] theorem t222_kind : t222.kind = .ptr 216 := rfl
@[simp] theorem t222_cmp : t222.cmp = false := rfl
/-- func(unsafe.Pointer, unsafe.Pointer) bool -/
def t233 : TI := ⟨1, 8, .nilFunc, .lit .nilFunc, .lit .nilFunc, .func, false⟩
@[simp] theorem t233_size : t233.size = 1 := rfl
@[simp] theorem t233_bytes : t233.bytes = 8 := rfl
@[simp] theorem t233_z : t233.z = .lit .nilFunc := rfl
@[simp] theorem t233_y : t233.y = .lit .nilFunc := rfl
@[simp] theorem t233_kind : t233.kind = .func := rfl
@[simp] theorem t233_cmp : t233.cmp = false := rfl
/-- *uint8 -/
def t234 : TI := ⟨1, 8, .pointer none, .lit (.pointer none), .lit (.pointer none), .ptr 5, false⟩
@[simp] theorem t234_size : t234.size = 1 := rfl
@[simp] theorem t234_bytes : t234.bytes = 8 := rfl
@[simp] theorem t234_z : t234.z = .lit (.pointer none) := rfl
@[simp] theorem t234_y : t234.y = .lit (.pointer none) := rfl
@[simp] theorem t234_kind : t234.kind = .ptr 5 := rfl
@[simp] theorem t234_cmp : t234.cmp = false := rfl
/-- struct { Size_ uintptr; PtrBytes uintptr; Hash uint32; TFlag abi.TFlag; Align_ uint8; FieldAlign_ uint8; Kind_ abi.Kind; Equal func(unsafe.Pointer, unsafe.Pointer) bool; GCData *uint8; Str abi.NameOff; PtrToThis abi.TypeOff } -/
def t237 : TI := ⟨11, 48, .agg #[.int .u64 0, .int .u64 0, .int .u32 0, .int .u8 0, .int .u8 0, .int .u8 0, .int .u8 0, .nilFunc, .pointer none, .int .i32 0, .int .i32 0], .agg [.lit (.int .u64 0), .lit (.int .u64 0), .lit (.int .u32 0), .lit (.int .u8 0), .lit (.int .u8 0), .lit (.int .u8 0), .lit (.int .u8 0), .lit .nilFunc, .lit (.pointer none), .lit (.int .i32 0), .lit (.int .i32 0)], .any, .st [(0, 12), (1, 12), (2, 211), (3, 231), (4, 5), (5, 5), (6, 232), (7, 233), (8, 234), (9, 235), (10, 236)], false⟩
@[simp] theorem t237_size : t237.size = 11 := rfl
@[simp] theorem t237_bytes : t237.bytes = 48 := rfl
@[simp] theorem t237_z : t237.z = .agg [.lit (.int .u64 0), .lit (.int .u64 0), .lit (.int .u32 0), .lit (.int .u8 0), .lit (.int .u8 0), .lit (.int .u8 0), .lit (.int .u8 0), .lit .nilFunc, .lit (.pointer none), .lit (.int .i32 0), .lit (.int .i32 0)] := rfl
@[simp] theorem t237_y : t237.y = .any := rfl
@[simp] theorem t237_kind : t237.kind = .st [(0, 12), (1, 12), (2, 211), (3, 231), (4, 5), (5, 5), (6, 232), (7, 233), (8, 234), (9, 235), (10, 236)] := rfl
@[simp] theorem t237_cmp : t237.cmp = false := rfl
theorem t2_ok : t2.ok Try.prog 2 := ⟨by kernel_rfl, by kernel_rfl, by kernel_rfl, Try.underlying2, (fun h => by cases h), ⟨rfl, rfl, rfl, rfl, fun F h β => by simp [t2, Rep, Reps]⟩⟩
theorem t3_ok : t3.ok Try.prog 3 := ⟨by kernel_rfl, by kernel_rfl, by kernel_rfl, Try.underlying3, (fun h => by cases h), ⟨rfl, rfl, rfl, rfl, fun F h β => by simp [t3, Rep, Reps]⟩⟩
theorem t4_ok : t4.ok Try.prog 4 := ⟨by kernel_rfl, by kernel_rfl, by kernel_rfl, Try.underlying4, (fun h => by cases h), ⟨rfl, rfl, rfl, rfl, fun F h β => by simp [t4, Rep, Reps]⟩⟩
theorem t5_ok : t5.ok Try.prog 5 := ⟨by kernel_rfl, by kernel_rfl, by kernel_rfl, Try.underlying5, (fun h => by cases h), ⟨rfl, rfl, rfl, rfl, fun F h β => by simp [t5, Rep, Reps]⟩⟩
theorem t9_ok : t9.ok Try.prog 9 := ⟨by kernel_rfl, by kernel_rfl, by kernel_rfl, Try.underlying9, (fun h => by cases h), ⟨rfl, rfl, rfl, rfl, fun F h β => by simp [t9, Rep, Reps]⟩⟩
theorem t12_ok : t12.ok Try.prog 12 := ⟨by kernel_rfl, by kernel_rfl, by kernel_rfl, Try.underlying12, (fun h => by cases h), ⟨rfl, rfl, rfl, rfl, fun F h β => by simp [t12, Rep, Reps]⟩⟩
theorem t20_ok : t20.ok Try.prog 20 := ⟨by kernel_rfl, by kernel_rfl, by kernel_rfl, ⟨_, Try.underlying20⟩, (fun h => by cases h), ⟨rfl, rfl, rfl, rfl, fun F h β => by simp [t20, Rep, Reps]⟩⟩
theorem t21_ok : t21.ok Try.prog 21 := ⟨by kernel_rfl, by kernel_rfl, by kernel_rfl, Try.underlying21, (fun h => by cases h), ⟨rfl, rfl, rfl, rfl, fun F h β => by simp [t21, Rep, Reps]⟩⟩
theorem t22_ok : t22.ok Try.prog 22 := ⟨by kernel_rfl, by kernel_rfl, by kernel_rfl, Try.underlying22, (fun h => by cases h), ⟨rfl, rfl, rfl, rfl, fun F h β => by simp [t22, Rep, Reps]⟩⟩
theorem t25_ok : t25.ok Try.prog 25 := ⟨by kernel_rfl, by kernel_rfl, by kernel_rfl, Try.underlying25, (fun h => by cases h), ⟨rfl, rfl, rfl, rfl, fun F h β => by simp [t25, Rep, Reps]⟩⟩
theorem t34_ok : t34.ok Try.prog 34 := ⟨by kernel_rfl, by kernel_rfl, by kernel_rfl, ⟨_, Try.underlying34, rfl⟩, (fun _ => eqInts_of (by kernel_rfl) (by kernel_rfl) (by kernel_rfl)), ⟨rfl, rfl, rfl, rfl, fun F h β => by simp [t34, Rep, Reps]⟩⟩
theorem t35_ok : t35.ok Try.prog 35 := ⟨by kernel_rfl, by kernel_rfl, by kernel_rfl, ⟨_, Try.underlying35, rfl⟩, (fun _ => eqInts_of (by kernel_rfl) (by kernel_rfl) (by kernel_rfl)), ⟨rfl, rfl, rfl, rfl, fun F h β => by simp [t35, Rep, Reps]⟩⟩
theorem t38_ok : t38.ok Try.prog 38 := ⟨by kernel_rfl, by kernel_rfl, by kernel_rfl, ⟨_, Try.underlying38, rfl⟩, (fun _ => eqInts_of (by kernel_rfl) (by kernel_rfl) (by kernel_rfl)), ⟨rfl, rfl, rfl, rfl, fun F h β => by simp [t38, Rep, Reps]⟩⟩
theorem t41_ok : t41.ok Try.prog 41 := ⟨by kernel_rfl, by kernel_rfl, by kernel_rfl, ⟨_, Try.underlying41, rfl⟩, (fun _ => eqInts_of (by kernel_rfl) (by kernel_rfl) (by kernel_rfl)), ⟨rfl, rfl, rfl, rfl, fun F h β => by simp [t41, Rep, Reps]⟩⟩
theorem t42_ok : t42.ok Try.prog 42 := ⟨by kernel_rfl, by kernel_rfl, by kernel_rfl, ⟨_, Try.underlying42, rfl⟩, (fun _ => eqInts_of (by kernel_rfl) (by kernel_rfl) (by kernel_rfl)), ⟨rfl, rfl, rfl, rfl, fun F h β => by simp [t42, Rep, Reps]⟩⟩
theorem t44_ok : t44.ok Try.prog 44 := ⟨by kernel_rfl, by kernel_rfl, by kernel_rfl, ⟨_, Try.underlying44, rfl⟩, (fun _ => eqInts_of (by kernel_rfl) (by kernel_rfl) (by kernel_rfl)), ⟨rfl, rfl, rfl, rfl, fun F h β => by simp [t44, Rep, Reps]⟩⟩
theorem t54_ok : t54.ok Try.prog 54 := ⟨by kernel_rfl, by kernel_rfl, by kernel_rfl, Try.underlying54, (fun h => by cases h), ⟨rfl, rfl, rfl, rfl, fun F h β => by simp [t54, Rep, Reps]⟩⟩
theorem t59_ok : t59.ok Try.prog 59 := ⟨by kernel_rfl, by kernel_rfl, by kernel_rfl, Try.underlying59, (fun h => by cases h), ⟨rfl, rfl, rfl, rfl, fun F h β => by simp [t59, Rep, Reps]⟩⟩
theorem t62_ok : t62.ok Try.prog 62 := ⟨by kernel_rfl, by kernel_rfl, by kernel_rfl, Try.underlying62, (fun h => by cases h), ⟨rfl, rfl, rfl, rfl, fun F h β => by simp [t62, Rep, Reps]⟩⟩
theorem t68_ok : t68.ok Try.prog 68 := ⟨by kernel_rfl, by kernel_rfl, by kernel_rfl, ⟨_, Try.underlying68, rfl⟩, (fun _ => eqInts_of (by kernel_rfl) (by kernel_rfl) (by kernel_rfl)), ⟨rfl, rfl, rfl, rfl, fun F h β => by simp [t68, Rep, Reps]⟩⟩
theorem t69_ok : t69.ok Try.prog 69 := ⟨by kernel_rfl, by kernel_rfl, by kernel_rfl, ⟨_, Try.underlying69, rfl⟩, (fun _ => eqInts_of (by kernel_rfl) (by kernel_rfl) (by kernel_rfl)), ⟨rfl, rfl, rfl, rfl, fun F h β => by simp [t69, Rep, Reps]⟩⟩
theorem t72_ok : t72.ok Try.prog 72 := ⟨by kernel_rfl, by kernel_rfl, by kernel_rfl, ⟨_, Try.underlying72, rfl⟩, (fun _ => eqInts_of (by kernel_rfl) (by kernel_rfl) (by kernel_rfl)), ⟨rfl, rfl, rfl, rfl, fun F h β => by simp [t72, Rep, Reps]⟩⟩
theorem t79_ok : t79.ok Try.prog 79 := ⟨by kernel_rfl, by kernel_rfl, by kernel_rfl, Try.underlying79, (fun h => by cases h), ⟨rfl, rfl, rfl, rfl, fun F h β => by simp [t79, Rep, Reps]⟩⟩
theorem t82_ok : t82.ok Try.prog 82 := ⟨by kernel_rfl, by kernel_rfl, by kernel_rfl, Try.underlying82, (fun h => by cases h), ⟨rfl, rfl, rfl, rfl, fun F h β => by simp [t82, Rep, Reps]⟩⟩
theorem t88_ok : t88.ok Try.prog 88 := ⟨by kernel_rfl, by kernel_rfl, by kernel_rfl, ⟨_, Try.underlying88, rfl⟩, (fun _ => eqInts_of (by kernel_rfl) (by kernel_rfl) (by kernel_rfl)), ⟨rfl, rfl, rfl, rfl, fun F h β => by simp [t88, Rep, Reps]⟩⟩
theorem t89_ok : t89.ok Try.prog 89 := ⟨by kernel_rfl, by kernel_rfl, by kernel_rfl, ⟨_, Try.underlying89, rfl⟩, (fun _ => eqInts_of (by kernel_rfl) (by kernel_rfl) (by kernel_rfl)), ⟨rfl, rfl, rfl, rfl, fun F h β => by simp [t89, Rep, Reps]⟩⟩
theorem t92_ok : t92.ok Try.prog 92 := ⟨by kernel_rfl, by kernel_rfl, by kernel_rfl, ⟨_, Try.underlying92, rfl⟩, (fun _ => eqInts_of (by kernel_rfl) (by kernel_rfl) (by kernel_rfl)), ⟨rfl, rfl, rfl, rfl, fun F h β => by simp [t92, Rep, Reps]⟩⟩
theorem t97_ok : t97.ok Try.prog 97 := ⟨by kernel_rfl, by kernel_rfl, by kernel_rfl, Try.underlying97, (fun h => by cases h), ⟨rfl, rfl, rfl, rfl, fun F h β => by simp [t97, Rep, Reps]⟩⟩
theorem t101_ok : t101.ok Try.prog 101 := ⟨by kernel_rfl, by kernel_rfl, by kernel_rfl, Try.underlying101, (fun h => by cases h), ⟨rfl, rfl, rfl, rfl, fun F h β => by simp [t101, Rep, Reps]⟩⟩
theorem t110_ok : t110.ok Try.prog 110 := ⟨by kernel_rfl, by kernel_rfl, by kernel_rfl, ⟨_, _, _, Try.underlying110⟩, (fun h => by cases h), ⟨rfl, rfl, rfl, rfl, fun F h β => by simp [t110, Rep, Reps]⟩⟩
theorem t111_ok : t111.ok Try.prog 111 := ⟨by kernel_rfl, by kernel_rfl, by kernel_rfl, ⟨_, Try.underlying111, rfl⟩, (fun h => by cases h), ⟨rfl, rfl, rfl, rfl, fun F h β => by
    show Rep F h β t111.z t111.zero
    simp only [t111, Rep, Reps]
    exact ⟨_, rfl, _, _, rfl, (.inl ⟨by trivial, none, 0, by trivial, by intros; rfl⟩), _, _, rfl, (by trivial), rfl⟩⟩⟩
theorem t112_ok : t112.ok Try.prog 112 := ⟨by kernel_rfl, by kernel_rfl, by kernel_rfl, ⟨_, Try.underlying112, rfl⟩, (fun h => by cases h), ⟨rfl, rfl, rfl, rfl, fun F h β => by
    show Rep F h β t112.z t112.zero
    simp only [t112, Rep, Reps]
    exact ⟨_, rfl, _, _, rfl, (.inl ⟨by trivial, none, 0, by trivial, by intros; rfl⟩), _, _, rfl, (by trivial), rfl⟩⟩⟩
theorem t118_ok : t118.ok Try.prog 118 := ⟨by kernel_rfl, by kernel_rfl, by kernel_rfl, Try.underlying118, (fun h => by cases h), ⟨rfl, rfl, rfl, rfl, fun F h β => by simp [t118, Rep, Reps]⟩⟩
theorem t124_ok : t124.ok Try.prog 124 := ⟨by kernel_rfl, by kernel_rfl, by kernel_rfl, ⟨_, Try.underlying124⟩, (fun h => by cases h), ⟨rfl, rfl, rfl, rfl, fun F h β => by simp [t124, Rep, Reps]⟩⟩
theorem t125_ok : t125.ok Try.prog 125 := ⟨by kernel_rfl, by kernel_rfl, by kernel_rfl, ⟨_, Try.underlying125⟩, (fun h => by cases h), ⟨rfl, rfl, rfl, rfl, fun F h β => by simp [t125, Rep, Reps]⟩⟩
theorem t128_ok : t128.ok Try.prog 128 := ⟨by kernel_rfl, by kernel_rfl, by kernel_rfl, ⟨_, _, _, Try.underlying128⟩, (fun h => by cases h), ⟨rfl, rfl, rfl, rfl, fun F h β => by simp [t128, Rep, Reps]⟩⟩
theorem t129_ok : t129.ok Try.prog 129 := ⟨by kernel_rfl, by kernel_rfl, by kernel_rfl, ⟨_, Try.underlying129, rfl⟩, (fun h => by cases h), ⟨rfl, rfl, rfl, rfl, fun F h β => by
    show Rep F h β t129.z t129.zero
    simp only [t129, Rep, Reps]
    exact ⟨_, rfl, _, _, rfl, (.inl ⟨by trivial, none, 0, by trivial, by intros; rfl⟩), _, _, rfl, (by trivial), rfl⟩⟩⟩
theorem t130_ok : t130.ok Try.prog 130 := ⟨by kernel_rfl, by kernel_rfl, by kernel_rfl, ⟨_, Try.underlying130, rfl⟩, (fun h => by cases h), ⟨rfl, rfl, rfl, rfl, fun F h β => by
    show Rep F h β t130.z t130.zero
    simp only [t130, Rep, Reps]
    exact ⟨_, rfl, _, _, rfl, (.inl ⟨by trivial, none, 0, by trivial, by intros; rfl⟩), _, _, rfl, (by trivial), rfl⟩⟩⟩
theorem t134_ok : t134.ok Try.prog 134 := ⟨by kernel_rfl, by kernel_rfl, by kernel_rfl, Try.underlying134, (fun h => by cases h), ⟨rfl, rfl, rfl, rfl, fun F h β => by simp [t134, Rep, Reps]⟩⟩
theorem t143_ok : t143.ok Try.prog 143 := ⟨by kernel_rfl, by kernel_rfl, by kernel_rfl, Try.underlying143, (fun h => by cases h), ⟨rfl, rfl, rfl, rfl, fun F h β => by simp [t143, Rep, Reps]⟩⟩
theorem t144_ok : t144.ok Try.prog 144 := ⟨by kernel_rfl, by kernel_rfl, by kernel_rfl, Try.underlying144, (fun h => by cases h), ⟨rfl, rfl, rfl, rfl, fun F h β => by simp [t144, Rep, Reps]⟩⟩
theorem t145_ok : t145.ok Try.prog 145 := ⟨by kernel_rfl, by kernel_rfl, by kernel_rfl, ⟨_, Try.underlying145, rfl⟩, (fun h => by cases h), ⟨rfl, rfl, rfl, rfl, fun F h β => by
    show Rep F h β t145.z t145.zero
    simp only [t145, Rep, Reps]
    exact ⟨_, rfl, _, _, rfl, (.inl ⟨by trivial, by trivial, by trivial⟩), rfl⟩⟩⟩
theorem t146_ok : t146.ok Try.prog 146 := ⟨by kernel_rfl, by kernel_rfl, by kernel_rfl, ⟨_, Try.underlying146, rfl⟩, (fun h => by cases h), ⟨rfl, rfl, rfl, rfl, fun F h β => by
    show Rep F h β t146.z t146.zero
    simp only [t146, Rep, Reps]
    exact ⟨_, rfl, _, _, rfl, (.inl ⟨by trivial, by trivial, by trivial⟩), rfl⟩⟩⟩
theorem t147_ok : t147.ok Try.prog 147 := ⟨by kernel_rfl, by kernel_rfl, by kernel_rfl, ⟨_, Try.underlying147, rfl⟩, (fun _ => eqInts_of (by kernel_rfl) (by kernel_rfl) (by kernel_rfl)), ⟨rfl, rfl, rfl, rfl, fun F h β => by simp [t147, Rep, Reps]⟩⟩
theorem t148_ok : t148.ok Try.prog 148 := ⟨by kernel_rfl, by kernel_rfl, by kernel_rfl, ⟨_, Try.underlying148, rfl⟩, (fun _ => eqInts_of (by kernel_rfl) (by kernel_rfl) (by kernel_rfl)), ⟨rfl, rfl, rfl, rfl, fun F h β => by simp [t148, Rep, Reps]⟩⟩
theorem t150_ok : t150.ok Try.prog 150 := ⟨by kernel_rfl, by kernel_rfl, by kernel_rfl, ⟨_, Try.underlying150, rfl⟩, (fun _ => eqInts_of (by kernel_rfl) (by kernel_rfl) (by kernel_rfl)), ⟨rfl, rfl, rfl, rfl, fun F h β => by simp [t150, Rep, Reps]⟩⟩
theorem t151_ok : t151.ok Try.prog 151 := ⟨by kernel_rfl, by kernel_rfl, by kernel_rfl, ⟨_, _, _, Try.underlying151⟩, (fun h => by cases h), ⟨rfl, rfl, rfl, rfl, fun F h β => by simp [t151, Rep, Reps]⟩⟩
theorem t152_ok : t152.ok Try.prog 152 := ⟨by kernel_rfl, by kernel_rfl, by kernel_rfl, ⟨_, Try.underlying152, rfl⟩, (fun h => by cases h), ⟨rfl, rfl, rfl, rfl, fun F h β => by
    show Rep F h β t152.z t152.zero
    simp only [t152, Rep, Reps]
    exact ⟨_, rfl, _, _, rfl, (.inl ⟨by trivial, none, 0, by trivial, by intros; rfl⟩), _, _, rfl, (by trivial), rfl⟩⟩⟩
theorem t153_ok : t153.ok Try.prog 153 := ⟨by kernel_rfl, by kernel_rfl, by kernel_rfl, ⟨_, Try.underlying153, rfl⟩, (fun h => by cases h), ⟨rfl, rfl, rfl, rfl, fun F h β => by
    show Rep F h β t153.z t153.zero
    simp only [t153, Rep, Reps]
    exact ⟨_, rfl, _, _, rfl, (.inl ⟨by trivial, none, 0, by trivial, by intros; rfl⟩), _, _, rfl, (by trivial), rfl⟩⟩⟩
theorem t172_ok : t172.ok Try.prog 172 := ⟨by kernel_rfl, by kernel_rfl, by kernel_rfl, ⟨_, Try.underlying172, rfl⟩, (fun h => by cases h), ⟨rfl, rfl, rfl, rfl, fun F h β => by simp [t172, Rep, Reps]⟩⟩
theorem t173_ok : t173.ok Try.prog 173 := ⟨by kernel_rfl, by kernel_rfl, by kernel_rfl, ⟨_, Try.underlying173, rfl⟩, (fun h => by cases h), ⟨rfl, rfl, rfl, rfl, fun F h β => by simp [t173, Rep, Reps]⟩⟩
theorem t174_ok : t174.ok Try.prog 174 := ⟨by kernel_rfl, by kernel_rfl, by kernel_rfl, ⟨_, Try.underlying174, rfl⟩, (fun h => by cases h), ⟨rfl, rfl, rfl, rfl, fun F h β => by simp [t174, Rep, Reps]⟩⟩
theorem t178_ok : t178.ok Try.prog 178 := ⟨by kernel_rfl, by kernel_rfl, by kernel_rfl, Try.underlying178, (fun h => by cases h), ⟨rfl, rfl, rfl, rfl, fun F h β => by simp [t178, Rep, Reps]⟩⟩
theorem t179_ok : t179.ok Try.prog 179 := ⟨by kernel_rfl, by kernel_rfl, by kernel_rfl, Try.underlying179, (fun h => by cases h), ⟨rfl, rfl, rfl, rfl, fun F h β => by simp [t179, Rep, Reps]⟩⟩
theorem t180_ok : t180.ok Try.prog 180 := ⟨by kernel_rfl, by kernel_rfl, by kernel_rfl, Try.underlying180, (fun h => by cases h), ⟨rfl, rfl, rfl, rfl, fun F h β => by simp [t180, Rep, Reps]⟩⟩
theorem t181_ok : t181.ok Try.prog 181 := ⟨by kernel_rfl, by kernel_rfl, by kernel_rfl, Try.underlying181, (fun h => by cases h), ⟨rfl, rfl, rfl, rfl, fun F h β => by simp [t181, Rep, Reps]⟩⟩
theorem t183_ok : t183.ok Try.prog 183 := ⟨by kernel_rfl, by kernel_rfl, by kernel_rfl, ⟨_, Try.underlying183, rfl⟩, (fun _ => eqInts_of (by kernel_rfl) (by kernel_rfl) (by kernel_rfl)), ⟨rfl, rfl, rfl, rfl, fun F h β => by simp [t183, Rep, Reps]⟩⟩
theorem t184_ok : t184.ok Try.prog 184 := ⟨by kernel_rfl, by kernel_rfl, by kernel_rfl, ⟨_, Try.underlying184, rfl⟩, (fun _ => eqInts_of (by kernel_rfl) (by kernel_rfl) (by kernel_rfl)), ⟨rfl, rfl, rfl, rfl, fun F h β => by simp [t184, Rep, Reps]⟩⟩
theorem t193_ok : t193.ok Try.prog 193 := ⟨by kernel_rfl, by kernel_rfl, by kernel_rfl, Try.underlying193, (fun h => by cases h), ⟨rfl, rfl, rfl, rfl, fun F h β => by simp [t193, Rep, Reps]⟩⟩
theorem t195_ok : t195.ok Try.prog 195 := ⟨by kernel_rfl, by kernel_rfl, by kernel_rfl, ⟨_, Try.underlying195⟩, (fun h => by cases h), ⟨rfl, rfl, rfl, rfl, fun F h β => by simp [t195, Rep, Reps]⟩⟩
theorem t196_ok : t196.ok Try.prog 196 := ⟨by kernel_rfl, by kernel_rfl, by kernel_rfl, ⟨_, Try.underlying196⟩, (fun h => by cases h), ⟨rfl, rfl, rfl, rfl, fun F h β => by simp [t196, Rep, Reps]⟩⟩
theorem t204_ok : t204.ok Try.prog 204 := ⟨by kernel_rfl, by kernel_rfl, by kernel_rfl, Try.underlying204, (fun h => by cases h), ⟨rfl, rfl, rfl, rfl, fun F h β => by simp [t204, Rep, Reps]⟩⟩
theorem t211_ok : t211.ok Try.prog 211 := ⟨by kernel_rfl, by kernel_rfl, by kernel_rfl, Try.underlying211, (fun h => by cases h), ⟨rfl, rfl, rfl, rfl, fun F h β => by simp [t211, Rep, Reps]⟩⟩
theorem t213_ok : t213.ok Try.prog 213 := ⟨by kernel_rfl, by kernel_rfl, by kernel_rfl, Try.underlying213, (fun h => by cases h), ⟨rfl, rfl, rfl, rfl, fun F h β => by simp [t213, Rep, Reps]⟩⟩
theorem t216_ok : t216.ok Try.prog 216 := ⟨by kernel_rfl, by kernel_rfl, by kernel_rfl, Try.underlying216, (fun h => by cases h), ⟨rfl, rfl, rfl, rfl, fun F h β => by simp [t216, Rep, Reps]⟩⟩
theorem t220_ok : t220.ok Try.prog 220 := ⟨by kernel_rfl, by kernel_rfl, by kernel_rfl, Try.underlying220, (fun h => by cases h), ⟨rfl, rfl, rfl, rfl, fun F h β => by simp [t220, Rep, Reps]⟩⟩
theorem t222_ok : t222.ok Try.prog 222 := ⟨by kernel_rfl, by kernel_rfl, by kernel_rfl, Try.underlying222, (fun h => by cases h), ⟨rfl, rfl, rfl, rfl, fun F h β => by simp [t222, Rep, Reps]⟩⟩
theorem t233_ok : t233.ok Try.prog 233 := ⟨by kernel_rfl, by kernel_rfl, by kernel_rfl, ⟨_, _, _, Try.underlying233⟩, (fun h => by cases h), ⟨rfl, rfl, rfl, rfl, fun F h β => by simp [t233, Rep, Reps]⟩⟩
theorem t234_ok : t234.ok Try.prog 234 := ⟨by kernel_rfl, by kernel_rfl, by kernel_rfl, Try.underlying234, (fun h => by cases h), ⟨rfl, rfl, rfl, rfl, fun F h β => by simp [t234, Rep, Reps]⟩⟩
theorem t237_ok : t237.ok Try.prog 237 := ⟨by kernel_rfl, by kernel_rfl, by kernel_rfl, ⟨_, Try.underlying237, rfl⟩, (fun h => by cases h), ⟨rfl, rfl, rfl, rfl, fun F h β => by simp [t237, Rep, Reps]⟩⟩
def G : Ctx := [(2, t2), (3, t3), (4, t4), (5, t5), (9, t9), (12, t12), (20, t20), (21, t21), (22, t22), (25, t25), (34, t34), (35, t35), (38, t38), (41, t41), (42, t42), (44, t44), (54, t54), (59, t59), (62, t62), (68, t68), (69, t69), (72, t72), (79, t79), (82, t82), (88, t88), (89, t89), (92, t92), (97, t97), (101, t101), (110, t110), (111, t111), (112, t112), (118, t118), (124, t124), (125, t125), (128, t128), (129, t129), (130, t130), (134, t134), (143, t143), (144, t144), (145, t145), (146, t146), (147, t147), (148, t148), (150, t150), (151, t151), (152, t152), (153, t153), (172, t172), (173, t173), (174, t174), (178, t178), (179, t179), (180, t180), (181, t181), (183, t183), (184, t184), (193, t193), (195, t195), (196, t196), (204, t204), (211, t211), (213, t213), (216, t216), (220, t220), (222, t222), (233, t233), (234, t234), (237, t237)]
@[simp] theorem G_2 : G.get 2 = some t2 := rfl
@[simp] theorem G_3 : G.get 3 = some t3 := rfl
@[simp] theorem G_4 : G.get 4 = some t4 := rfl
@[simp] theorem G_5 : G.get 5 = some t5 := rfl
@[simp] theorem G_9 : G.get 9 = some t9 := rfl
@[simp] theorem G_12 : G.get 12 = some t12 := rfl
@[simp] theorem G_20 : G.get 20 = some t20 := rfl
@[simp] theorem G_21 : G.get 21 = some t21 := rfl
@[simp] theorem G_22 : G.get 22 = some t22 := rfl
@[simp] theorem G_25 : G.get 25 = some t25 := rfl
@[simp] theorem G_34 : G.get 34 = some t34 := rfl
@[simp] theorem G_35 : G.get 35 = some t35 := rfl
@[simp] theorem G_38 : G.get 38 = some t38 := rfl
@[simp] theorem G_41 : G.get 41 = some t41 := rfl
@[simp] theorem G_42 : G.get 42 = some t42 := rfl
@[simp] theorem G_44 : G.get 44 = some t44 := rfl
@[simp] theorem G_54 : G.get 54 = some t54 := rfl
@[simp] theorem G_59 : G.get 59 = some t59 := rfl
@[simp] theorem G_62 : G.get 62 = some t62 := rfl
@[simp] theorem G_68 : G.get 68 = some t68 := rfl
@[simp] theorem G_69 : G.get 69 = some t69 := rfl
@[simp] theorem G_72 : G.get 72 = some t72 := rfl
@[simp] theorem G_79 : G.get 79 = some t79 := rfl
@[simp] theorem G_82 : G.get 82 = some t82 := rfl
@[simp] theorem G_88 : G.get 88 = some t88 := rfl
@[simp] theorem G_89 : G.get 89 = some t89 := rfl
@[simp] theorem G_92 : G.get 92 = some t92 := rfl
@[simp] theorem G_97 : G.get 97 = some t97 := rfl
@[simp] theorem G_101 : G.get 101 = some t101 := rfl
@[simp] theorem G_110 : G.get 110 = some t110 := rfl
@[simp] theorem G_111 : G.get 111 = some t111 := rfl
@[simp] theorem G_112 : G.get 112 = some t112 := rfl
@[simp] theorem G_118 : G.get 118 = some t118 := rfl
@[simp] theorem G_124 : G.get 124 = some t124 := rfl
@[simp] theorem G_125 : G.get 125 = some t125 := rfl
@[simp] theorem G_128 : G.get 128 = some t128 := rfl
@[simp] theorem G_129 : G.get 129 = some t129 := rfl
@[simp] theorem G_130 : G.get 130 = some t130 := rfl
@[simp] theorem G_134 : G.get 134 = some t134 := rfl
@[simp] theorem G_143 : G.get 143 = some t143 := rfl
@[simp] theorem G_144 : G.get 144 = some t144 := rfl
@[simp] theorem G_145 : G.get 145 = some t145 := rfl
@[simp] theorem G_146 : G.get 146 = some t146 := rfl
@[simp] theorem G_147 : G.get 147 = some t147 := rfl
@[simp] theorem G_148 : G.get 148 = some t148 := rfl
@[simp] theorem G_150 : G.get 150 = some t150 := rfl
@[simp] theorem G_151 : G.get 151 = some t151 := rfl
@[simp] theorem G_152 : G.get 152 = some t152 := rfl
@[simp] theorem G_153 : G.get 153 = some t153 := rfl
@[simp] theorem G_172 : G.get 172 = some t172 := rfl
@[simp] theorem G_173 : G.get 173 = some t173 := rfl
@[simp] theorem G_174 : G.get 174 = some t174 := rfl
@[simp] theorem G_178 : G.get 178 = some t178 := rfl
@[simp] theorem G_179 : G.get 179 = some t179 := rfl
@[simp] theorem G_180 : G.get 180 = some t180 := rfl
@[simp] theorem G_181 : G.get 181 = some t181 := rfl
@[simp] theorem G_183 : G.get 183 = some t183 := rfl
@[simp] theorem G_184 : G.get 184 = some t184 := rfl
@[simp] theorem G_193 : G.get 193 = some t193 := rfl
@[simp] theorem G_195 : G.get 195 = some t195 := rfl
@[simp] theorem G_196 : G.get 196 = some t196 := rfl
@[simp] theorem G_204 : G.get 204 = some t204 := rfl
@[simp] theorem G_211 : G.get 211 = some t211 := rfl
@[simp] theorem G_213 : G.get 213 = some t213 := rfl
@[simp] theorem G_216 : G.get 216 = some t216 := rfl
@[simp] theorem G_220 : G.get 220 = some t220 := rfl
@[simp] theorem G_222 : G.get 222 = some t222 := rfl
@[simp] theorem G_233 : G.get 233 = some t233 := rfl
@[simp] theorem G_234 : G.get 234 = some t234 := rfl
@[simp] theorem G_237 : G.get 237 = some t237 := rfl
theorem G_ok : G.ok Try.prog := by
  intro p hp
  simp only [G, List.mem_cons, List.not_mem_nil, or_false] at hp
  rcases hp with rfl | rfl | rfl | rfl | rfl | rfl | rfl | rfl | rfl | rfl | rfl | rfl | rfl | rfl | rfl | rfl | rfl | rfl | rfl | rfl | rfl | rfl | rfl | rfl | rfl | rfl | rfl | rfl | rfl | rfl | rfl | rfl | rfl | rfl | rfl | rfl | rfl | rfl | rfl | rfl | rfl | rfl | rfl | rfl | rfl | rfl | rfl | rfl | rfl | rfl | rfl | rfl | rfl | rfl | rfl | rfl | rfl | rfl | rfl | rfl | rfl | rfl | rfl | rfl | rfl | rfl | rfl | rfl | rfl | rfl
  · exact t2_ok
  · exact t3_ok
  · exact t4_ok
  · exact t5_ok
  · exact t9_ok
  · exact t12_ok
  · exact t20_ok
  · exact t21_ok
  · exact t22_ok
  · exact t25_ok
  · exact t34_ok
  · exact t35_ok
  · exact t38_ok
  · exact t41_ok
  · exact t42_ok
  · exact t44_ok
  · exact t54_ok
  · exact t59_ok
  · exact t62_ok
  · exact t68_ok
  · exact t69_ok
  · exact t72_ok
  · exact t79_ok
  · exact t82_ok
  · exact t88_ok
  · exact t89_ok
  · exact t92_ok
  · exact t97_ok
  · exact t101_ok
  · exact t110_ok
  · exact t111_ok
  · exact t112_ok
  · exact t118_ok
  · exact t124_ok
  · exact t125_ok
  · exact t128_ok
  · exact t129_ok
  · exact t130_ok
  · exact t134_ok
  · exact t143_ok
  · exact t144_ok
  · exact t145_ok
  · exact t146_ok
  · exact t147_ok
  · exact t148_ok
  · exact t150_ok
  · exact t151_ok
  · exact t152_ok
  · exact t153_ok
  · exact t172_ok
  · exact t173_ok
  · exact t174_ok
  · exact t178_ok
  · exact t179_ok
  · exact t180_ok
  · exact t181_ok
  · exact t183_ok
  · exact t184_ok
  · exact t193_ok
  · exact t195_ok
  · exact t196_ok
  · exact t204_ok
  · exact t211_ok
  · exact t213_ok
  · exact t216_ok
  · exact t220_ok
  · exact t222_ok
  · exact t233_ok
  · exact t234_ok
  · exact t237_ok
theorem mix : Try.prog.follows .mixedOrders = true := by kernel_rfl
end Go.Proofs.Ytnnieeojfdjcoaa
