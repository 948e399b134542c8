/- What is known of the types of this program: their sizes, zero values and parts. -/
import Derived.Test.YtpnfkjbnhholfaaProg
import Derived.Test.YtpnfkjbnhholfaaTY
import Derived.KernelRfl
namespace Go.Proofs.Ytpnfkjbnhholfaa
open Go Go.Eng
set_option linter.unusedSimpArgs false
set_option linter.unusedVariables false
set_option maxRecDepth 20000
/-- int64 -/
def t2 : TI := ⟨1, 8, .int .i64 0, .lit (.int .i64 0), .lit (.int .i64 0), .int .i64, false⟩
@[simp] theorem t2_size : t2.size = 1 := rfl
@[simp] theorem t2_bytes : t2.bytes = 8 := rfl
@[simp] theorem t2_z : t2.z = .lit (.int .i64 0) := rfl
@[simp] theorem t2_y : t2.y = .lit (.int .i64 0) := rfl
@[simp] theorem t2_kind : t2.kind = .int .i64 := rfl
@[simp] theorem t2_cmp : t2.cmp = false := rfl
/-- int -/
def t3 : TI := ⟨1, 8, .int .i64 0, .lit (.int .i64 0), .lit (.int .i64 0), .int .i64, false⟩
@[simp] theorem t3_size : t3.size = 1 := rfl
@[simp] theorem t3_bytes : t3.bytes = 8 := rfl
@[simp] theorem t3_z : t3.z = .lit (.int .i64 0) := rfl
@[simp] theorem t3_y : t3.y = .lit (.int .i64 0) := rfl
@[simp] theorem t3_kind : t3.kind = .int .i64 := rfl
@[simp] theorem t3_cmp : t3.cmp = false := rfl
/-- bool -/
def t4 : TI := ⟨1, 1, .bool false, .lit (.bool false), .lit (.bool false), .bool, false⟩
@[simp] theorem t4_size : t4.size = 1 := rfl
@[simp] theorem t4_bytes : t4.bytes = 1 := rfl
@[simp] theorem t4_z : t4.z = .lit (.bool false) := rfl
@[simp] theorem t4_y : t4.y = .lit (.bool false) := rfl
@[simp] theorem t4_kind : t4.kind = .bool := rfl
@[simp] theorem t4_cmp : t4.cmp = false := rfl
/-- uint8 -/
def t5 : TI := ⟨1, 1, .int .u8 0, .lit (.int .u8 0), .lit (.int .u8 0), .int .u8, false⟩
@[simp] theorem t5_size : t5.size = 1 := rfl
@[simp] theorem t5_bytes : t5.bytes = 1 := rfl
@[simp] theorem t5_z : t5.z = .lit (.int .u8 0) := rfl
@[simp] theorem t5_y : t5.y = .lit (.int .u8 0) := rfl
@[simp] theorem t5_kind : t5.kind = .int .u8 := rfl
@[simp] theorem t5_cmp : t5.cmp = false := rfl
/-- string -/
def t9 : TI := ⟨1, 16, .string ⟨#[]⟩, .lit (.string ⟨#[]⟩), .lit (.string ⟨#[]⟩), .str, false⟩
@[simp] theorem t9_size : t9.size = 1 := rfl
@[simp] theorem t9_bytes : t9.bytes = 16 := rfl
@[simp] theorem t9_z : t9.z = .lit (.string ⟨#[]⟩) := rfl
@[simp] theorem t9_y : t9.y = .lit (.string ⟨#[]⟩) := rfl
@[simp] theorem t9_kind : t9.kind = .str := rfl
@[simp] theorem t9_cmp : t9.cmp = false := rfl
/-- uintptr -/
def t12 : TI := ⟨1, 8, .int .u64 0, .lit (.int .u64 0), .lit (.int .u64 0), .int .u64, false⟩
@[simp] theorem t12_size : t12.size = 1 := rfl
@[simp] theorem t12_bytes : t12.bytes = 8 := rfl
@[simp] theorem t12_z : t12.z = .lit (.int .u64 0) := rfl
@[simp] theorem t12_y : t12.y = .lit (.int .u64 0) := rfl
@[simp] theorem t12_kind : t12.kind = .int .u64 := rfl
@[simp] theorem t12_cmp : t12.cmp = false := rfl
/-- interface {} -/
def t20 : TI := ⟨1, 16, .nilIface, .lit .nilIface, .lit .nilIface, .iface, false⟩
@[simp] theorem t20_size : t20.size = 1 := rfl
@[simp] theorem t20_bytes : t20.bytes = 16 := rfl
@[simp] theorem t20_z : t20.z = .lit .nilIface := rfl
@[simp] theorem t20_y : t20.y = .lit .nilIface := rfl
@[simp] theorem t20_kind : t20.kind = .iface := rfl
@[simp] theorem t20_cmp : t20.cmp = false := rfl
/-- int32 -/
def t21 : TI := ⟨1, 4, .int .i32 0, .lit (.int .i32 0), .lit (.int .i32 0), .int .i32, false⟩
@[simp] theorem t21_size : t21.size = 1 := rfl
@[simp] theorem t21_bytes : t21.bytes = 4 := rfl
@[simp] theorem t21_z : t21.z = .lit (.int .i32 0) := rfl
@[simp] theorem t21_y : t21.y = .lit (.int .i32 0) := rfl
@[simp] theorem t21_kind : t21.kind = .int .i32 := rfl
@[simp] theorem t21_cmp : t21.cmp = false := rfl
/-- []uint8 -/
def t22 : TI := ⟨1, 24, .slice none 0 0, .sl true 0 .any [], yLU, .slice 5, false⟩
@[simp] theorem t22_size : t22.size = 1 := rfl
@[simp] theorem t22_bytes : t22.bytes = 24 := rfl
@[simp] theorem t22_z : t22.z = .sl true 0 .any [] := rfl
@[simp] theorem t22_y : t22.y = yLU := rfl
@[simp] theorem t22_kind : t22.kind = .slice 5 := rfl
@[simp] theorem t22_cmp : t22.cmp = false := rfl
/-- []impl.Find -/
def t24 : TI := ⟨1, 24, .slice none 0 0, .sl true 0 .any [], yLTFind, .slice 28, false⟩
@[simp] theorem t24_size : t24.size = 1 := rfl
@[simp] theorem t24_bytes : t24.bytes = 24 := rfl
@[simp] theorem t24_z : t24.z = .sl true 0 .any [] := rfl
@[simp] theorem t24_y : t24.y = yLTFind := rfl
@[simp] theorem t24_kind : t24.kind = .slice 28 := rfl
@[simp] theorem t24_cmp : t24.cmp = false := rfl
/-- struct { Id int; Kind int; Colour int; Size int; Worth int } -/
def t25 : TI := ⟨5, 40, .agg #[.int .i64 0, .int .i64 0, .int .i64 0, .int .i64 0, .int .i64 0], .agg [.lit (.int .i64 0), .lit (.int .i64 0), .lit (.int .i64 0), .lit (.int .i64 0), .lit (.int .i64 0)], yTThing, .st [(0, 3), (1, 3), (2, 3), (3, 3), (4, 3)], true⟩
@[simp] theorem t25_size : t25.size = 5 := rfl
@[simp] theorem t25_bytes : t25.bytes = 40 := rfl
@[simp] theorem t25_z : t25.z = .agg [.lit (.int .i64 0), .lit (.int .i64 0), .lit (.int .i64 0), .lit (.int .i64 0), .lit (.int .i64 0)] := rfl
@[simp] theorem t25_y : t25.y = yTThing := rfl
@[simp] theorem t25_kind : t25.kind = .st [(0, 3), (1, 3), (2, 3), (3, 3), (4, 3)] := rfl
@[simp] theorem t25_cmp : t25.cmp = true := rfl
/-- impl.Thing = loop.example/g03007/impl.Thing -/
def t26 : TI := ⟨5, 40, .agg #[.int .i64 0, .int .i64 0, .int .i64 0, .int .i64 0, .int .i64 0], .agg [.lit (.int .i64 0), .lit (.int .i64 0), .lit (.int .i64 0), .lit (.int .i64 0), .lit (.int .i64 0)], yTThing, .st [(0, 3), (1, 3), (2, 3), (3, 3), (4, 3)], true⟩
@[simp] theorem t26_size : t26.size = 5 := rfl
@[simp] theorem t26_bytes : t26.bytes = 40 := rfl
@[simp] theorem t26_z : t26.z = .agg [.lit (.int .i64 0), .lit (.int .i64 0), .lit (.int .i64 0), .lit (.int .i64 0), .lit (.int .i64 0)] := rfl
@[simp] theorem t26_y : t26.y = yTThing := rfl
@[simp] theorem t26_kind : t26.kind = .st [(0, 3), (1, 3), (2, 3), (3, 3), (4, 3)] := rfl
@[simp] theorem t26_cmp : t26.cmp = true := rfl
/-- struct { Thing impl.Thing; Place int; At int; Finder int } -/
def t27 : TI := ⟨8, 64, .agg #[.int .i64 0, .int .i64 0, .int .i64 0, .int .i64 0, .int .i64 0, .int .i64 0, .int .i64 0, .int .i64 0], .agg [.lit (.int .i64 0), .lit (.int .i64 0), .lit (.int .i64 0), .lit (.int .i64 0), .lit (.int .i64 0), .lit (.int .i64 0), .lit (.int .i64 0), .lit (.int .i64 0)], yTFind, .st [(0, 26), (5, 3), (6, 3), (7, 3)], true⟩
@[simp] theorem t27_size : t27.size = 8 := rfl
@[simp] theorem t27_bytes : t27.bytes = 64 := rfl
@[simp] theorem t27_z : t27.z = .agg [.lit (.int .i64 0), .lit (.int .i64 0), .lit (.int .i64 0), .lit (.int .i64 0), .lit (.int .i64 0), .lit (.int .i64 0), .lit (.int .i64 0), .lit (.int .i64 0)] := rfl
@[simp] theorem t27_y : t27.y = yTFind := rfl
@[simp] theorem t27_kind : t27.kind = .st [(0, 26), (5, 3), (6, 3), (7, 3)] := rfl
@[simp] theorem t27_cmp : t27.cmp = true := rfl
/-- impl.Find = loop.example/g03007/impl.Find -/
def t28 : TI := ⟨8, 64, .agg #[.int .i64 0, .int .i64 0, .int .i64 0, .int .i64 0, .int .i64 0, .int .i64 0, .int .i64 0, .int .i64 0], .agg [.lit (.int .i64 0), .lit (.int .i64 0), .lit (.int .i64 0), .lit (.int .i64 0), .lit (.int .i64 0), .lit (.int .i64 0), .lit (.int .i64 0), .lit (.int .i64 0)], yTFind, .st [(0, 26), (5, 3), (6, 3), (7, 3)], true⟩
@[simp] theorem t28_size : t28.size = 8 := rfl
@[simp] theorem t28_bytes : t28.bytes = 64 := rfl
@[simp] theorem t28_z : t28.z = .agg [.lit (.int .i64 0), .lit (.int .i64 0), .lit (.int .i64 0), .lit (.int .i64 0), .lit (.int .i64 0), .lit (.int .i64 0), .lit (.int .i64 0), .lit (.int .i64 0)] := rfl
@[simp] theorem t28_y : t28.y = yTFind := rfl
@[simp] theorem t28_kind : t28.kind = .st [(0, 26), (5, 3), (6, 3), (7, 3)] := rfl
@[simp] theorem t28_cmp : t28.cmp = true := rfl
/-- []int -/
def t36 : TI := ⟨1, 24, .slice none 0 0, .sl true 0 .any [], yLI, .slice 3, false⟩
@[simp] theorem t36_size : t36.size = 1 := rfl
@[simp] theorem t36_bytes : t36.bytes = 24 := rfl
@[simp] theorem t36_z : t36.z = .sl true 0 .any [] := rfl
@[simp] theorem t36_y : t36.y = yLI := rfl
@[simp] theorem t36_kind : t36.kind = .slice 3 := rfl
@[simp] theorem t36_cmp : t36.cmp = false := rfl
/-- struct { From int; Until int } -/
def t38 : TI := ⟨2, 16, .agg #[.int .i64 0, .int .i64 0], .agg [.lit (.int .i64 0), .lit (.int .i64 0)], yTSpan, .st [(0, 3), (1, 3)], true⟩
@[simp] theorem t38_size : t38.size = 2 := rfl
@[simp] theorem t38_bytes : t38.bytes = 16 := rfl
@[simp] theorem t38_z : t38.z = .agg [.lit (.int .i64 0), .lit (.int .i64 0)] := rfl
@[simp] theorem t38_y : t38.y = yTSpan := rfl
@[simp] theorem t38_kind : t38.kind = .st [(0, 3), (1, 3)] := rfl
@[simp] theorem t38_cmp : t38.cmp = true := rfl
/-- impl.Span = loop.example/g03007/impl.Span -/
def t39 : TI := ⟨2, 16, .agg #[.int .i64 0, .int .i64 0], .agg [.lit (.int .i64 0), .lit (.int .i64 0)], yTSpan, .st [(0, 3), (1, 3)], true⟩
@[simp] theorem t39_size : t39.size = 2 := rfl
@[simp] theorem t39_bytes : t39.bytes = 16 := rfl
@[simp] theorem t39_z : t39.z = .agg [.lit (.int .i64 0), .lit (.int .i64 0)] := rfl
@[simp] theorem t39_y : t39.y = yTSpan := rfl
@[simp] theorem t39_kind : t39.kind = .st [(0, 3), (1, 3)] := rfl
@[simp] theorem t39_cmp : t39.cmp = true := rfl
/-- []impl.Mark -/
def t47 : TI := ⟨1, 24, .slice none 0 0, .sl true 0 .any [], yLTMark, .slice 153, false⟩
@[simp] theorem t47_size : t47.size = 1 := rfl
@[simp] theorem t47_bytes : t47.bytes = 24 := rfl
@[simp] theorem t47_z : t47.z = .sl true 0 .any [] := rfl
@[simp] theorem t47_y : t47.y = yLTMark := rfl
@[simp] theorem t47_kind : t47.kind = .slice 153 := rfl
@[simp] theorem t47_cmp : t47.cmp = false := rfl
/-- struct { Claim int; Asked int; Right int; Wrong int } -/
def t48 : TI := ⟨4, 32, .agg #[.int .i64 0, .int .i64 0, .int .i64 0, .int .i64 0], .agg [.lit (.int .i64 0), .lit (.int .i64 0), .lit (.int .i64 0), .lit (.int .i64 0)], yTTrial, .st [(0, 3), (1, 3), (2, 3), (3, 3)], true⟩
@[simp] theorem t48_size : t48.size = 4 := rfl
@[simp] theorem t48_bytes : t48.bytes = 32 := rfl
@[simp] theorem t48_z : t48.z = .agg [.lit (.int .i64 0), .lit (.int .i64 0), .lit (.int .i64 0), .lit (.int .i64 0)] := rfl
@[simp] theorem t48_y : t48.y = yTTrial := rfl
@[simp] theorem t48_kind : t48.kind = .st [(0, 3), (1, 3), (2, 3), (3, 3)] := rfl
@[simp] theorem t48_cmp : t48.cmp = true := rfl
/-- impl.Trial = loop.example/g03007/impl.Trial -/
def t49 : TI := ⟨4, 32, .agg #[.int .i64 0, .int .i64 0, .int .i64 0, .int .i64 0], .agg [.lit (.int .i64 0), .lit (.int .i64 0), .lit (.int .i64 0), .lit (.int .i64 0)], yTTrial, .st [(0, 3), (1, 3), (2, 3), (3, 3)], true⟩
@[simp] theorem t49_size : t49.size = 4 := rfl
@[simp] theorem t49_bytes : t49.bytes = 32 := rfl
@[simp] theorem t49_z : t49.z = .agg [.lit (.int .i64 0), .lit (.int .i64 0), .lit (.int .i64 0), .lit (.int .i64 0)] := rfl
@[simp] theorem t49_y : t49.y = yTTrial := rfl
@[simp] theorem t49_kind : t49.kind = .st [(0, 3), (1, 3), (2, 3), (3, 3)] := rfl
@[simp] theorem t49_cmp : t49.cmp = true := rfl
/-- []impl.Claim -/
def t62 : TI := ⟨1, 24, .slice none 0 0, .sl true 0 .any [], yLTClaim, .slice 64, false⟩
@[simp] theorem t62_size : t62.size = 1 := rfl
@[simp] theorem t62_bytes : t62.bytes = 24 := rfl
@[simp] theorem t62_z : t62.z = .sl true 0 .any [] := rfl
@[simp] theorem t62_y : t62.y = yLTClaim := rfl
@[simp] theorem t62_kind : t62.kind = .slice 64 := rfl
@[simp] theorem t62_cmp : t62.cmp = false := rfl
/-- struct { Id int; Who int; Thing int; At int; State int } -/
def t63 : TI := ⟨5, 40, .agg #[.int .i64 0, .int .i64 0, .int .i64 0, .int .i64 0, .int .i64 0], .agg [.lit (.int .i64 0), .lit (.int .i64 0), .lit (.int .i64 0), .lit (.int .i64 0), .lit (.int .i64 0)], yTClaim, .st [(0, 3), (1, 3), (2, 3), (3, 3), (4, 3)], true⟩
@[simp] theorem t63_size : t63.size = 5 := rfl
@[simp] theorem t63_bytes : t63.bytes = 40 := rfl
@[simp] theorem t63_z : t63.z = .agg [.lit (.int .i64 0), .lit (.int .i64 0), .lit (.int .i64 0), .lit (.int .i64 0), .lit (.int .i64 0)] := rfl
@[simp] theorem t63_y : t63.y = yTClaim := rfl
@[simp] theorem t63_kind : t63.kind = .st [(0, 3), (1, 3), (2, 3), (3, 3), (4, 3)] := rfl
@[simp] theorem t63_cmp : t63.cmp = true := rfl
/-- impl.Claim = loop.example/g03007/impl.Claim -/
def t64 : TI := ⟨5, 40, .agg #[.int .i64 0, .int .i64 0, .int .i64 0, .int .i64 0, .int .i64 0], .agg [.lit (.int .i64 0), .lit (.int .i64 0), .lit (.int .i64 0), .lit (.int .i64 0), .lit (.int .i64 0)], yTClaim, .st [(0, 3), (1, 3), (2, 3), (3, 3), (4, 3)], true⟩
@[simp] theorem t64_size : t64.size = 5 := rfl
@[simp] theorem t64_bytes : t64.bytes = 40 := rfl
@[simp] theorem t64_z : t64.z = .agg [.lit (.int .i64 0), .lit (.int .i64 0), .lit (.int .i64 0), .lit (.int .i64 0), .lit (.int .i64 0)] := rfl
@[simp] theorem t64_y : t64.y = yTClaim := rfl
@[simp] theorem t64_kind : t64.kind = .st [(0, 3), (1, 3), (2, 3), (3, 3), (4, 3)] := rfl
@[simp] theorem t64_cmp : t64.cmp = true := rfl
/-- []impl.Slot -/
def t77 : TI := ⟨1, 24, .slice none 0 0, .sl true 0 .any [], yLTSlot, .slice 87, false⟩
@[simp] theorem t77_size : t77.size = 1 := rfl
@[simp] theorem t77_bytes : t77.bytes = 24 := rfl
@[simp] theorem t77_z : t77.z = .sl true 0 .any [] := rfl
@[simp] theorem t77_y : t77.y = yLTSlot := rfl
@[simp] theorem t77_kind : t77.kind = .slice 87 := rfl
@[simp] theorem t77_cmp : t77.cmp = false := rfl
/-- struct { Id int; Size int; Thing int } -/
def t86 : TI := ⟨3, 24, .agg #[.int .i64 0, .int .i64 0, .int .i64 0], .agg [.lit (.int .i64 0), .lit (.int .i64 0), .lit (.int .i64 0)], yTSlot, .st [(0, 3), (1, 3), (2, 3)], true⟩
@[simp] theorem t86_size : t86.size = 3 := rfl
@[simp] theorem t86_bytes : t86.bytes = 24 := rfl
@[simp] theorem t86_z : t86.z = .agg [.lit (.int .i64 0), .lit (.int .i64 0), .lit (.int .i64 0)] := rfl
@[simp] theorem t86_y : t86.y = yTSlot := rfl
@[simp] theorem t86_kind : t86.kind = .st [(0, 3), (1, 3), (2, 3)] := rfl
@[simp] theorem t86_cmp : t86.cmp = true := rfl
/-- impl.Slot = loop.example/g03007/impl.Slot -/
def t87 : TI := ⟨3, 24, .agg #[.int .i64 0, .int .i64 0, .int .i64 0], .agg [.lit (.int .i64 0), .lit (.int .i64 0), .lit (.int .i64 0)], yTSlot, .st [(0, 3), (1, 3), (2, 3)], true⟩
@[simp] theorem t87_size : t87.size = 3 := rfl
@[simp] theorem t87_bytes : t87.bytes = 24 := rfl
@[simp] theorem t87_z : t87.z = .agg [.lit (.int .i64 0), .lit (.int .i64 0), .lit (.int .i64 0)] := rfl
@[simp] theorem t87_y : t87.y = yTSlot := rfl
@[simp] theorem t87_kind : t87.kind = .st [(0, 3), (1, 3), (2, 3)] := rfl
@[simp] theorem t87_cmp : t87.cmp = true := rfl
/-- []impl.Hand -/
def t90 : TI := ⟨1, 24, .slice none 0 0, .sl true 0 .any [], yLTHand, .slice 92, false⟩
@[simp] theorem t90_size : t90.size = 1 := rfl
@[simp] theorem t90_bytes : t90.bytes = 24 := rfl
@[simp] theorem t90_z : t90.z = .sl true 0 .any [] := rfl
@[simp] theorem t90_y : t90.y = yLTHand := rfl
@[simp] theorem t90_kind : t90.kind = .slice 92 := rfl
@[simp] theorem t90_cmp : t90.cmp = false := rfl
/-- struct { Thing int; Holder int; Who int; At int; Seal int } -/
def t91 : TI := ⟨5, 40, .agg #[.int .i64 0, .int .i64 0, .int .i64 0, .int .i64 0, .int .i64 0], .agg [.lit (.int .i64 0), .lit (.int .i64 0), .lit (.int .i64 0), .lit (.int .i64 0), .lit (.int .i64 0)], yTHand, .st [(0, 3), (1, 3), (2, 3), (3, 3), (4, 3)], true⟩
@[simp] theorem t91_size : t91.size = 5 := rfl
@[simp] theorem t91_bytes : t91.bytes = 40 := rfl
@[simp] theorem t91_z : t91.z = .agg [.lit (.int .i64 0), .lit (.int .i64 0), .lit (.int .i64 0), .lit (.int .i64 0), .lit (.int .i64 0)] := rfl
@[simp] theorem t91_y : t91.y = yTHand := rfl
@[simp] theorem t91_kind : t91.kind = .st [(0, 3), (1, 3), (2, 3), (3, 3), (4, 3)] := rfl
@[simp] theorem t91_cmp : t91.cmp = true := rfl
/-- impl.Hand = loop.example/g03007/impl.Hand -/
def t92 : TI := ⟨5, 40, .agg #[.int .i64 0, .int .i64 0, .int .i64 0, .int .i64 0, .int .i64 0], .agg [.lit (.int .i64 0), .lit (.int .i64 0), .lit (.int .i64 0), .lit (.int .i64 0), .lit (.int .i64 0)], yTHand, .st [(0, 3), (1, 3), (2, 3), (3, 3), (4, 3)], true⟩
@[simp] theorem t92_size : t92.size = 5 := rfl
@[simp] theorem t92_bytes : t92.bytes = 40 := rfl
@[simp] theorem t92_z : t92.z = .agg [.lit (.int .i64 0), .lit (.int .i64 0), .lit (.int .i64 0), .lit (.int .i64 0), .lit (.int .i64 0)] := rfl
@[simp] theorem t92_y : t92.y = yTHand := rfl
@[simp] theorem t92_kind : t92.kind = .st [(0, 3), (1, 3), (2, 3), (3, 3), (4, 3)] := rfl
@[simp] theorem t92_cmp : t92.cmp = true := rfl
/-- []impl.Bid -/
def t107 : TI := ⟨1, 24, .slice none 0 0, .sl true 0 .any [], yLTBid, .slice 114, false⟩
@[simp] theorem t107_size : t107.size = 1 := rfl
@[simp] theorem t107_bytes : t107.bytes = 24 := rfl
@[simp] theorem t107_z : t107.z = .sl true 0 .any [] := rfl
@[simp] theorem t107_y : t107.y = yLTBid := rfl
@[simp] theorem t107_kind : t107.kind = .slice 114 := rfl
@[simp] theorem t107_cmp : t107.cmp = false := rfl
/-- struct { Who int; Cents int; Seal int } -/
def t113 : TI := ⟨3, 24, .agg #[.int .i64 0, .int .i64 0, .int .i64 0], .agg [.lit (.int .i64 0), .lit (.int .i64 0), .lit (.int .i64 0)], yTBid, .st [(0, 3), (1, 3), (2, 3)], true⟩
@[simp] theorem t113_size : t113.size = 3 := rfl
@[simp] theorem t113_bytes : t113.bytes = 24 := rfl
@[simp] theorem t113_z : t113.z = .agg [.lit (.int .i64 0), .lit (.int .i64 0), .lit (.int .i64 0)] := rfl
@[simp] theorem t113_y : t113.y = yTBid := rfl
@[simp] theorem t113_kind : t113.kind = .st [(0, 3), (1, 3), (2, 3)] := rfl
@[simp] theorem t113_cmp : t113.cmp = true := rfl
/-- impl.Bid = loop.example/g03007/impl.Bid -/
def t114 : TI := ⟨3, 24, .agg #[.int .i64 0, .int .i64 0, .int .i64 0], .agg [.lit (.int .i64 0), .lit (.int .i64 0), .lit (.int .i64 0)], yTBid, .st [(0, 3), (1, 3), (2, 3)], true⟩
@[simp] theorem t114_size : t114.size = 3 := rfl
@[simp] theorem t114_bytes : t114.bytes = 24 := rfl
@[simp] theorem t114_z : t114.z = .agg [.lit (.int .i64 0), .lit (.int .i64 0), .lit (.int .i64 0)] := rfl
@[simp] theorem t114_y : t114.y = yTBid := rfl
@[simp] theorem t114_kind : t114.kind = .st [(0, 3), (1, 3), (2, 3)] := rfl
@[simp] theorem t114_cmp : t114.cmp = true := rfl
/-- *spec.l1Cur -/
def t121 : TI := ⟨1, 8, .pointer none, .lit (.pointer none), .lit (.pointer none), .ptr 211, false⟩
@[simp] theorem t121_size : t121.size = 1 := rfl
@[simp] theorem t121_bytes : t121.bytes = 8 := rfl
@[simp] theorem t121_z : t121.z = .lit (.pointer none) := rfl
@[simp] theorem t121_y : t121.y = .lit (.pointer none) := rfl
@[simp] theorem t121_kind : t121.kind = .ptr 211 := rfl
@[simp] theorem t121_cmp : t121.cmp = false := rfl
/-- func(impl.Find) int -/
def t128 : TI := ⟨1, 8, .nilFunc, .lit .nilFunc, .lit .nilFunc, .func, false⟩
@[simp] theorem t128_size : t128.size = 1 := rfl
@[simp] theorem t128_bytes : t128.bytes = 8 := rfl
@[simp] theorem t128_z : t128.z = .lit .nilFunc := rfl
@[simp] theorem t128_y : t128.y = .lit .nilFunc := rfl
@[simp] theorem t128_kind : t128.kind = .func := rfl
@[simp] theorem t128_cmp : t128.cmp = false := rfl
/-- struct { items []impl.Find; numberOf func(impl.Find) int } -/
def t129 : TI := ⟨2, 32, .agg #[.slice none 0 0, .nilFunc], .agg [.sl true 0 .any [], .lit .nilFunc], .any, .st [(0, 24), (1, 128)], false⟩
@[simp] theorem t129_size : t129.size = 2 := rfl
@[simp] theorem t129_bytes : t129.bytes = 32 := rfl
@[simp] theorem t129_z : t129.z = .agg [.sl true 0 .any [], .lit .nilFunc] := rfl
@[simp] theorem t129_y : t129.y = .any := rfl
@[simp] theorem t129_kind : t129.kind = .st [(0, 24), (1, 128)] := rfl
@[simp] theorem t129_cmp : t129.cmp = false := rfl
/-- impl.sortedList[loop.example/g03007/impl.Find] = loop.example/g03007/impl.sortedList[loop.example/g03007/impl.Find] -/
def t130 : TI := ⟨2, 32, .agg #[.slice none 0 0, .nilFunc], .agg [.sl true 0 .any [], .lit .nilFunc], .any, .st [(0, 24), (1, 128)], false⟩
@[simp] theorem t130_size : t130.size = 2 := rfl
@[simp] theorem t130_bytes : t130.bytes = 32 := rfl
@[simp] theorem t130_z : t130.z = .agg [.sl true 0 .any [], .lit .nilFunc] := rfl
@[simp] theorem t130_y : t130.y = .any := rfl
@[simp] theorem t130_kind : t130.kind = .st [(0, 24), (1, 128)] := rfl
@[simp] theorem t130_cmp : t130.cmp = false := rfl
/-- func(impl.Find) bool -/
def t134 : TI := ⟨1, 8, .nilFunc, .lit .nilFunc, .lit .nilFunc, .func, false⟩
@[simp] theorem t134_size : t134.size = 1 := rfl
@[simp] theorem t134_bytes : t134.bytes = 8 := rfl
@[simp] theorem t134_z : t134.z = .lit .nilFunc := rfl
@[simp] theorem t134_y : t134.y = .lit .nilFunc := rfl
@[simp] theorem t134_kind : t134.kind = .func := rfl
@[simp] theorem t134_cmp : t134.cmp = false := rfl
/-- interface { impl.next(impl.Trial) impl.Trial } -/
def t142 : TI := ⟨1, 16, .nilIface, .lit .nilIface, .lit .nilIface, .iface, false⟩
@[simp] theorem t142_size : t142.size = 1 := rfl
@[simp] theorem t142_bytes : t142.bytes = 16 := rfl
@[simp] theorem t142_z : t142.z = .lit .nilIface := rfl
@[simp] theorem t142_y : t142.y = .lit .nilIface := rfl
@[simp] theorem t142_kind : t142.kind = .iface := rfl
@[simp] theorem t142_cmp : t142.cmp = false := rfl
/-- impl.judgement = loop.example/g03007/impl.judgement -/
def t143 : TI := ⟨1, 16, .nilIface, .lit .nilIface, .lit .nilIface, .iface, false⟩
@[simp] theorem t143_size : t143.size = 1 := rfl
@[simp] theorem t143_bytes : t143.bytes = 16 := rfl
@[simp] theorem t143_z : t143.z = .lit .nilIface := rfl
@[simp] theorem t143_y : t143.y = .lit .nilIface := rfl
@[simp] theorem t143_kind : t143.kind = .iface := rfl
@[simp] theorem t143_cmp : t143.cmp = false := rfl
/-- func(impl.Mark) int -/
def t147 : TI := ⟨1, 8, .nilFunc, .lit .nilFunc, .lit .nilFunc, .func, false⟩
@[simp] theorem t147_size : t147.size = 1 := rfl
@[simp] theorem t147_bytes : t147.bytes = 8 := rfl
@[simp] theorem t147_z : t147.z = .lit .nilFunc := rfl
@[simp] theorem t147_y : t147.y = .lit .nilFunc := rfl
@[simp] theorem t147_kind : t147.kind = .func := rfl
@[simp] theorem t147_cmp : t147.cmp = false := rfl
/-- struct { items []impl.Mark; numberOf func(impl.Mark) int } -/
def t148 : TI := ⟨2, 32, .agg #[.slice none 0 0, .nilFunc], .agg [.sl true 0 .any [], .lit .nilFunc], .any, .st [(0, 47), (1, 147)], false⟩
@[simp] theorem t148_size : t148.size = 2 := rfl
@[simp] theorem t148_bytes : t148.bytes = 32 := rfl
@[simp] theorem t148_z : t148.z = .agg [.sl true 0 .any [], .lit .nilFunc] := rfl
@[simp] theorem t148_y : t148.y = .any := rfl
@[simp] theorem t148_kind : t148.kind = .st [(0, 47), (1, 147)] := rfl
@[simp] theorem t148_cmp : t148.cmp = false := rfl
/-- impl.sortedList[loop.example/g03007/impl.Mark] = loop.example/g03007/impl.sortedList[loop.example/g03007/impl.Mark] -/
def t149 : TI := ⟨2, 32, .agg #[.slice none 0 0, .nilFunc], .agg [.sl true 0 .any [], .lit .nilFunc], .any, .st [(0, 47), (1, 147)], false⟩
@[simp] theorem t149_size : t149.size = 2 := rfl
@[simp] theorem t149_bytes : t149.bytes = 32 := rfl
@[simp] theorem t149_z : t149.z = .agg [.sl true 0 .any [], .lit .nilFunc] := rfl
@[simp] theorem t149_y : t149.y = .any := rfl
@[simp] theorem t149_kind : t149.kind = .st [(0, 47), (1, 147)] := rfl
@[simp] theorem t149_cmp : t149.cmp = false := rfl
/-- struct { Question int; Answer int } -/
def t152 : TI := ⟨2, 16, .agg #[.int .i64 0, .int .i64 0], .agg [.lit (.int .i64 0), .lit (.int .i64 0)], yTMark, .st [(0, 3), (1, 3)], true⟩
@[simp] theorem t152_size : t152.size = 2 := rfl
@[simp] theorem t152_bytes : t152.bytes = 16 := rfl
@[simp] theorem t152_z : t152.z = .agg [.lit (.int .i64 0), .lit (.int .i64 0)] := rfl
@[simp] theorem t152_y : t152.y = yTMark := rfl
@[simp] theorem t152_kind : t152.kind = .st [(0, 3), (1, 3)] := rfl
@[simp] theorem t152_cmp : t152.cmp = true := rfl
/-- impl.Mark = loop.example/g03007/impl.Mark -/
def t153 : TI := ⟨2, 16, .agg #[.int .i64 0, .int .i64 0], .agg [.lit (.int .i64 0), .lit (.int .i64 0)], yTMark, .st [(0, 3), (1, 3)], true⟩
@[simp] theorem t153_size : t153.size = 2 := rfl
@[simp] theorem t153_bytes : t153.bytes = 16 := rfl
@[simp] theorem t153_z : t153.z = .agg [.lit (.int .i64 0), .lit (.int .i64 0)] := rfl
@[simp] theorem t153_y : t153.y = yTMark := rfl
@[simp] theorem t153_kind : t153.kind = .st [(0, 3), (1, 3)] := rfl
@[simp] theorem t153_cmp : t153.cmp = true := rfl
/-- map[int]int -/
def t157 : TI := ⟨1, 8, .map none, .fm 0 [] .any [], .any, .map 3 3, false⟩
@[simp] theorem t157_size : t157.size = 1 := rfl
@[simp] theorem t157_bytes : t157.bytes = 8 := rfl
@[simp] theorem t157_z : t157.z = .fm 0 [] .any [] := rfl
@[simp] theorem t157_y : t157.y = .any := rfl
@[simp] theorem t157_kind : t157.kind = .map 3 3 := rfl
@[simp] theorem t157_cmp : t157.cmp = false := rfl
/-- *impl.claimBook -/
def t160 : TI := ⟨1, 8, .pointer none, .lit (.pointer none), .lit (.pointer none), .ptr 174, false⟩
@[simp] theorem t160_size : t160.size = 1 := rfl
@[simp] theorem t160_bytes : t160.bytes = 8 := rfl
@[simp] theorem t160_z : t160.z = .lit (.pointer none) := rfl
@[simp] theorem t160_y : t160.y = .lit (.pointer none) := rfl
@[simp] theorem t160_kind : t160.kind = .ptr 174 := rfl
@[simp] theorem t160_cmp : t160.cmp = false := rfl
/-- func(impl.Claim) int -/
def t164 : TI := ⟨1, 8, .nilFunc, .lit .nilFunc, .lit .nilFunc, .func, false⟩
@[simp] theorem t164_size : t164.size = 1 := rfl
@[simp] theorem t164_bytes : t164.bytes = 8 := rfl
@[simp] theorem t164_z : t164.z = .lit .nilFunc := rfl
@[simp] theorem t164_y : t164.y = .lit .nilFunc := rfl
@[simp] theorem t164_kind : t164.kind = .func := rfl
@[simp] theorem t164_cmp : t164.cmp = false := rfl
/-- struct { items []impl.Claim; numberOf func(impl.Claim) int } -/
def t165 : TI := ⟨2, 32, .agg #[.slice none 0 0, .nilFunc], .agg [.sl true 0 .any [], .lit .nilFunc], .any, .st [(0, 62), (1, 164)], false⟩
@[simp] theorem t165_size : t165.size = 2 := rfl
@[simp] theorem t165_bytes : t165.bytes = 32 := rfl
@[simp] theorem t165_z : t165.z = .agg [.sl true 0 .any [], .lit .nilFunc] := rfl
@[simp] theorem t165_y : t165.y = .any := rfl
@[simp] theorem t165_kind : t165.kind = .st [(0, 62), (1, 164)] := rfl
@[simp] theorem t165_cmp : t165.cmp = false := rfl
/-- impl.sortedList[loop.example/g03007/impl.Claim] = loop.example/g03007/impl.sortedList[loop.example/g03007/impl.Claim] -/
def t166 : TI := ⟨2, 32, .agg #[.slice none 0 0, .nilFunc], .agg [.sl true 0 .any [], .lit .nilFunc], .any, .st [(0, 62), (1, 164)], false⟩
@[simp] theorem t166_size : t166.size = 2 := rfl
@[simp] theorem t166_bytes : t166.bytes = 32 := rfl
@[simp] theorem t166_z : t166.z = .agg [.sl true 0 .any [], .lit .nilFunc] := rfl
@[simp] theorem t166_y : t166.y = .any := rfl
@[simp] theorem t166_kind : t166.kind = .st [(0, 62), (1, 164)] := rfl
@[simp] theorem t166_cmp : t166.cmp = false := rfl
/-- map[int][]impl.Claim -/
def t172 : TI := ⟨1, 8, .map none, .fm 0 [] .any [], .any, .map 3 62, false⟩
@[simp] theorem t172_size : t172.size = 1 := rfl
@[simp] theorem t172_bytes : t172.bytes = 8 := rfl
@[simp] theorem t172_z : t172.z = .fm 0 [] .any [] := rfl
@[simp] theorem t172_y : t172.y = .any := rfl
@[simp] theorem t172_kind : t172.kind = .map 3 62 := rfl
@[simp] theorem t172_cmp : t172.cmp = false := rfl
/-- struct { byThing map[int][]impl.Claim } -/
def t173 : TI := ⟨1, 8, .agg #[.map none], .agg [.fm 0 [] .any []], .any, .st [(0, 172)], false⟩
@[simp] theorem t173_size : t173.size = 1 := rfl
@[simp] theorem t173_bytes : t173.bytes = 8 := rfl
@[simp] theorem t173_z : t173.z = .agg [.fm 0 [] .any []] := rfl
@[simp] theorem t173_y : t173.y = .any := rfl
@[simp] theorem t173_kind : t173.kind = .st [(0, 172)] := rfl
@[simp] theorem t173_cmp : t173.cmp = false := rfl
/-- impl.claimBook = loop.example/g03007/impl.claimBook -/
def t174 : TI := ⟨1, 8, .agg #[.map none], .agg [.fm 0 [] .any []], .any, .st [(0, 172)], false⟩
@[simp] theorem t174_size : t174.size = 1 := rfl
@[simp] theorem t174_bytes : t174.bytes = 8 := rfl
@[simp] theorem t174_z : t174.z = .agg [.fm 0 [] .any []] := rfl
@[simp] theorem t174_y : t174.y = .any := rfl
@[simp] theorem t174_kind : t174.kind = .st [(0, 172)] := rfl
@[simp] theorem t174_cmp : t174.cmp = false := rfl
/-- *impl.Claim -/
def t176 : TI := ⟨1, 8, .pointer none, .lit (.pointer none), .lit (.pointer none), .ptr 64, false⟩
@[simp] theorem t176_size : t176.size = 1 := rfl
@[simp] theorem t176_bytes : t176.bytes = 8 := rfl
@[simp] theorem t176_z : t176.z = .lit (.pointer none) := rfl
@[simp] theorem t176_y : t176.y = .lit (.pointer none) := rfl
@[simp] theorem t176_kind : t176.kind = .ptr 64 := rfl
@[simp] theorem t176_cmp : t176.cmp = false := rfl
/-- func(impl.Slot) int -/
def t181 : TI := ⟨1, 8, .nilFunc, .lit .nilFunc, .lit .nilFunc, .func, false⟩
@[simp] theorem t181_size : t181.size = 1 := rfl
@[simp] theorem t181_bytes : t181.bytes = 8 := rfl
@[simp] theorem t181_z : t181.z = .lit .nilFunc := rfl
@[simp] theorem t181_y : t181.y = .lit .nilFunc := rfl
@[simp] theorem t181_kind : t181.kind = .func := rfl
@[simp] theorem t181_cmp : t181.cmp = false := rfl
/-- struct { items []impl.Slot; numberOf func(impl.Slot) int } -/
def t182 : TI := ⟨2, 32, .agg #[.slice none 0 0, .nilFunc], .agg [.sl true 0 .any [], .lit .nilFunc], .any, .st [(0, 77), (1, 181)], false⟩
@[simp] theorem t182_size : t182.size = 2 := rfl
@[simp] theorem t182_bytes : t182.bytes = 32 := rfl
@[simp] theorem t182_z : t182.z = .agg [.sl true 0 .any [], .lit .nilFunc] := rfl
@[simp] theorem t182_y : t182.y = .any := rfl
@[simp] theorem t182_kind : t182.kind = .st [(0, 77), (1, 181)] := rfl
@[simp] theorem t182_cmp : t182.cmp = false := rfl
/-- impl.sortedList[loop.example/g03007/impl.Slot] = loop.example/g03007/impl.sortedList[loop.example/g03007/impl.Slot] -/
def t183 : TI := ⟨2, 32, .agg #[.slice none 0 0, .nilFunc], .agg [.sl true 0 .any [], .lit .nilFunc], .any, .st [(0, 77), (1, 181)], false⟩
@[simp] theorem t183_size : t183.size = 2 := rfl
@[simp] theorem t183_bytes : t183.bytes = 32 := rfl
@[simp] theorem t183_z : t183.z = .agg [.sl true 0 .any [], .lit .nilFunc] := rfl
@[simp] theorem t183_y : t183.y = .any := rfl
@[simp] theorem t183_kind : t183.kind = .st [(0, 77), (1, 181)] := rfl
@[simp] theorem t183_cmp : t183.cmp = false := rfl
/-- *impl.link[loop.example/g03007/impl.Hand] -/
def t192 : TI := ⟨1, 8, .pointer none, .lit (.pointer none), .lit (.pointer none), .ptr 197, false⟩
@[simp] theorem t192_size : t192.size = 1 := rfl
@[simp] theorem t192_bytes : t192.bytes = 8 := rfl
@[simp] theorem t192_z : t192.z = .lit (.pointer none) := rfl
@[simp] theorem t192_y : t192.y = .lit (.pointer none) := rfl
@[simp] theorem t192_kind : t192.kind = .ptr 197 := rfl
@[simp] theorem t192_cmp : t192.cmp = false := rfl
/-- map[int]*impl.link[loop.example/g03007/impl.Hand] -/
def t193 : TI := ⟨1, 8, .map none, .fm 0 [] .any [], .any, .map 3 192, false⟩
@[simp] theorem t193_size : t193.size = 1 := rfl
@[simp] theorem t193_bytes : t193.bytes = 8 := rfl
@[simp] theorem t193_z : t193.z = .fm 0 [] .any [] := rfl
@[simp] theorem t193_y : t193.y = .any := rfl
@[simp] theorem t193_kind : t193.kind = .map 3 192 := rfl
@[simp] theorem t193_cmp : t193.cmp = false := rfl
/-- impl.handsByThing = loop.example/g03007/impl.handsByThing -/
def t194 : TI := ⟨1, 8, .map none, .fm 0 [] .any [], .any, .map 3 192, false⟩
@[simp] theorem t194_size : t194.size = 1 := rfl
@[simp] theorem t194_bytes : t194.bytes = 8 := rfl
@[simp] theorem t194_z : t194.z = .fm 0 [] .any [] := rfl
@[simp] theorem t194_y : t194.y = .any := rfl
@[simp] theorem t194_kind : t194.kind = .map 3 192 := rfl
@[simp] theorem t194_cmp : t194.cmp = false := rfl
/-- struct { item impl.Hand; before *impl.link[loop.example/g03007/impl.Hand] } -/
def t196 : TI := ⟨6, 48, .agg #[.int .i64 0, .int .i64 0, .int .i64 0, .int .i64 0, .int .i64 0, .pointer none], .agg [.lit (.int .i64 0), .lit (.int .i64 0), .lit (.int .i64 0), .lit (.int .i64 0), .lit (.int .i64 0), .lit (.pointer none)], .any, .st [(0, 92), (5, 192)], false⟩
@[simp] theorem t196_size : t196.size = 6 := rfl
@[simp] theorem t196_bytes : t196.bytes = 48 := rfl
@[simp] theorem t196_z : t196.z = .agg [.lit (.int .i64 0), .lit (.int .i64 0), .lit (.int .i64 0), .lit (.int .i64 0), .lit (.int .i64 0), .lit (.pointer none)] := rfl
@[simp] theorem t196_y : t196.y = .any := rfl
@[simp] theorem t196_kind : t196.kind = .st [(0, 92), (5, 192)] := rfl
@[simp] theorem t196_cmp : t196.cmp = false := rfl
/-- impl.link[loop.example/g03007/impl.Hand] = loop.example/g03007/impl.link[loop.example/g03007/impl.Hand] -/
def t197 : TI := ⟨6, 48, .agg #[.int .i64 0, .int .i64 0, .int .i64 0, .int .i64 0, .int .i64 0, .pointer none], .agg [.lit (.int .i64 0), .lit (.int .i64 0), .lit (.int .i64 0), .lit (.int .i64 0), .lit (.int .i64 0), .lit (.pointer none)], .any, .st [(0, 92), (5, 192)], false⟩
@[simp] theorem t197_size : t197.size = 6 := rfl
@[simp] theorem t197_bytes : t197.bytes = 48 := rfl
@[simp] theorem t197_z : t197.z = .agg [.lit (.int .i64 0), .lit (.int .i64 0), .lit (.int .i64 0), .lit (.int .i64 0), .lit (.int .i64 0), .lit (.pointer none)] := rfl
@[simp] theorem t197_y : t197.y = .any := rfl
@[simp] theorem t197_kind : t197.kind = .st [(0, 92), (5, 192)] := rfl
@[simp] theorem t197_cmp : t197.cmp = false := rfl
/-- map[int]bool -/
def t205 : TI := ⟨1, 8, .map none, .fm 0 [] .any [], .any, .map 3 4, false⟩
@[simp] theorem t205_size : t205.size = 1 := rfl
@[simp] theorem t205_bytes : t205.bytes = 8 := rfl
@[simp] theorem t205_z : t205.z = .fm 0 [] .any [] := rfl
@[simp] theorem t205_y : t205.y = .any := rfl
@[simp] theorem t205_kind : t205.kind = .map 3 4 := rfl
@[simp] theorem t205_cmp : t205.cmp = false := rfl
/-- func(impl.Bid) bool -/
def t206 : TI := ⟨1, 8, .nilFunc, .lit .nilFunc, .lit .nilFunc, .func, false⟩
@[simp] theorem t206_size : t206.size = 1 := rfl
@[simp] theorem t206_bytes : t206.bytes = 8 := rfl
@[simp] theorem t206_z : t206.z = .lit .nilFunc := rfl
@[simp] theorem t206_y : t206.y = .lit .nilFunc := rfl
@[simp] theorem t206_kind : t206.kind = .func := rfl
@[simp] theorem t206_cmp : t206.cmp = false := rfl
/-- struct { b []uint8; i int; h int } -/
def t210 : TI := ⟨3, 40, .agg #[.slice none 0 0, .int .i64 0, .int .i64 0], .agg [.sl true 0 .any [], .lit (.int .i64 0), .lit (.int .i64 0)], yTL1Cur, .st [(0, 22), (1, 3), (2, 3)], false⟩
@[simp] theorem t210_size : t210.size = 3 := rfl
@[simp] theorem t210_bytes : t210.bytes = 40 := rfl
@[simp] theorem t210_z : t210.z = .agg [.sl true 0 .any [], .lit (.int .i64 0), .lit (.int .i64 0)] := rfl
@[simp] theorem t210_y : t210.y = yTL1Cur := rfl
@[simp] theorem t210_kind : t210.kind = .st [(0, 22), (1, 3), (2, 3)] := rfl
@[simp] theorem t210_cmp : t210.cmp = false := rfl
/-- spec.l1Cur = loop.example/g03007/spec.l1Cur -/
def t211 : TI := ⟨3, 40, .agg #[.slice none 0 0, .int .i64 0, .int .i64 0], .agg [.sl true 0 .any [], .lit (.int .i64 0), .lit (.int .i64 0)], yTL1Cur, .st [(0, 22), (1, 3), (2, 3)], false⟩
@[simp] theorem t211_size : t211.size = 3 := rfl
@[simp] theorem t211_bytes : t211.bytes = 40 := rfl
@[simp] theorem t211_z : t211.z = .agg [.sl true 0 .any [], .lit (.int .i64 0), .lit (.int .i64 0)] := rfl
@[simp] theorem t211_y : t211.y = yTL1Cur := rfl
@[simp] theorem t211_kind : t211.kind = .st [(0, 22), (1, 3), (2, 3)] := rfl
@[simp] theorem t211_cmp : t211.cmp = false := rfl
/-- [4]func(impl.Find) bool -/
def t214 : TI := ⟨4, 32, .agg #[.nilFunc, .nilFunc, .nilFunc, .nilFunc], .agg [.lit .nilFunc, .lit .nilFunc, .lit .nilFunc, .lit .nilFunc], .any, .arr 4 134, false⟩
@[simp] theorem t214_size : t214.size = 4 := rfl
@[simp] theorem t214_bytes : t214.bytes = 32 := rfl
@[simp] theorem t214_z : t214.z = .agg [.lit .nilFunc, .lit .nilFunc, .lit .nilFunc, .lit .nilFunc] := rfl
@[simp] theorem t214_y : t214.y = .any := rfl
@[simp] theorem t214_kind : t214.kind = .arr 4 134 := rfl
@[simp] theorem t214_cmp : t214.cmp = false := rfl
/-- struct {} -/
def t217 : TI := ⟨0, 0, .agg #[], .agg [], .any, .st [], false⟩
@[simp] theorem t217_size : t217.size = 0 := rfl
@[simp] theorem t217_bytes : t217.bytes = 0 := rfl
@[simp] theorem t217_z : t217.z = .agg [] := rfl
@[simp] theorem t217_y : t217.y = .any := rfl
@[simp] theorem t217_kind : t217.kind = .st [] := rfl
@[simp] theorem t217_cmp : t217.cmp = false := rfl
/-- impl.rightAnswer = loop.example/g03007/impl.rightAnswer -/
def t218 : TI := ⟨0, 0, .agg #[], .agg [], .any, .st [], false⟩
@[simp] theorem t218_size : t218.size = 0 := rfl
@[simp] theorem t218_bytes : t218.bytes = 0 := rfl
@[simp] theorem t218_z : t218.z = .agg [] := rfl
@[simp] theorem t218_y : t218.y = .any := rfl
@[simp] theorem t218_kind : t218.kind = .st [] := rfl
@[simp] theorem t218_cmp : t218.cmp = false := rfl
/-- impl.wrongAnswer = loop.example/g03007/impl.wrongAnswer -/
def t219 : TI := ⟨0, 0, .agg #[], .agg [], .any, .st [], false⟩
@[simp] theorem t219_size : t219.size = 0 := rfl
@[simp] theorem t219_bytes : t219.bytes = 0 := rfl
@[simp] theorem t219_z : t219.z = .agg [] := rfl
@[simp] theorem t219_y : t219.y = .any := rfl
@[simp] theorem t219_kind : t219.kind = .st [] := rfl
@[simp] theorem t219_cmp : t219.cmp = false := rfl
/-- *impl.sizeHeap -/
def t225 : TI := ⟨1, 8, .pointer none, .lit (.pointer none), .lit (.pointer none), .ptr 227, false⟩
@[simp] theorem t225_size : t225.size = 1 := rfl
@[simp] theorem t225_bytes : t225.bytes = 8 := rfl
@[simp] theorem t225_z : t225.z = .lit (.pointer none) := rfl
@[simp] theorem t225_y : t225.y = .lit (.pointer none) := rfl
@[simp] theorem t225_kind : t225.kind = .ptr 227 := rfl
@[simp] theorem t225_cmp : t225.cmp = false := rfl
/-- []impl.freeSlot -/
def t226 : TI := ⟨1, 24, .slice none 0 0, .sl true 0 .any [], yLTFreeSlot, .slice 230, false⟩
@[simp] theorem t226_size : t226.size = 1 := rfl
@[simp] theorem t226_bytes : t226.bytes = 24 := rfl
@[simp] theorem t226_z : t226.z = .sl true 0 .any [] := rfl
@[simp] theorem t226_y : t226.y = yLTFreeSlot := rfl
@[simp] theorem t226_kind : t226.kind = .slice 230 := rfl
@[simp] theorem t226_cmp : t226.cmp = false := rfl
/-- impl.sizeHeap = loop.example/g03007/impl.sizeHeap -/
def t227 : TI := ⟨1, 24, .slice none 0 0, .sl true 0 .any [], yLTFreeSlot, .slice 230, false⟩
@[simp] theorem t227_size : t227.size = 1 := rfl
@[simp] theorem t227_bytes : t227.bytes = 24 := rfl
@[simp] theorem t227_z : t227.z = .sl true 0 .any [] := rfl
@[simp] theorem t227_y : t227.y = yLTFreeSlot := rfl
@[simp] theorem t227_kind : t227.kind = .slice 230 := rfl
@[simp] theorem t227_cmp : t227.cmp = false := rfl
/-- struct { size int; index int } -/
def t229 : TI := ⟨2, 16, .agg #[.int .i64 0, .int .i64 0], .agg [.lit (.int .i64 0), .lit (.int .i64 0)], yTFreeSlot, .st [(0, 3), (1, 3)], true⟩
@[simp] theorem t229_size : t229.size = 2 := rfl
@[simp] theorem t229_bytes : t229.bytes = 16 := rfl
@[simp] theorem t229_z : t229.z = .agg [.lit (.int .i64 0), .lit (.int .i64 0)] := rfl
@[simp] theorem t229_y : t229.y = yTFreeSlot := rfl
@[simp] theorem t229_kind : t229.kind = .st [(0, 3), (1, 3)] := rfl
@[simp] theorem t229_cmp : t229.cmp = true := rfl
/-- impl.freeSlot = loop.example/g03007/impl.freeSlot -/
def t230 : TI := ⟨2, 16, .agg #[.int .i64 0, .int .i64 0], .agg [.lit (.int .i64 0), .lit (.int .i64 0)], yTFreeSlot, .st [(0, 3), (1, 3)], true⟩
@[simp] theorem t230_size : t230.size = 2 := rfl
@[simp] theorem t230_bytes : t230.bytes = 16 := rfl
@[simp] theorem t230_z : t230.z = .agg [.lit (.int .i64 0), .lit (.int .i64 0)] := rfl
@[simp] theorem t230_y : t230.y = yTFreeSlot := rfl
@[simp] theorem t230_kind : t230.kind = .st [(0, 3), (1, 3)] := rfl
@[simp] theorem t230_cmp : t230.cmp = true := rfl
/-- impl.content = loop.example/g03007/impl.content -/
def t235 : TI := ⟨1, 8, .int .i64 0, .lit (.int .i64 0), .lit (.int .i64 0), .int .i64, false⟩
@[simp] theorem t235_size : t235.size = 1 := rfl
@[simp] theorem t235_bytes : t235.bytes = 8 := rfl
@[simp] theorem t235_z : t235.z = .lit (.int .i64 0) := rfl
@[simp] theorem t235_y : t235.y = .lit (.int .i64 0) := rfl
@[simp] theorem t235_kind : t235.kind = .int .i64 := rfl
@[simp] theorem t235_cmp : t235.cmp = false := rfl
/-- uint -/
def t239 : TI := ⟨1, 8, .int .u64 0, .lit (.int .u64 0), .lit (.int .u64 0), .int .u64, false⟩
@[simp] theorem t239_size : t239.size = 1 := rfl
@[simp] theorem t239_bytes : t239.bytes = 8 := rfl
@[simp] theorem t239_z : t239.z = .lit (.int .u64 0) := rfl
@[simp] theorem t239_y : t239.y = .lit (.int .u64 0) := rfl
@[simp] theorem t239_kind : t239.kind = .int .u64 := rfl
@[simp] theorem t239_cmp : t239.cmp = false := rfl
/-- impl.byHeight = loop.example/g03007/impl.byHeight -/
def t241 : TI := ⟨1, 24, .slice none 0 0, .sl true 0 .any [], yLTBid, .slice 114, false⟩
@[simp] theorem t241_size : t241.size = 1 := rfl
@[simp] theorem t241_bytes : t241.bytes = 24 := rfl
@[simp] theorem t241_z : t241.z = .sl true 0 .any [] := rfl
@[simp] theorem t241_y : t241.y = yLTBid := rfl
@[simp] theorem t241_kind : t241.kind = .slice 114 := rfl
@[simp] theorem t241_cmp : t241.cmp = false := rfl
/-- []func(impl.Bid) bool -/
def t242 : TI := ⟨1, 24, .slice none 0 0, .sl true 0 .any [], .any, .slice 206, false⟩
@[simp] theorem t242_size : t242.size = 1 := rfl
@[simp] theorem t242_bytes : t242.bytes = 24 := rfl
@[simp] theorem t242_z : t242.z = .sl true 0 .any [] := rfl
@[simp] theorem t242_y : t242.y = .any := rfl
@[simp] theorem t242_kind : t242.kind = .slice 206 := rfl
@[simp] theorem t242_cmp : t242.cmp = false := rfl
/-- interface { Len() int; Less(int, int) bool; Pop() interface {}; Push(interface {}); Swap(int, int) } -/
def t248 : TI := ⟨1, 16, .nilIface, .lit .nilIface, .lit .nilIface, .iface, false⟩
@[simp] theorem t248_size : t248.size = 1 := rfl
@[simp] theorem t248_bytes : t248.bytes = 16 := rfl
@[simp] theorem t248_z : t248.z = .lit .nilIface := rfl
@[simp] theorem t248_y : t248.y = .lit .nilIface := rfl
@[simp] theorem t248_kind : t248.kind = .iface := rfl
@[simp] theorem t248_cmp : t248.cmp = false := rfl
/-- heap.Interface = container/heap.Interface -/
def t249 : TI := ⟨1, 16, .nilIface, .lit .nilIface, .lit .nilIface, .iface, false⟩
@[simp] theorem t249_size : t249.size = 1 := rfl
@[simp] theorem t249_bytes : t249.bytes = 16 := rfl
@[simp] theorem t249_z : t249.z = .lit .nilIface := rfl
@[simp] theorem t249_y : t249.y = .lit .nilIface := rfl
@[simp] theorem t249_kind : t249.kind = .iface := rfl
@[simp] theorem t249_cmp : t249.cmp = false := rfl
/-- slices.sortedHint -/
def t256 : TI := ⟨1, 8, .int .i64 0, .lit (.int .i64 0), .lit (.int .i64 0), .int .i64, false⟩
@[simp] theorem t256_size : t256.size = 1 := rfl
@[simp] theorem t256_bytes : t256.bytes = 8 := rfl
@[simp] theorem t256_z : t256.z = .lit (.int .i64 0) := rfl
@[simp] theorem t256_y : t256.y = .lit (.int .i64 0) := rfl
@[simp] theorem t256_kind : t256.kind = .int .i64 := rfl
@[simp] theorem t256_cmp : t256.cmp = false := rfl
/-- uint32 -/
def t263 : TI := ⟨1, 4, .int .u32 0, .lit (.int .u32 0), .lit (.int .u32 0), .int .u32, false⟩
@[simp] theorem t263_size : t263.size = 1 := rfl
@[simp] theorem t263_bytes : t263.bytes = 4 := rfl
@[simp] theorem t263_z : t263.z = .lit (.int .u32 0) := rfl
@[simp] theorem t263_y : t263.y = .lit (.int .u32 0) := rfl
@[simp] theorem t263_kind : t263.kind = .int .u32 := rfl
@[simp] theorem t263_cmp : t263.cmp = false := rfl
/-- uint64 -/
def t265 : TI := ⟨1, 8, .int .u64 0, .lit (.int .u64 0), .lit (.int .u64 0), .int .u64, false⟩
@[simp] theorem t265_size : t265.size = 1 := rfl
@[simp] theorem t265_bytes : t265.bytes = 8 := rfl
@[simp] theorem t265_z : t265.z = .lit (.int .u64 0) := rfl
@[simp] theorem t265_y : t265.y = .lit (.int .u64 0) := rfl
@[simp] theorem t265_kind : t265.kind = .int .u64 := rfl
@[simp] theorem t265_cmp : t265.cmp = false := rfl
/-- interface { Len() int; Less(int, int) bool; Swap(int, int) } -/
def t266 : TI := ⟨1, 16, .nilIface, .lit .nilIface, .lit .nilIface, .iface, false⟩
@[simp] theorem t266_size : t266.size = 1 := rfl
@[simp] theorem t266_bytes : t266.bytes = 16 := rfl
@[simp] theorem t266_z : t266.z = .lit .nilIface := rfl
@[simp] theorem t266_y : t266.y = .lit .nilIface := rfl
@[simp] theorem t266_kind : t266.kind = .iface := rfl
@[simp] theorem t266_cmp : t266.cmp = false := rfl
/-- sort.Interface -/
def t267 : TI := ⟨1, 16, .nilIface, .lit .nilIface, .lit .nilIface, .iface, false⟩
@[simp] theorem t267_size : t267.size = 1 := rfl
@[simp] theorem t267_bytes : t267.bytes = 16 := rfl
@[simp] theorem t267_z : t267.z = .lit .nilIface := rfl
@[simp] theorem t267_y : t267.y = .lit .nilIface := rfl
@[simp] theorem t267_kind : t267.kind = .iface := rfl
@[simp] theorem t267_cmp : t267.cmp = false := rfl
/-- slices.xorshift -/
def t269 : TI := ⟨1, 8, .int .u64 0, .lit (.int .u64 0), .lit (.int .u64 0), .int .u64, false⟩
@[simp] theorem t269_size : t269.size = 1 := rfl
@[simp] theorem t269_bytes : t269.bytes = 8 := rfl
@[simp] theorem t269_z : t269.z = .lit (.int .u64 0) := rfl
@[simp] theorem t269_y : t269.y = .lit (.int .u64 0) := rfl
@[simp] theorem t269_kind : t269.kind = .int .u64 := rfl
@[simp] theorem t269_cmp : t269.cmp = false := rfl
/-- *int -/
def t273 : TI := ⟨1, 8, .pointer none, .lit (.pointer none), .lit (.pointer none), .ptr 3, false⟩
@[simp] theorem t273_size : t273.size = 1 := rfl
@[simp] theorem t273_bytes : t273.bytes = 8 := rfl
@[simp] theorem t273_z : t273.z = .lit (.pointer none) := rfl
@[simp] theorem t273_y : t273.y = .lit (.pointer none) := rfl
@[simp] theorem t273_kind : t273.kind = .ptr 3 := rfl
@[simp] theorem t273_cmp : t273.cmp = false := rfl
/-- *slices.xorshift -/
def t280 : TI := ⟨1, 8, .pointer none, .lit (.pointer none), .lit (.pointer none), .ptr 269, false⟩
@[simp] theorem t280_size : t280.size = 1 := rfl
@[simp] theorem t280_bytes : t280.bytes = 8 := rfl
@[simp] theorem t280_z : t280.z = .lit (.pointer none) := rfl
@[simp] theorem t280_y : t280.y = .lit (.pointer none) := rfl
@[simp] theorem t280_kind : t280.kind = .ptr 269 := rfl
@[simp] theorem t280_cmp : t280.cmp = false := rfl
/-- func(unsafe.Pointer, unsafe.Pointer) bool -/
def t290 : TI := ⟨1, 8, .nilFunc, .lit .nilFunc, .lit .nilFunc, .func, false⟩
@[simp] theorem t290_size : t290.size = 1 := rfl
@[simp] theorem t290_bytes : t290.bytes = 8 := rfl
@[simp] theorem t290_z : t290.z = .lit .nilFunc := rfl
@[simp] theorem t290_y : t290.y = .lit .nilFunc := rfl
@[simp] theorem t290_kind : t290.kind = .func := rfl
@[simp] theorem t290_cmp : t290.cmp = false := rfl
/-- *uint8 -/
def t291 : TI := ⟨1, 8, .pointer none, .lit (.pointer none), .lit (.pointer none), .ptr 5, false⟩
@[simp] theorem t291_size : t291.size = 1 := rfl
@[simp] theorem t291_bytes : t291.bytes = 8 := rfl
@[simp] theorem t291_z : t291.z = .lit (.pointer none) := rfl
@[simp] theorem t291_y : t291.y = .lit (.pointer none) := rfl
@[simp] theorem t291_kind : t291.kind = .ptr 5 := rfl
@[simp] theorem t291_cmp : t291.cmp = false := rfl
/-- struct { Size_ uintptr; PtrBytes uintptr; Hash uint32; TFlag abi.TFlag; Align_ uint8; FieldAlign_ uint8; Kind_ abi.Kind; Equal func(unsafe.Pointer, unsafe.Pointer) bool; GCData *uint8; Str abi.NameOff; PtrToThis abi.TypeOff } -/
def t294 : TI := ⟨11, 48, .agg #[.int .u64 0, .int .u64 0, .int .u32 0, .int .u8 0, .int .u8 0, .int .u8 0, .int .u8 0, .nilFunc, .pointer none, .int .i32 0, .int .i32 0], .agg [.lit (.int .u64 0), .lit (.int .u64 0), .lit (.int .u32 0), .lit (.int .u8 0), .lit (.int .u8 0), .lit (.int .u8 0), .lit (.int .u8 0), .lit .nilFunc, .lit (.pointer none), .lit (.int .i32 0), .lit (.int .i32 0)], .any, .st [(0, 12), (1, 12), (2, 263), (3, 288), (4, 5), (5, 5), (6, 289), (7, 290), (8, 291), (9, 292), (10, 293)], false⟩
@[simp] theorem t294_size : t294.size = 11 := rfl
@[simp] theorem t294_bytes : t294.bytes = 48 := rfl
@[simp] theorem t294_z : t294.z = .agg [.lit (.int .u64 0), .lit (.int .u64 0), .lit (.int .u32 0), .lit (.int .u8 0), .lit (.int .u8 0), .lit (.int .u8 0), .lit (.int .u8 0), .lit .nilFunc, .lit (.pointer none), .lit (.int .i32 0), .lit (.int .i32 0)] := rfl
@[simp] theorem t294_y : t294.y = .any := rfl
@[simp] theorem t294_kind : t294.kind = .st [(0, 12), (1, 12), (2, 263), (3, 288), (4, 5), (5, 5), (6, 289), (7, 290), (8, 291), (9, 292), (10, 293)] := rfl
@[simp] theorem t294_cmp : t294.cmp = false := rfl
/-- struct { kind int; colour int; size int; place int } -/
def t304 : TI := ⟨4, 32, .agg #[.int .i64 0, .int .i64 0, .int .i64 0, .int .i64 0], .agg [.lit (.int .i64 0), .lit (.int .i64 0), .lit (.int .i64 0), .lit (.int .i64 0)], .any, .st [(0, 3), (1, 3), (2, 3), (3, 3)], true⟩
@[simp] theorem t304_size : t304.size = 4 := rfl
@[simp] theorem t304_bytes : t304.bytes = 32 := rfl
@[simp] theorem t304_z : t304.z = .agg [.lit (.int .i64 0), .lit (.int .i64 0), .lit (.int .i64 0), .lit (.int .i64 0)] := rfl
@[simp] theorem t304_y : t304.y = .any := rfl
@[simp] theorem t304_kind : t304.kind = .st [(0, 3), (1, 3), (2, 3), (3, 3)] := rfl
@[simp] theorem t304_cmp : t304.cmp = true := rfl
theorem t2_ok : t2.ok Try.prog 2 := ⟨by kernel_rfl, by kernel_rfl, by kernel_rfl, Try.underlying2, (fun h => by cases h), ⟨rfl, rfl, rfl, rfl, fun F h β => by simp [t2, Rep, Reps]⟩⟩
theorem t3_ok : t3.ok Try.prog 3 := ⟨by kernel_rfl, by kernel_rfl, by kernel_rfl, Try.underlying3, (fun h => by cases h), ⟨rfl, rfl, rfl, rfl, fun F h β => by simp [t3, Rep, Reps]⟩⟩
theorem t4_ok : t4.ok Try.prog 4 := ⟨by kernel_rfl, by kernel_rfl, by kernel_rfl, Try.underlying4, (fun h => by cases h), ⟨rfl, rfl, rfl, rfl, fun F h β => by simp [t4, Rep, Reps]⟩⟩
theorem t5_ok : t5.ok Try.prog 5 := ⟨by kernel_rfl, by kernel_rfl, by kernel_rfl, Try.underlying5, (fun h => by cases h), ⟨rfl, rfl, rfl, rfl, fun F h β => by simp [t5, Rep, Reps]⟩⟩
theorem t9_ok : t9.ok Try.prog 9 := ⟨by kernel_rfl, by kernel_rfl, by kernel_rfl, Try.underlying9, (fun h => by cases h), ⟨rfl, rfl, rfl, rfl, fun F h β => by simp [t9, Rep, Reps]⟩⟩
theorem t12_ok : t12.ok Try.prog 12 := ⟨by kernel_rfl, by kernel_rfl, by kernel_rfl, Try.underlying12, (fun h => by cases h), ⟨rfl, rfl, rfl, rfl, fun F h β => by simp [t12, Rep, Reps]⟩⟩
theorem t20_ok : t20.ok Try.prog 20 := ⟨by kernel_rfl, by kernel_rfl, by kernel_rfl, ⟨_, Try.underlying20⟩, (fun h => by cases h), ⟨rfl, rfl, rfl, rfl, fun F h β => by simp [t20, Rep, Reps]⟩⟩
theorem t21_ok : t21.ok Try.prog 21 := ⟨by kernel_rfl, by kernel_rfl, by kernel_rfl, Try.underlying21, (fun h => by cases h), ⟨rfl, rfl, rfl, rfl, fun F h β => by simp [t21, Rep, Reps]⟩⟩
theorem t22_ok : t22.ok Try.prog 22 := ⟨by kernel_rfl, by kernel_rfl, by kernel_rfl, Try.underlying22, (fun h => by cases h), ⟨rfl, rfl, rfl, rfl, fun F h β => by simp [t22, Rep, Reps]⟩⟩
theorem t24_ok : t24.ok Try.prog 24 := ⟨by kernel_rfl, by kernel_rfl, by kernel_rfl, Try.underlying24, (fun h => by cases h), ⟨rfl, rfl, rfl, rfl, fun F h β => by simp [t24, Rep, Reps]⟩⟩
theorem t25_ok : t25.ok Try.prog 25 := ⟨by kernel_rfl, by kernel_rfl, by kernel_rfl, ⟨_, Try.underlying25, rfl⟩, (fun _ => eqInts_of (by kernel_rfl) (by kernel_rfl) (by kernel_rfl)), ⟨rfl, rfl, rfl, rfl, fun F h β => by simp [t25, Rep, Reps]⟩⟩
theorem t26_ok : t26.ok Try.prog 26 := ⟨by kernel_rfl, by kernel_rfl, by kernel_rfl, ⟨_, Try.underlying26, rfl⟩, (fun _ => eqInts_of (by kernel_rfl) (by kernel_rfl) (by kernel_rfl)), ⟨rfl, rfl, rfl, rfl, fun F h β => by simp [t26, Rep, Reps]⟩⟩
theorem t27_ok : t27.ok Try.prog 27 := ⟨by kernel_rfl, by kernel_rfl, by kernel_rfl, ⟨_, Try.underlying27, rfl⟩, (fun _ => eqInts_of (by kernel_rfl) (by kernel_rfl) (by kernel_rfl)), ⟨rfl, rfl, rfl, rfl, fun F h β => by simp [t27, Rep, Reps]⟩⟩
theorem t28_ok : t28.ok Try.prog 28 := ⟨by kernel_rfl, by kernel_rfl, by kernel_rfl, ⟨_, Try.underlying28, rfl⟩, (fun _ => eqInts_of (by kernel_rfl) (by kernel_rfl) (by kernel_rfl)), ⟨rfl, rfl, rfl, rfl, fun F h β => by simp [t28, Rep, Reps]⟩⟩
theorem t36_ok : t36.ok Try.prog 36 := ⟨by kernel_rfl, by kernel_rfl, by kernel_rfl, Try.underlying36, (fun h => by cases h), ⟨rfl, rfl, rfl, rfl, fun F h β => by simp [t36, Rep, Reps]⟩⟩
theorem t38_ok : t38.ok Try.prog 38 := ⟨by kernel_rfl, by kernel_rfl, by kernel_rfl, ⟨_, Try.underlying38, rfl⟩, (fun _ => eqInts_of (by kernel_rfl) (by kernel_rfl) (by kernel_rfl)), ⟨rfl, rfl, rfl, rfl, fun F h β => by simp [t38, Rep, Reps]⟩⟩
theorem t39_ok : t39.ok Try.prog 39 := ⟨by kernel_rfl, by kernel_rfl, by kernel_rfl, ⟨_, Try.underlying39, rfl⟩, (fun _ => eqInts_of (by kernel_rfl) (by kernel_rfl) (by kernel_rfl)), ⟨rfl, rfl, rfl, rfl, fun F h β => by simp [t39, Rep, Reps]⟩⟩
theorem t47_ok : t47.ok Try.prog 47 := ⟨by kernel_rfl, by kernel_rfl, by kernel_rfl, Try.underlying47, (fun h => by cases h), ⟨rfl, rfl, rfl, rfl, fun F h β => by simp [t47, Rep, Reps]⟩⟩
theorem t48_ok : t48.ok Try.prog 48 := ⟨by kernel_rfl, by kernel_rfl, by kernel_rfl, ⟨_, Try.underlying48, rfl⟩, (fun _ => eqInts_of (by kernel_rfl) (by kernel_rfl) (by kernel_rfl)), ⟨rfl, rfl, rfl, rfl, fun F h β => by simp [t48, Rep, Reps]⟩⟩
theorem t49_ok : t49.ok Try.prog 49 := ⟨by kernel_rfl, by kernel_rfl, by kernel_rfl, ⟨_, Try.underlying49, rfl⟩, (fun _ => eqInts_of (by kernel_rfl) (by kernel_rfl) (by kernel_rfl)), ⟨rfl, rfl, rfl, rfl, fun F h β => by simp [t49, Rep, Reps]⟩⟩
theorem t62_ok : t62.ok Try.prog 62 := ⟨by kernel_rfl, by kernel_rfl, by kernel_rfl, Try.underlying62, (fun h => by cases h), ⟨rfl, rfl, rfl, rfl, fun F h β => by simp [t62, Rep, Reps]⟩⟩
theorem t63_ok : t63.ok Try.prog 63 := ⟨by kernel_rfl, by kernel_rfl, by kernel_rfl, ⟨_, Try.underlying63, rfl⟩, (fun _ => eqInts_of (by kernel_rfl) (by kernel_rfl) (by kernel_rfl)), ⟨rfl, rfl, rfl, rfl, fun F h β => by simp [t63, Rep, Reps]⟩⟩
theorem t64_ok : t64.ok Try.prog 64 := ⟨by kernel_rfl, by kernel_rfl, by kernel_rfl, ⟨_, Try.underlying64, rfl⟩, (fun _ => eqInts_of (by kernel_rfl) (by kernel_rfl) (by kernel_rfl)), ⟨rfl, rfl, rfl, rfl, fun F h β => by simp [t64, Rep, Reps]⟩⟩
theorem t77_ok : t77.ok Try.prog 77 := ⟨by kernel_rfl, by kernel_rfl, by kernel_rfl, Try.underlying77, (fun h => by cases h), ⟨rfl, rfl, rfl, rfl, fun F h β => by simp [t77, Rep, Reps]⟩⟩
theorem t86_ok : t86.ok Try.prog 86 := ⟨by kernel_rfl, by kernel_rfl, by kernel_rfl, ⟨_, Try.underlying86, rfl⟩, (fun _ => eqInts_of (by kernel_rfl) (by kernel_rfl) (by kernel_rfl)), ⟨rfl, rfl, rfl, rfl, fun F h β => by simp [t86, Rep, Reps]⟩⟩
theorem t87_ok : t87.ok Try.prog 87 := ⟨by kernel_rfl, by kernel_rfl, by kernel_rfl, ⟨_, Try.underlying87, rfl⟩, (fun _ => eqInts_of (by kernel_rfl) (by kernel_rfl) (by kernel_rfl)), ⟨rfl, rfl, rfl, rfl, fun F h β => by simp [t87, Rep, Reps]⟩⟩
theorem t90_ok : t90.ok Try.prog 90 := ⟨by kernel_rfl, by kernel_rfl, by kernel_rfl, Try.underlying90, (fun h => by cases h), ⟨rfl, rfl, rfl, rfl, fun F h β => by simp [t90, Rep, Reps]⟩⟩
theorem t91_ok : t91.ok Try.prog 91 := ⟨by kernel_rfl, by kernel_rfl, by kernel_rfl, ⟨_, Try.underlying91, rfl⟩, (fun _ => eqInts_of (by kernel_rfl) (by kernel_rfl) (by kernel_rfl)), ⟨rfl, rfl, rfl, rfl, fun F h β => by simp [t91, Rep, Reps]⟩⟩
theorem t92_ok : t92.ok Try.prog 92 := ⟨by kernel_rfl, by kernel_rfl, by kernel_rfl, ⟨_, Try.underlying92, rfl⟩, (fun _ => eqInts_of (by kernel_rfl) (by kernel_rfl) (by kernel_rfl)), ⟨rfl, rfl, rfl, rfl, fun F h β => by simp [t92, Rep, Reps]⟩⟩
theorem t107_ok : t107.ok Try.prog 107 := ⟨by kernel_rfl, by kernel_rfl, by kernel_rfl, Try.underlying107, (fun h => by cases h), ⟨rfl, rfl, rfl, rfl, fun F h β => by simp [t107, Rep, Reps]⟩⟩
theorem t113_ok : t113.ok Try.prog 113 := ⟨by kernel_rfl, by kernel_rfl, by kernel_rfl, ⟨_, Try.underlying113, rfl⟩, (fun _ => eqInts_of (by kernel_rfl) (by kernel_rfl) (by kernel_rfl)), ⟨rfl, rfl, rfl, rfl, fun F h β => by simp [t113, Rep, Reps]⟩⟩
theorem t114_ok : t114.ok Try.prog 114 := ⟨by kernel_rfl, by kernel_rfl, by kernel_rfl, ⟨_, Try.underlying114, rfl⟩, (fun _ => eqInts_of (by kernel_rfl) (by kernel_rfl) (by kernel_rfl)), ⟨rfl, rfl, rfl, rfl, fun F h β => by simp [t114, Rep, Reps]⟩⟩
theorem t121_ok : t121.ok Try.prog 121 := ⟨by kernel_rfl, by kernel_rfl, by kernel_rfl, Try.underlying121, (fun h => by cases h), ⟨rfl, rfl, rfl, rfl, fun F h β => by simp [t121, Rep, Reps]⟩⟩
theorem t128_ok : t128.ok Try.prog 128 := ⟨by kernel_rfl, by kernel_rfl, by kernel_rfl, ⟨_, _, _, Try.underlying128⟩, (fun h => by cases h), ⟨rfl, rfl, rfl, rfl, fun F h β => by simp [t128, Rep, Reps]⟩⟩
theorem t129_ok : t129.ok Try.prog 129 := ⟨by kernel_rfl, by kernel_rfl, by kernel_rfl, ⟨_, Try.underlying129, rfl⟩, (fun h => by cases h), ⟨rfl, rfl, rfl, rfl, fun F h β => by
    show Rep F h β t129.z t129.zero
    simp only [t129, Rep, Reps]
    exact ⟨_, rfl, _, _, rfl, (.inl ⟨by trivial, none, 0, by trivial, by intros; rfl⟩), _, _, rfl, (by trivial), rfl⟩⟩⟩
theorem t130_ok : t130.ok Try.prog 130 := ⟨by kernel_rfl, by kernel_rfl, by kernel_rfl, ⟨_, Try.underlying130, rfl⟩, (fun h => by cases h), ⟨rfl, rfl, rfl, rfl, fun F h β => by
    show Rep F h β t130.z t130.zero
    simp only [t130, Rep, Reps]
    exact ⟨_, rfl, _, _, rfl, (.inl ⟨by trivial, none, 0, by trivial, by intros; rfl⟩), _, _, rfl, (by trivial), rfl⟩⟩⟩
theorem t134_ok : t134.ok Try.prog 134 := ⟨by kernel_rfl, by kernel_rfl, by kernel_rfl, ⟨_, _, _, Try.underlying134⟩, (fun h => by cases h), ⟨rfl, rfl, rfl, rfl, fun F h β => by simp [t134, Rep, Reps]⟩⟩
theorem t142_ok : t142.ok Try.prog 142 := ⟨by kernel_rfl, by kernel_rfl, by kernel_rfl, ⟨_, Try.underlying142⟩, (fun h => by cases h), ⟨rfl, rfl, rfl, rfl, fun F h β => by simp [t142, Rep, Reps]⟩⟩
theorem t143_ok : t143.ok Try.prog 143 := ⟨by kernel_rfl, by kernel_rfl, by kernel_rfl, ⟨_, Try.underlying143⟩, (fun h => by cases h), ⟨rfl, rfl, rfl, rfl, fun F h β => by simp [t143, Rep, Reps]⟩⟩
theorem t147_ok : t147.ok Try.prog 147 := ⟨by kernel_rfl, by kernel_rfl, by kernel_rfl, ⟨_, _, _, Try.underlying147⟩, (fun h => by cases h), ⟨rfl, rfl, rfl, rfl, fun F h β => by simp [t147, Rep, Reps]⟩⟩
theorem t148_ok : t148.ok Try.prog 148 := ⟨by kernel_rfl, by kernel_rfl, by kernel_rfl, ⟨_, Try.underlying148, rfl⟩, (fun h => by cases h), ⟨rfl, rfl, rfl, rfl, fun F h β => by
    show Rep F h β t148.z t148.zero
    simp only [t148, Rep, Reps]
    exact ⟨_, rfl, _, _, rfl, (.inl ⟨by trivial, none, 0, by trivial, by intros; rfl⟩), _, _, rfl, (by trivial), rfl⟩⟩⟩
theorem t149_ok : t149.ok Try.prog 149 := ⟨by kernel_rfl, by kernel_rfl, by kernel_rfl, ⟨_, Try.underlying149, rfl⟩, (fun h => by cases h), ⟨rfl, rfl, rfl, rfl, fun F h β => by
    show Rep F h β t149.z t149.zero
    simp only [t149, Rep, Reps]
    exact ⟨_, rfl, _, _, rfl, (.inl ⟨by trivial, none, 0, by trivial, by intros; rfl⟩), _, _, rfl, (by trivial), rfl⟩⟩⟩
theorem t152_ok : t152.ok Try.prog 152 := ⟨by kernel_rfl, by kernel_rfl, by kernel_rfl, ⟨_, Try.underlying152, rfl⟩, (fun _ => eqInts_of (by kernel_rfl) (by kernel_rfl) (by kernel_rfl)), ⟨rfl, rfl, rfl, rfl, fun F h β => by simp [t152, Rep, Reps]⟩⟩
theorem t153_ok : t153.ok Try.prog 153 := ⟨by kernel_rfl, by kernel_rfl, by kernel_rfl, ⟨_, Try.underlying153, rfl⟩, (fun _ => eqInts_of (by kernel_rfl) (by kernel_rfl) (by kernel_rfl)), ⟨rfl, rfl, rfl, rfl, fun F h β => by simp [t153, Rep, Reps]⟩⟩
theorem t157_ok : t157.ok Try.prog 157 := ⟨by kernel_rfl, by kernel_rfl, by kernel_rfl, Try.underlying157, (fun h => by cases h), ⟨rfl, rfl, rfl, rfl, fun F h β => by simp [t157, Rep, Reps]⟩⟩
theorem t160_ok : t160.ok Try.prog 160 := ⟨by kernel_rfl, by kernel_rfl, by kernel_rfl, Try.underlying160, (fun h => by cases h), ⟨rfl, rfl, rfl, rfl, fun F h β => by simp [t160, Rep, Reps]⟩⟩
theorem t164_ok : t164.ok Try.prog 164 := ⟨by kernel_rfl, by kernel_rfl, by kernel_rfl, ⟨_, _, _, Try.underlying164⟩, (fun h => by cases h), ⟨rfl, rfl, rfl, rfl, fun F h β => by simp [t164, Rep, Reps]⟩⟩
theorem t165_ok : t165.ok Try.prog 165 := ⟨by kernel_rfl, by kernel_rfl, by kernel_rfl, ⟨_, Try.underlying165, rfl⟩, (fun h => by cases h), ⟨rfl, rfl, rfl, rfl, fun F h β => by
    show Rep F h β t165.z t165.zero
    simp only [t165, Rep, Reps]
    exact ⟨_, rfl, _, _, rfl, (.inl ⟨by trivial, none, 0, by trivial, by intros; rfl⟩), _, _, rfl, (by trivial), rfl⟩⟩⟩
theorem t166_ok : t166.ok Try.prog 166 := ⟨by kernel_rfl, by kernel_rfl, by kernel_rfl, ⟨_, Try.underlying166, rfl⟩, (fun h => by cases h), ⟨rfl, rfl, rfl, rfl, fun F h β => by
    show Rep F h β t166.z t166.zero
    simp only [t166, Rep, Reps]
    exact ⟨_, rfl, _, _, rfl, (.inl ⟨by trivial, none, 0, by trivial, by intros; rfl⟩), _, _, rfl, (by trivial), rfl⟩⟩⟩
theorem t172_ok : t172.ok Try.prog 172 := ⟨by kernel_rfl, by kernel_rfl, by kernel_rfl, Try.underlying172, (fun h => by cases h), ⟨rfl, rfl, rfl, rfl, fun F h β => by simp [t172, Rep, Reps]⟩⟩
theorem t173_ok : t173.ok Try.prog 173 := ⟨by kernel_rfl, by kernel_rfl, by kernel_rfl, ⟨_, Try.underlying173, rfl⟩, (fun h => by cases h), ⟨rfl, rfl, rfl, rfl, fun F h β => by
    show Rep F h β t173.z t173.zero
    simp only [t173, Rep, Reps]
    exact ⟨_, rfl, _, _, rfl, (.inl ⟨by trivial, by trivial, by trivial⟩), rfl⟩⟩⟩
theorem t174_ok : t174.ok Try.prog 174 := ⟨by kernel_rfl, by kernel_rfl, by kernel_rfl, ⟨_, Try.underlying174, rfl⟩, (fun h => by cases h), ⟨rfl, rfl, rfl, rfl, fun F h β => by
    show Rep F h β t174.z t174.zero
    simp only [t174, Rep, Reps]
    exact ⟨_, rfl, _, _, rfl, (.inl ⟨by trivial, by trivial, by trivial⟩), rfl⟩⟩⟩
theorem t176_ok : t176.ok Try.prog 176 := ⟨by kernel_rfl, by kernel_rfl, by kernel_rfl, Try.underlying176, (fun h => by cases h), ⟨rfl, rfl, rfl, rfl, fun F h β => by simp [t176, Rep, Reps]⟩⟩
theorem t181_ok : t181.ok Try.prog 181 := ⟨by kernel_rfl, by kernel_rfl, by kernel_rfl, ⟨_, _, _, Try.underlying181⟩, (fun h => by cases h), ⟨rfl, rfl, rfl, rfl, fun F h β => by simp [t181, Rep, Reps]⟩⟩
theorem t182_ok : t182.ok Try.prog 182 := ⟨by kernel_rfl, by kernel_rfl, by kernel_rfl, ⟨_, Try.underlying182, rfl⟩, (fun h => by cases h), ⟨rfl, rfl, rfl, rfl, fun F h β => by
    show Rep F h β t182.z t182.zero
    simp only [t182, Rep, Reps]
    exact ⟨_, rfl, _, _, rfl, (.inl ⟨by trivial, none, 0, by trivial, by intros; rfl⟩), _, _, rfl, (by trivial), rfl⟩⟩⟩
theorem t183_ok : t183.ok Try.prog 183 := ⟨by kernel_rfl, by kernel_rfl, by kernel_rfl, ⟨_, Try.underlying183, rfl⟩, (fun h => by cases h), ⟨rfl, rfl, rfl, rfl, fun F h β => by
    show Rep F h β t183.z t183.zero
    simp only [t183, Rep, Reps]
    exact ⟨_, rfl, _, _, rfl, (.inl ⟨by trivial, none, 0, by trivial, by intros; rfl⟩), _, _, rfl, (by trivial), rfl⟩⟩⟩
theorem t192_ok : t192.ok Try.prog 192 := ⟨by kernel_rfl, by kernel_rfl, by kernel_rfl, Try.underlying192, (fun h => by cases h), ⟨rfl, rfl, rfl, rfl, fun F h β => by simp [t192, Rep, Reps]⟩⟩
theorem t193_ok : t193.ok Try.prog 193 := ⟨by kernel_rfl, by kernel_rfl, by kernel_rfl, Try.underlying193, (fun h => by cases h), ⟨rfl, rfl, rfl, rfl, fun F h β => by simp [t193, Rep, Reps]⟩⟩
theorem t194_ok : t194.ok Try.prog 194 := ⟨by kernel_rfl, by kernel_rfl, by kernel_rfl, Try.underlying194, (fun h => by cases h), ⟨rfl, rfl, rfl, rfl, fun F h β => by simp [t194, Rep, Reps]⟩⟩
theorem t196_ok : t196.ok Try.prog 196 := ⟨by kernel_rfl, by kernel_rfl, by kernel_rfl, ⟨_, Try.underlying196, rfl⟩, (fun h => by cases h), ⟨rfl, rfl, rfl, rfl, fun F h β => by simp [t196, Rep, Reps]⟩⟩
theorem t197_ok : t197.ok Try.prog 197 := ⟨by kernel_rfl, by kernel_rfl, by kernel_rfl, ⟨_, Try.underlying197, rfl⟩, (fun h => by cases h), ⟨rfl, rfl, rfl, rfl, fun F h β => by simp [t197, Rep, Reps]⟩⟩
theorem t205_ok : t205.ok Try.prog 205 := ⟨by kernel_rfl, by kernel_rfl, by kernel_rfl, Try.underlying205, (fun h => by cases h), ⟨rfl, rfl, rfl, rfl, fun F h β => by simp [t205, Rep, Reps]⟩⟩
theorem t206_ok : t206.ok Try.prog 206 := ⟨by kernel_rfl, by kernel_rfl, by kernel_rfl, ⟨_, _, _, Try.underlying206⟩, (fun h => by cases h), ⟨rfl, rfl, rfl, rfl, fun F h β => by simp [t206, Rep, Reps]⟩⟩
theorem t210_ok : t210.ok Try.prog 210 := ⟨by kernel_rfl, by kernel_rfl, by kernel_rfl, ⟨_, Try.underlying210, rfl⟩, (fun h => by cases h), ⟨rfl, rfl, rfl, rfl, fun F h β => by
    show Rep F h β t210.z t210.zero
    simp only [t210, Rep, Reps]
    exact ⟨_, rfl, _, _, rfl, (.inl ⟨by trivial, none, 0, by trivial, by intros; rfl⟩), _, _, rfl, (by trivial), _, _, rfl, (by trivial), rfl⟩⟩⟩
theorem t211_ok : t211.ok Try.prog 211 := ⟨by kernel_rfl, by kernel_rfl, by kernel_rfl, ⟨_, Try.underlying211, rfl⟩, (fun h => by cases h), ⟨rfl, rfl, rfl, rfl, fun F h β => by
    show Rep F h β t211.z t211.zero
    simp only [t211, Rep, Reps]
    exact ⟨_, rfl, _, _, rfl, (.inl ⟨by trivial, none, 0, by trivial, by intros; rfl⟩), _, _, rfl, (by trivial), _, _, rfl, (by trivial), rfl⟩⟩⟩
theorem t214_ok : t214.ok Try.prog 214 := ⟨by kernel_rfl, by kernel_rfl, by kernel_rfl, Try.underlying214, (fun h => by cases h), ⟨rfl, rfl, rfl, rfl, fun F h β => by simp [t214, Rep, Reps]⟩⟩
theorem t217_ok : t217.ok Try.prog 217 := ⟨by kernel_rfl, by kernel_rfl, by kernel_rfl, ⟨_, Try.underlying217, rfl⟩, (fun h => by cases h), ⟨rfl, rfl, rfl, rfl, fun F h β => by simp [t217, Rep, Reps]⟩⟩
theorem t218_ok : t218.ok Try.prog 218 := ⟨by kernel_rfl, by kernel_rfl, by kernel_rfl, ⟨_, Try.underlying218, rfl⟩, (fun h => by cases h), ⟨rfl, rfl, rfl, rfl, fun F h β => by simp [t218, Rep, Reps]⟩⟩
theorem t219_ok : t219.ok Try.prog 219 := ⟨by kernel_rfl, by kernel_rfl, by kernel_rfl, ⟨_, Try.underlying219, rfl⟩, (fun h => by cases h), ⟨rfl, rfl, rfl, rfl, fun F h β => by simp [t219, Rep, Reps]⟩⟩
theorem t225_ok : t225.ok Try.prog 225 := ⟨by kernel_rfl, by kernel_rfl, by kernel_rfl, Try.underlying225, (fun h => by cases h), ⟨rfl, rfl, rfl, rfl, fun F h β => by simp [t225, Rep, Reps]⟩⟩
theorem t226_ok : t226.ok Try.prog 226 := ⟨by kernel_rfl, by kernel_rfl, by kernel_rfl, Try.underlying226, (fun h => by cases h), ⟨rfl, rfl, rfl, rfl, fun F h β => by simp [t226, Rep, Reps]⟩⟩
theorem t227_ok : t227.ok Try.prog 227 := ⟨by kernel_rfl, by kernel_rfl, by kernel_rfl, Try.underlying227, (fun h => by cases h), ⟨rfl, rfl, rfl, rfl, fun F h β => by simp [t227, Rep, Reps]⟩⟩
theorem t229_ok : t229.ok Try.prog 229 := ⟨by kernel_rfl, by kernel_rfl, by kernel_rfl, ⟨_, Try.underlying229, rfl⟩, (fun _ => eqInts_of (by kernel_rfl) (by kernel_rfl) (by kernel_rfl)), ⟨rfl, rfl, rfl, rfl, fun F h β => by simp [t229, Rep, Reps]⟩⟩
theorem t230_ok : t230.ok Try.prog 230 := ⟨by kernel_rfl, by kernel_rfl, by kernel_rfl, ⟨_, Try.underlying230, rfl⟩, (fun _ => eqInts_of (by kernel_rfl) (by kernel_rfl) (by kernel_rfl)), ⟨rfl, rfl, rfl, rfl, fun F h β => by simp [t230, Rep, Reps]⟩⟩
theorem t235_ok : t235.ok Try.prog 235 := ⟨by kernel_rfl, by kernel_rfl, by kernel_rfl, Try.underlying235, (fun h => by cases h), ⟨rfl, rfl, rfl, rfl, fun F h β => by simp [t235, Rep, Reps]⟩⟩
theorem t239_ok : t239.ok Try.prog 239 := ⟨by kernel_rfl, by kernel_rfl, by kernel_rfl, Try.underlying239, (fun h => by cases h), ⟨rfl, rfl, rfl, rfl, fun F h β => by simp [t239, Rep, Reps]⟩⟩
theorem t241_ok : t241.ok Try.prog 241 := ⟨by kernel_rfl, by kernel_rfl, by kernel_rfl, Try.underlying241, (fun h => by cases h), ⟨rfl, rfl, rfl, rfl, fun F h β => by simp [t241, Rep, Reps]⟩⟩
theorem t242_ok : t242.ok Try.prog 242 := ⟨by kernel_rfl, by kernel_rfl, by kernel_rfl, Try.underlying242, (fun h => by cases h), ⟨rfl, rfl, rfl, rfl, fun F h β => by simp [t242, Rep, Reps]⟩⟩
theorem t248_ok : t248.ok Try.prog 248 := ⟨by kernel_rfl, by kernel_rfl, by kernel_rfl, ⟨_, Try.underlying248⟩, (fun h => by cases h), ⟨rfl, rfl, rfl, rfl, fun F h β => by simp [t248, Rep, Reps]⟩⟩
theorem t249_ok : t249.ok Try.prog 249 := ⟨by kernel_rfl, by kernel_rfl, by kernel_rfl, ⟨_, Try.underlying249⟩, (fun h => by cases h), ⟨rfl, rfl, rfl, rfl, fun F h β => by simp [t249, Rep, Reps]⟩⟩
theorem t256_ok : t256.ok Try.prog 256 := ⟨by kernel_rfl, by kernel_rfl, by kernel_rfl, Try.underlying256, (fun h => by cases h), ⟨rfl, rfl, rfl, rfl, fun F h β => by simp [t256, Rep, Reps]⟩⟩
theorem t263_ok : t263.ok Try.prog 263 := ⟨by kernel_rfl, by kernel_rfl, by kernel_rfl, Try.underlying263, (fun h => by cases h), ⟨rfl, rfl, rfl, rfl, fun F h β => by simp [t263, Rep, Reps]⟩⟩
theorem t265_ok : t265.ok Try.prog 265 := ⟨by kernel_rfl, by kernel_rfl, by kernel_rfl, Try.underlying265, (fun h => by cases h), ⟨rfl, rfl, rfl, rfl, fun F h β => by simp [t265, Rep, Reps]⟩⟩
theorem t266_ok : t266.ok Try.prog 266 := ⟨by kernel_rfl, by kernel_rfl, by kernel_rfl, ⟨_, Try.underlying266⟩, (fun h => by cases h), ⟨rfl, rfl, rfl, rfl, fun F h β => by simp [t266, Rep, Reps]⟩⟩
theorem t267_ok : t267.ok Try.prog 267 := ⟨by kernel_rfl, by kernel_rfl, by kernel_rfl, ⟨_, Try.underlying267⟩, (fun h => by cases h), ⟨rfl, rfl, rfl, rfl, fun F h β => by simp [t267, Rep, Reps]⟩⟩
theorem t269_ok : t269.ok Try.prog 269 := ⟨by kernel_rfl, by kernel_rfl, by kernel_rfl, Try.underlying269, (fun h => by cases h), ⟨rfl, rfl, rfl, rfl, fun F h β => by simp [t269, Rep, Reps]⟩⟩
theorem t273_ok : t273.ok Try.prog 273 := ⟨by kernel_rfl, by kernel_rfl, by kernel_rfl, Try.underlying273, (fun h => by cases h), ⟨rfl, rfl, rfl, rfl, fun F h β => by simp [t273, Rep, Reps]⟩⟩
theorem t280_ok : t280.ok Try.prog 280 := ⟨by kernel_rfl, by kernel_rfl, by kernel_rfl, Try.underlying280, (fun h => by cases h), ⟨rfl, rfl, rfl, rfl, fun F h β => by simp [t280, Rep, Reps]⟩⟩
theorem t290_ok : t290.ok Try.prog 290 := ⟨by kernel_rfl, by kernel_rfl, by kernel_rfl, ⟨_, _, _, Try.underlying290⟩, (fun h => by cases h), ⟨rfl, rfl, rfl, rfl, fun F h β => by simp [t290, Rep, Reps]⟩⟩
theorem t291_ok : t291.ok Try.prog 291 := ⟨by kernel_rfl, by kernel_rfl, by kernel_rfl, Try.underlying291, (fun h => by cases h), ⟨rfl, rfl, rfl, rfl, fun F h β => by simp [t291, Rep, Reps]⟩⟩
theorem t294_ok : t294.ok Try.prog 294 := ⟨by kernel_rfl, by kernel_rfl, by kernel_rfl, ⟨_, Try.underlying294, rfl⟩, (fun h => by cases h), ⟨rfl, rfl, rfl, rfl, fun F h β => by simp [t294, Rep, Reps]⟩⟩
theorem t304_ok : t304.ok Try.prog 304 := ⟨by kernel_rfl, by kernel_rfl, by kernel_rfl, ⟨_, Try.underlying304, rfl⟩, (fun _ => eqInts_of (by kernel_rfl) (by kernel_rfl) (by kernel_rfl)), ⟨rfl, rfl, rfl, rfl, fun F h β => by simp [t304, Rep, Reps]⟩⟩
def G : Ctx := [(2, t2), (3, t3), (4, t4), (5, t5), (9, t9), (12, t12), (20, t20), (21, t21), (22, t22), (24, t24), (25, t25), (26, t26), (27, t27), (28, t28), (36, t36), (38, t38), (39, t39), (47, t47), (48, t48), (49, t49), (62, t62), (63, t63), (64, t64), (77, t77), (86, t86), (87, t87), (90, t90), (91, t91), (92, t92), (107, t107), (113, t113), (114, t114), (121, t121), (128, t128), (129, t129), (130, t130), (134, t134), (142, t142), (143, t143), (147, t147), (148, t148), (149, t149), (152, t152), (153, t153), (157, t157), (160, t160), (164, t164), (165, t165), (166, t166), (172, t172), (173, t173), (174, t174), (176, t176), (181, t181), (182, t182), (183, t183), (192, t192), (193, t193), (194, t194), (196, t196), (197, t197), (205, t205), (206, t206), (210, t210), (211, t211), (214, t214), (217, t217), (218, t218), (219, t219), (225, t225), (226, t226), (227, t227), (229, t229), (230, t230), (235, t235), (239, t239), (241, t241), (242, t242), (248, t248), (249, t249), (256, t256), (263, t263), (265, t265), (266, t266), (267, t267), (269, t269), (273, t273), (280, t280), (290, t290), (291, t291), (294, t294), (304, t304)]
@[simp] theorem G_2 : G.get 2 = some t2 := rfl
@[simp] theorem G_3 : G.get 3 = some t3 := rfl
@[simp] theorem G_4 : G.get 4 = some t4 := rfl
@[simp] theorem G_5 : G.get 5 = some t5 := rfl
@[simp] theorem G_9 : G.get 9 = some t9 := rfl
@[simp] theorem G_12 : G.get 12 = some t12 := rfl
@[simp] theorem G_20 : G.get 20 = some t20 := rfl
@[simp] theorem G_21 : G.get 21 = some t21 := rfl
@[simp] theorem G_22 : G.get 22 = some t22 := rfl
@[simp] theorem G_24 : G.get 24 = some t24 := rfl
@[simp] theorem G_25 : G.get 25 = some t25 := rfl
@[simp] theorem G_26 : G.get 26 = some t26 := rfl
@[simp] theorem G_27 : G.get 27 = some t27 := rfl
@[simp] theorem G_28 : G.get 28 = some t28 := rfl
@[simp] theorem G_36 : G.get 36 = some t36 := rfl
@[simp] theorem G_38 : G.get 38 = some t38 := rfl
@[simp] theorem G_39 : G.get 39 = some t39 := rfl
@[simp] theorem G_47 : G.get 47 = some t47 := rfl
@[simp] theorem G_48 : G.get 48 = some t48 := rfl
@[simp] theorem G_49 : G.get 49 = some t49 := rfl
@[simp] theorem G_62 : G.get 62 = some t62 := rfl
@[simp] theorem G_63 : G.get 63 = some t63 := rfl
@[simp] theorem G_64 : G.get 64 = some t64 := rfl
@[simp] theorem G_77 : G.get 77 = some t77 := rfl
@[simp] theorem G_86 : G.get 86 = some t86 := rfl
@[simp] theorem G_87 : G.get 87 = some t87 := rfl
@[simp] theorem G_90 : G.get 90 = some t90 := rfl
@[simp] theorem G_91 : G.get 91 = some t91 := rfl
@[simp] theorem G_92 : G.get 92 = some t92 := rfl
@[simp] theorem G_107 : G.get 107 = some t107 := rfl
@[simp] theorem G_113 : G.get 113 = some t113 := rfl
@[simp] theorem G_114 : G.get 114 = some t114 := rfl
@[simp] theorem G_121 : G.get 121 = some t121 := rfl
@[simp] theorem G_128 : G.get 128 = some t128 := rfl
@[simp] theorem G_129 : G.get 129 = some t129 := rfl
@[simp] theorem G_130 : G.get 130 = some t130 := rfl
@[simp] theorem G_134 : G.get 134 = some t134 := rfl
@[simp] theorem G_142 : G.get 142 = some t142 := rfl
@[simp] theorem G_143 : G.get 143 = some t143 := rfl
@[simp] theorem G_147 : G.get 147 = some t147 := rfl
@[simp] theorem G_148 : G.get 148 = some t148 := rfl
@[simp] theorem G_149 : G.get 149 = some t149 := rfl
@[simp] theorem G_152 : G.get 152 = some t152 := rfl
@[simp] theorem G_153 : G.get 153 = some t153 := rfl
@[simp] theorem G_157 : G.get 157 = some t157 := rfl
@[simp] theorem G_160 : G.get 160 = some t160 := rfl
@[simp] theorem G_164 : G.get 164 = some t164 := rfl
@[simp] theorem G_165 : G.get 165 = some t165 := rfl
@[simp] theorem G_166 : G.get 166 = some t166 := rfl
@[simp] theorem G_172 : G.get 172 = some t172 := rfl
@[simp] theorem G_173 : G.get 173 = some t173 := rfl
@[simp] theorem G_174 : G.get 174 = some t174 := rfl
@[simp] theorem G_176 : G.get 176 = some t176 := rfl
@[simp] theorem G_181 : G.get 181 = some t181 := rfl
@[simp] theorem G_182 : G.get 182 = some t182 := rfl
@[simp] theorem G_183 : G.get 183 = some t183 := rfl
@[simp] theorem G_192 : G.get 192 = some t192 := rfl
@[simp] theorem G_193 : G.get 193 = some t193 := rfl
@[simp] theorem G_194 : G.get 194 = some t194 := rfl
@[simp] theorem G_196 : G.get 196 = some t196 := rfl
@[simp] theorem G_197 : G.get 197 = some t197 := rfl
@[simp] theorem G_205 : G.get 205 = some t205 := rfl
@[simp] theorem G_206 : G.get 206 = some t206 := rfl
@[simp] theorem G_210 : G.get 210 = some t210 := rfl
@[simp] theorem G_211 : G.get 211 = some t211 := rfl
@[simp] theorem G_214 : G.get 214 = some t214 := rfl
@[simp] theorem G_217 : G.get 217 = some t217 := rfl
@[simp] theorem G_218 : G.get 218 = some t218 := rfl
@[simp] theorem G_219 : G.get 219 = some t219 := rfl
@[simp] theorem G_225 : G.get 225 = some t225 := rfl
@[simp] theorem G_226 : G.get 226 = some t226 := rfl
@[simp] theorem G_227 : G.get 227 = some t227 := rfl
@[simp] theorem G_229 : G.get 229 = some t229 := rfl
@[simp] theorem G_230 : G.get 230 = some t230 := rfl
@[simp] theorem G_235 : G.get 235 = some t235 := rfl
@[simp] theorem G_239 : G.get 239 = some t239 := rfl
@[simp] theorem G_241 : G.get 241 = some t241 := rfl
@[simp] theorem G_242 : G.get 242 = some t242 := rfl
@[simp] theorem G_248 : G.get 248 = some t248 := rfl
@[simp] theorem G_249 : G.get 249 = some t249 := rfl
@[simp] theorem G_256 : G.get 256 = some t256 := rfl
@[simp] theorem G_263 : G.get 263 = some t263 := rfl
@[simp] theorem G_265 : G.get 265 = some t265 := rfl
@[simp] theorem G_266 : G.get 266 = some t266 := rfl
@[simp] theorem G_267 : G.get 267 = some t267 := rfl
@[simp] theorem G_269 : G.get 269 = some t269 := rfl
@[simp] theorem G_273 : G.get 273 = some t273 := rfl
@[simp] theorem G_280 : G.get 280 = some t280 := rfl
@[simp] theorem G_290 : G.get 290 = some t290 := rfl
@[simp] theorem G_291 : G.get 291 = some t291 := rfl
@[simp] theorem G_294 : G.get 294 = some t294 := rfl
@[simp] theorem G_304 : G.get 304 = some t304 := rfl
theorem G_ok : G.ok Try.prog := by
  intro p hp
  simp only [G, List.mem_cons, List.not_mem_nil, or_false] at hp
  rcases hp with rfl | rfl | rfl | rfl | rfl | rfl | rfl | rfl | rfl | rfl | rfl | rfl | rfl | rfl | rfl | rfl | rfl | rfl | rfl | rfl | rfl | rfl | rfl | rfl | rfl | rfl | rfl | rfl | rfl | rfl | rfl | rfl | rfl | rfl | rfl | rfl | rfl | rfl | rfl | rfl | rfl | rfl | rfl | rfl | rfl | rfl | rfl | rfl | rfl | rfl | rfl | rfl | rfl | rfl | rfl | rfl | rfl | rfl | rfl | rfl | rfl | rfl | rfl | rfl | rfl | rfl | rfl | rfl | rfl | rfl | rfl | rfl | rfl | rfl | rfl | rfl | rfl | rfl | rfl | rfl | rfl | rfl | rfl | rfl | rfl | rfl | rfl | rfl | rfl | rfl | rfl | rfl
  · exact t2_ok
  · exact t3_ok
  · exact t4_ok
  · exact t5_ok
  · exact t9_ok
  · exact t12_ok
  · exact t20_ok
  · exact t21_ok
  · exact t22_ok
  · exact t24_ok
  · exact t25_ok
  · exact t26_ok
  · exact t27_ok
  · exact t28_ok
  · exact t36_ok
  · exact t38_ok
  · exact t39_ok
  · exact t47_ok
  · exact t48_ok
  · exact t49_ok
  · exact t62_ok
  · exact t63_ok
  · exact t64_ok
  · exact t77_ok
  · exact t86_ok
  · exact t87_ok
  · exact t90_ok
  · exact t91_ok
  · exact t92_ok
  · exact t107_ok
  · exact t113_ok
  · exact t114_ok
  · exact t121_ok
  · exact t128_ok
  · exact t129_ok
  · exact t130_ok
  · exact t134_ok
  · exact t142_ok
  · exact t143_ok
  · exact t147_ok
  · exact t148_ok
  · exact t149_ok
  · exact t152_ok
  · exact t153_ok
  · exact t157_ok
  · exact t160_ok
  · exact t164_ok
  · exact t165_ok
  · exact t166_ok
  · exact t172_ok
  · exact t173_ok
  · exact t174_ok
  · exact t176_ok
  · exact t181_ok
  · exact t182_ok
  · exact t183_ok
  · exact t192_ok
  · exact t193_ok
  · exact t194_ok
  · exact t196_ok
  · exact t197_ok
  · exact t205_ok
  · exact t206_ok
  · exact t210_ok
  · exact t211_ok
  · exact t214_ok
  · exact t217_ok
  · exact t218_ok
  · exact t219_ok
  · exact t225_ok
  · exact t226_ok
  · exact t227_ok
  · exact t229_ok
  · exact t230_ok
  · exact t235_ok
  · exact t239_ok
  · exact t241_ok
  · exact t242_ok
  · exact t248_ok
  · exact t249_ok
  · exact t256_ok
  · exact t263_ok
  · exact t265_ok
  · exact t266_ok
  · exact t267_ok
  · exact t269_ok
  · exact t273_ok
  · exact t280_ok
  · exact t290_ok
  · exact t291_ok
  · exact t294_ok
  · exact t304_ok
theorem mix : Try.prog.follows .mixedOrders = true := by kernel_rfl
end Go.Proofs.Ytpnfkjbnhholfaa
