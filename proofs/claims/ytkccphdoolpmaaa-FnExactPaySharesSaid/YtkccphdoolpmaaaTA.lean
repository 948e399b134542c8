/- What is known of the types of this program: their sizes, zero values and parts. -/
import Derived.Test.YtkccphdoolpmaaaProg
import Derived.Test.YtkccphdoolpmaaaTY
import Derived.KernelRfl
namespace Go.Proofs.Ytkccphdoolpmaaa
open Go Go.Eng
set_option linter.unusedSimpArgs false
set_option linter.unusedVariables false
/-- int64 -/
def t2 : TI := ⟨1, 8, .int .i64 0, .lit (.int .i64 0), .lit (.int .i64 0), .int .i64, false⟩
@[simp] theorem t2_size : t2.size = 1 := rfl
@[simp] theorem t2_bytes : t2.bytes = 8 := rfl
@[simp] theorem t2_z : t2.z = .lit (.int .i64 0) := rfl
@[simp] theorem t2_y : t2.y = .lit (.int .i64 0) := rfl
@[simp] theorem t2_kind : t2.kind = .int .i64 := rfl
@[simp] theorem t2_cmp : t2.cmp = false := rfl
/-- int -/
def t3 : TI := ⟨1, 8, .int .i64 0, .lit (.int .i64 0), .lit (.int .i64 0), .int .i64, false⟩
@[simp] theorem t3_size : t3.size = 1 := rfl
@[simp] theorem t3_bytes : t3.bytes = 8 := rfl
@[simp] theorem t3_z : t3.z = .lit (.int .i64 0) := rfl
@[simp] theorem t3_y : t3.y = .lit (.int .i64 0) := rfl
@[simp] theorem t3_kind : t3.kind = .int .i64 := rfl
@[simp] theorem t3_cmp : t3.cmp = false := rfl
/-- bool -/
def t4 : TI := ⟨1, 1, .bool false, .lit (.bool false), .lit (.bool false), .bool, false⟩
@[simp] theorem t4_size : t4.size = 1 := rfl
@[simp] theorem t4_bytes : t4.bytes = 1 := rfl
@[simp] theorem t4_z : t4.z = .lit (.bool false) := rfl
@[simp] theorem t4_y : t4.y = .lit (.bool false) := rfl
@[simp] theorem t4_kind : t4.kind = .bool := rfl
@[simp] theorem t4_cmp : t4.cmp = false := rfl
/-- uint8 -/
def t5 : TI := ⟨1, 1, .int .u8 0, .lit (.int .u8 0), .lit (.int .u8 0), .int .u8, false⟩
@[simp] theorem t5_size : t5.size = 1 := rfl
@[simp] theorem t5_bytes : t5.bytes = 1 := rfl
@[simp] theorem t5_z : t5.z = .lit (.int .u8 0) := rfl
@[simp] theorem t5_y : t5.y = .lit (.int .u8 0) := rfl
@[simp] theorem t5_kind : t5.kind = .int .u8 := rfl
@[simp] theorem t5_cmp : t5.cmp = false := rfl
/-- string -/
def t9 : TI := ⟨1, 16, .string ⟨#[]⟩, .lit (.string ⟨#[]⟩), .lit (.string ⟨#[]⟩), .str, false⟩
@[simp] theorem t9_size : t9.size = 1 := rfl
@[simp] theorem t9_bytes : t9.bytes = 16 := rfl
@[simp] theorem t9_z : t9.z = .lit (.string ⟨#[]⟩) := rfl
@[simp] theorem t9_y : t9.y = .lit (.string ⟨#[]⟩) := rfl
@[simp] theorem t9_kind : t9.kind = .str := rfl
@[simp] theorem t9_cmp : t9.cmp = false := rfl
/-- uintptr -/
def t12 : TI := ⟨1, 8, .int .u64 0, .lit (.int .u64 0), .lit (.int .u64 0), .int .u64, false⟩
@[simp] theorem t12_size : t12.size = 1 := rfl
@[simp] theorem t12_bytes : t12.bytes = 8 := rfl
@[simp] theorem t12_z : t12.z = .lit (.int .u64 0) := rfl
@[simp] theorem t12_y : t12.y = .lit (.int .u64 0) := rfl
@[simp] theorem t12_kind : t12.kind = .int .u64 := rfl
@[simp] theorem t12_cmp : t12.cmp = false := rfl
/-- interface {} -/
def t20 : TI := ⟨1, 16, .nilIface, .lit .nilIface, .lit .nilIface, .iface, false⟩
@[simp] theorem t20_size : t20.size = 1 := rfl
@[simp] theorem t20_bytes : t20.bytes = 16 := rfl
@[simp] theorem t20_z : t20.z = .lit .nilIface := rfl
@[simp] theorem t20_y : t20.y = .lit .nilIface := rfl
@[simp] theorem t20_kind : t20.kind = .iface := rfl
@[simp] theorem t20_cmp : t20.cmp = false := rfl
/-- int32 -/
def t21 : TI := ⟨1, 4, .int .i32 0, .lit (.int .i32 0), .lit (.int .i32 0), .int .i32, false⟩
@[simp] theorem t21_size : t21.size = 1 := rfl
@[simp] theorem t21_bytes : t21.bytes = 4 := rfl
@[simp] theorem t21_z : t21.z = .lit (.int .i32 0) := rfl
@[simp] theorem t21_y : t21.y = .lit (.int .i32 0) := rfl
@[simp] theorem t21_kind : t21.kind = .int .i32 := rfl
@[simp] theorem t21_cmp : t21.cmp = false := rfl
/-- []uint8 -/
def t22 : TI := ⟨1, 24, .slice none 0 0, .sl true 0 .any [], yLU, .slice 5, false⟩
@[simp] theorem t22_size : t22.size = 1 := rfl
@[simp] theorem t22_bytes : t22.bytes = 24 := rfl
@[simp] theorem t22_z : t22.z = .sl true 0 .any [] := rfl
@[simp] theorem t22_y : t22.y = yLU := rfl
@[simp] theorem t22_kind : t22.kind = .slice 5 := rfl
@[simp] theorem t22_cmp : t22.cmp = false := rfl
/-- []int -/
def t23 : TI := ⟨1, 24, .slice none 0 0, .sl true 0 .any [], yLI, .slice 3, false⟩
@[simp] theorem t23_size : t23.size = 1 := rfl
@[simp] theorem t23_bytes : t23.bytes = 24 := rfl
@[simp] theorem t23_z : t23.z = .sl true 0 .any [] := rfl
@[simp] theorem t23_y : t23.y = yLI := rfl
@[simp] theorem t23_kind : t23.kind = .slice 3 := rfl
@[simp] theorem t23_cmp : t23.cmp = false := rfl
/-- []laws.Find -/
def t31 : TI := ⟨1, 24, .slice none 0 0, .sl true 0 .any [], yLTFind, .slice 35, false⟩
@[simp] theorem t31_size : t31.size = 1 := rfl
@[simp] theorem t31_bytes : t31.bytes = 24 := rfl
@[simp] theorem t31_z : t31.z = .sl true 0 .any [] := rfl
@[simp] theorem t31_y : t31.y = yLTFind := rfl
@[simp] theorem t31_kind : t31.kind = .slice 35 := rfl
@[simp] theorem t31_cmp : t31.cmp = false := rfl
/-- struct { Id int; Kind int; Colour int; Size int; Worth int } -/
def t32 : TI := ⟨5, 40, .agg #[.int .i64 0, .int .i64 0, .int .i64 0, .int .i64 0, .int .i64 0], .agg [.lit (.int .i64 0), .lit (.int .i64 0), .lit (.int .i64 0), .lit (.int .i64 0), .lit (.int .i64 0)], yTThing, .st [(0, 3), (1, 3), (2, 3), (3, 3), (4, 3)], true⟩
@[simp] theorem t32_size : t32.size = 5 := rfl
@[simp] theorem t32_bytes : t32.bytes = 40 := rfl
@[simp] theorem t32_z : t32.z = .agg [.lit (.int .i64 0), .lit (.int .i64 0), .lit (.int .i64 0), .lit (.int .i64 0), .lit (.int .i64 0)] := rfl
@[simp] theorem t32_y : t32.y = yTThing := rfl
@[simp] theorem t32_kind : t32.kind = .st [(0, 3), (1, 3), (2, 3), (3, 3), (4, 3)] := rfl
@[simp] theorem t32_cmp : t32.cmp = true := rfl
/-- laws.Thing = loop.example/g03007/laws.Thing -/
def t33 : TI := ⟨5, 40, .agg #[.int .i64 0, .int .i64 0, .int .i64 0, .int .i64 0, .int .i64 0], .agg [.lit (.int .i64 0), .lit (.int .i64 0), .lit (.int .i64 0), .lit (.int .i64 0), .lit (.int .i64 0)], yTThing, .st [(0, 3), (1, 3), (2, 3), (3, 3), (4, 3)], true⟩
@[simp] theorem t33_size : t33.size = 5 := rfl
@[simp] theorem t33_bytes : t33.bytes = 40 := rfl
@[simp] theorem t33_z : t33.z = .agg [.lit (.int .i64 0), .lit (.int .i64 0), .lit (.int .i64 0), .lit (.int .i64 0), .lit (.int .i64 0)] := rfl
@[simp] theorem t33_y : t33.y = yTThing := rfl
@[simp] theorem t33_kind : t33.kind = .st [(0, 3), (1, 3), (2, 3), (3, 3), (4, 3)] := rfl
@[simp] theorem t33_cmp : t33.cmp = true := rfl
/-- struct { Thing laws.Thing; Place int; At int; Finder int } -/
def t34 : TI := ⟨8, 64, .agg #[.int .i64 0, .int .i64 0, .int .i64 0, .int .i64 0, .int .i64 0, .int .i64 0, .int .i64 0, .int .i64 0], .agg [.lit (.int .i64 0), .lit (.int .i64 0), .lit (.int .i64 0), .lit (.int .i64 0), .lit (.int .i64 0), .lit (.int .i64 0), .lit (.int .i64 0), .lit (.int .i64 0)], yTFind, .st [(0, 33), (5, 3), (6, 3), (7, 3)], true⟩
@[simp] theorem t34_size : t34.size = 8 := rfl
@[simp] theorem t34_bytes : t34.bytes = 64 := rfl
@[simp] theorem t34_z : t34.z = .agg [.lit (.int .i64 0), .lit (.int .i64 0), .lit (.int .i64 0), .lit (.int .i64 0), .lit (.int .i64 0), .lit (.int .i64 0), .lit (.int .i64 0), .lit (.int .i64 0)] := rfl
@[simp] theorem t34_y : t34.y = yTFind := rfl
@[simp] theorem t34_kind : t34.kind = .st [(0, 33), (5, 3), (6, 3), (7, 3)] := rfl
@[simp] theorem t34_cmp : t34.cmp = true := rfl
/-- laws.Find = loop.example/g03007/laws.Find -/
def t35 : TI := ⟨8, 64, .agg #[.int .i64 0, .int .i64 0, .int .i64 0, .int .i64 0, .int .i64 0, .int .i64 0, .int .i64 0, .int .i64 0], .agg [.lit (.int .i64 0), .lit (.int .i64 0), .lit (.int .i64 0), .lit (.int .i64 0), .lit (.int .i64 0), .lit (.int .i64 0), .lit (.int .i64 0), .lit (.int .i64 0)], yTFind, .st [(0, 33), (5, 3), (6, 3), (7, 3)], true⟩
@[simp] theorem t35_size : t35.size = 8 := rfl
@[simp] theorem t35_bytes : t35.bytes = 64 := rfl
@[simp] theorem t35_z : t35.z = .agg [.lit (.int .i64 0), .lit (.int .i64 0), .lit (.int .i64 0), .lit (.int .i64 0), .lit (.int .i64 0), .lit (.int .i64 0), .lit (.int .i64 0), .lit (.int .i64 0)] := rfl
@[simp] theorem t35_y : t35.y = yTFind := rfl
@[simp] theorem t35_kind : t35.kind = .st [(0, 33), (5, 3), (6, 3), (7, 3)] := rfl
@[simp] theorem t35_cmp : t35.cmp = true := rfl
/-- []impl.Find -/
def t37 : TI := ⟨1, 24, .slice none 0 0, .sl true 0 .any [], yLTFind, .slice 43, false⟩
@[simp] theorem t37_size : t37.size = 1 := rfl
@[simp] theorem t37_bytes : t37.bytes = 24 := rfl
@[simp] theorem t37_z : t37.z = .sl true 0 .any [] := rfl
@[simp] theorem t37_y : t37.y = yLTFind := rfl
@[simp] theorem t37_kind : t37.kind = .slice 43 := rfl
@[simp] theorem t37_cmp : t37.cmp = false := rfl
/-- impl.Thing = loop.example/g03007/impl.Thing -/
def t41 : TI := ⟨5, 40, .agg #[.int .i64 0, .int .i64 0, .int .i64 0, .int .i64 0, .int .i64 0], .agg [.lit (.int .i64 0), .lit (.int .i64 0), .lit (.int .i64 0), .lit (.int .i64 0), .lit (.int .i64 0)], yTThing, .st [(0, 3), (1, 3), (2, 3), (3, 3), (4, 3)], true⟩
@[simp] theorem t41_size : t41.size = 5 := rfl
@[simp] theorem t41_bytes : t41.bytes = 40 := rfl
@[simp] theorem t41_z : t41.z = .agg [.lit (.int .i64 0), .lit (.int .i64 0), .lit (.int .i64 0), .lit (.int .i64 0), .lit (.int .i64 0)] := rfl
@[simp] theorem t41_y : t41.y = yTThing := rfl
@[simp] theorem t41_kind : t41.kind = .st [(0, 3), (1, 3), (2, 3), (3, 3), (4, 3)] := rfl
@[simp] theorem t41_cmp : t41.cmp = true := rfl
/-- struct { Thing impl.Thing; Place int; At int; Finder int } -/
def t42 : TI := ⟨8, 64, .agg #[.int .i64 0, .int .i64 0, .int .i64 0, .int .i64 0, .int .i64 0, .int .i64 0, .int .i64 0, .int .i64 0], .agg [.lit (.int .i64 0), .lit (.int .i64 0), .lit (.int .i64 0), .lit (.int .i64 0), .lit (.int .i64 0), .lit (.int .i64 0), .lit (.int .i64 0), .lit (.int .i64 0)], yTFind, .st [(0, 41), (5, 3), (6, 3), (7, 3)], true⟩
@[simp] theorem t42_size : t42.size = 8 := rfl
@[simp] theorem t42_bytes : t42.bytes = 64 := rfl
@[simp] theorem t42_z : t42.z = .agg [.lit (.int .i64 0), .lit (.int .i64 0), .lit (.int .i64 0), .lit (.int .i64 0), .lit (.int .i64 0), .lit (.int .i64 0), .lit (.int .i64 0), .lit (.int .i64 0)] := rfl
@[simp] theorem t42_y : t42.y = yTFind := rfl
@[simp] theorem t42_kind : t42.kind = .st [(0, 41), (5, 3), (6, 3), (7, 3)] := rfl
@[simp] theorem t42_cmp : t42.cmp = true := rfl
/-- impl.Find = loop.example/g03007/impl.Find -/
def t43 : TI := ⟨8, 64, .agg #[.int .i64 0, .int .i64 0, .int .i64 0, .int .i64 0, .int .i64 0, .int .i64 0, .int .i64 0, .int .i64 0], .agg [.lit (.int .i64 0), .lit (.int .i64 0), .lit (.int .i64 0), .lit (.int .i64 0), .lit (.int .i64 0), .lit (.int .i64 0), .lit (.int .i64 0), .lit (.int .i64 0)], yTFind, .st [(0, 41), (5, 3), (6, 3), (7, 3)], true⟩
@[simp] theorem t43_size : t43.size = 8 := rfl
@[simp] theorem t43_bytes : t43.bytes = 64 := rfl
@[simp] theorem t43_z : t43.z = .agg [.lit (.int .i64 0), .lit (.int .i64 0), .lit (.int .i64 0), .lit (.int .i64 0), .lit (.int .i64 0), .lit (.int .i64 0), .lit (.int .i64 0), .lit (.int .i64 0)] := rfl
@[simp] theorem t43_y : t43.y = yTFind := rfl
@[simp] theorem t43_kind : t43.kind = .st [(0, 41), (5, 3), (6, 3), (7, 3)] := rfl
@[simp] theorem t43_cmp : t43.cmp = true := rfl
/-- struct { From int; Until int } -/
def t50 : TI := ⟨2, 16, .agg #[.int .i64 0, .int .i64 0], .agg [.lit (.int .i64 0), .lit (.int .i64 0)], yTSpan, .st [(0, 3), (1, 3)], true⟩
@[simp] theorem t50_size : t50.size = 2 := rfl
@[simp] theorem t50_bytes : t50.bytes = 16 := rfl
@[simp] theorem t50_z : t50.z = .agg [.lit (.int .i64 0), .lit (.int .i64 0)] := rfl
@[simp] theorem t50_y : t50.y = yTSpan := rfl
@[simp] theorem t50_kind : t50.kind = .st [(0, 3), (1, 3)] := rfl
@[simp] theorem t50_cmp : t50.cmp = true := rfl
/-- laws.Span = loop.example/g03007/laws.Span -/
def t51 : TI := ⟨2, 16, .agg #[.int .i64 0, .int .i64 0], .agg [.lit (.int .i64 0), .lit (.int .i64 0)], yTSpan, .st [(0, 3), (1, 3)], true⟩
@[simp] theorem t51_size : t51.size = 2 := rfl
@[simp] theorem t51_bytes : t51.bytes = 16 := rfl
@[simp] theorem t51_z : t51.z = .agg [.lit (.int .i64 0), .lit (.int .i64 0)] := rfl
@[simp] theorem t51_y : t51.y = yTSpan := rfl
@[simp] theorem t51_kind : t51.kind = .st [(0, 3), (1, 3)] := rfl
@[simp] theorem t51_cmp : t51.cmp = true := rfl
/-- impl.Span = loop.example/g03007/impl.Span -/
def t53 : TI := ⟨2, 16, .agg #[.int .i64 0, .int .i64 0], .agg [.lit (.int .i64 0), .lit (.int .i64 0)], yTSpan, .st [(0, 3), (1, 3)], true⟩
@[simp] theorem t53_size : t53.size = 2 := rfl
@[simp] theorem t53_bytes : t53.bytes = 16 := rfl
@[simp] theorem t53_z : t53.z = .agg [.lit (.int .i64 0), .lit (.int .i64 0)] := rfl
@[simp] theorem t53_y : t53.y = yTSpan := rfl
@[simp] theorem t53_kind : t53.kind = .st [(0, 3), (1, 3)] := rfl
@[simp] theorem t53_cmp : t53.cmp = true := rfl
/-- []laws.Mark -/
def t56 : TI := ⟨1, 24, .slice none 0 0, .sl true 0 .any [], yLTMark, .slice 58, false⟩
@[simp] theorem t56_size : t56.size = 1 := rfl
@[simp] theorem t56_bytes : t56.bytes = 24 := rfl
@[simp] theorem t56_z : t56.z = .sl true 0 .any [] := rfl
@[simp] theorem t56_y : t56.y = yLTMark := rfl
@[simp] theorem t56_kind : t56.kind = .slice 58 := rfl
@[simp] theorem t56_cmp : t56.cmp = false := rfl
/-- struct { Question int; Answer int } -/
def t57 : TI := ⟨2, 16, .agg #[.int .i64 0, .int .i64 0], .agg [.lit (.int .i64 0), .lit (.int .i64 0)], yTMark, .st [(0, 3), (1, 3)], true⟩
@[simp] theorem t57_size : t57.size = 2 := rfl
@[simp] theorem t57_bytes : t57.bytes = 16 := rfl
@[simp] theorem t57_z : t57.z = .agg [.lit (.int .i64 0), .lit (.int .i64 0)] := rfl
@[simp] theorem t57_y : t57.y = yTMark := rfl
@[simp] theorem t57_kind : t57.kind = .st [(0, 3), (1, 3)] := rfl
@[simp] theorem t57_cmp : t57.cmp = true := rfl
/-- laws.Mark = loop.example/g03007/laws.Mark -/
def t58 : TI := ⟨2, 16, .agg #[.int .i64 0, .int .i64 0], .agg [.lit (.int .i64 0), .lit (.int .i64 0)], yTMark, .st [(0, 3), (1, 3)], true⟩
@[simp] theorem t58_size : t58.size = 2 := rfl
@[simp] theorem t58_bytes : t58.bytes = 16 := rfl
@[simp] theorem t58_z : t58.z = .agg [.lit (.int .i64 0), .lit (.int .i64 0)] := rfl
@[simp] theorem t58_y : t58.y = yTMark := rfl
@[simp] theorem t58_kind : t58.kind = .st [(0, 3), (1, 3)] := rfl
@[simp] theorem t58_cmp : t58.cmp = true := rfl
/-- []impl.Mark -/
def t60 : TI := ⟨1, 24, .slice none 0 0, .sl true 0 .any [], yLTMark, .slice 64, false⟩
@[simp] theorem t60_size : t60.size = 1 := rfl
@[simp] theorem t60_bytes : t60.bytes = 24 := rfl
@[simp] theorem t60_z : t60.z = .sl true 0 .any [] := rfl
@[simp] theorem t60_y : t60.y = yLTMark := rfl
@[simp] theorem t60_kind : t60.kind = .slice 64 := rfl
@[simp] theorem t60_cmp : t60.cmp = false := rfl
/-- impl.Mark = loop.example/g03007/impl.Mark -/
def t64 : TI := ⟨2, 16, .agg #[.int .i64 0, .int .i64 0], .agg [.lit (.int .i64 0), .lit (.int .i64 0)], yTMark, .st [(0, 3), (1, 3)], true⟩
@[simp] theorem t64_size : t64.size = 2 := rfl
@[simp] theorem t64_bytes : t64.bytes = 16 := rfl
@[simp] theorem t64_z : t64.z = .agg [.lit (.int .i64 0), .lit (.int .i64 0)] := rfl
@[simp] theorem t64_y : t64.y = yTMark := rfl
@[simp] theorem t64_kind : t64.kind = .st [(0, 3), (1, 3)] := rfl
@[simp] theorem t64_cmp : t64.cmp = true := rfl
/-- []laws.Slot -/
def t69 : TI := ⟨1, 24, .slice none 0 0, .sl true 0 .any [], yLTSlot, .slice 144, false⟩
@[simp] theorem t69_size : t69.size = 1 := rfl
@[simp] theorem t69_bytes : t69.bytes = 24 := rfl
@[simp] theorem t69_z : t69.z = .sl true 0 .any [] := rfl
@[simp] theorem t69_y : t69.y = yLTSlot := rfl
@[simp] theorem t69_kind : t69.kind = .slice 144 := rfl
@[simp] theorem t69_cmp : t69.cmp = false := rfl
/-- []impl.Slot -/
def t71 : TI := ⟨1, 24, .slice none 0 0, .sl true 0 .any [], yLTSlot, .slice 142, false⟩
@[simp] theorem t71_size : t71.size = 1 := rfl
@[simp] theorem t71_bytes : t71.bytes = 24 := rfl
@[simp] theorem t71_z : t71.z = .sl true 0 .any [] := rfl
@[simp] theorem t71_y : t71.y = yLTSlot := rfl
@[simp] theorem t71_kind : t71.kind = .slice 142 := rfl
@[simp] theorem t71_cmp : t71.cmp = false := rfl
/-- []laws.Bid -/
def t78 : TI := ⟨1, 24, .slice none 0 0, .sl true 0 .any [], yLTBid, .slice 150, false⟩
@[simp] theorem t78_size : t78.size = 1 := rfl
@[simp] theorem t78_bytes : t78.bytes = 24 := rfl
@[simp] theorem t78_z : t78.z = .sl true 0 .any [] := rfl
@[simp] theorem t78_y : t78.y = yLTBid := rfl
@[simp] theorem t78_kind : t78.kind = .slice 150 := rfl
@[simp] theorem t78_cmp : t78.cmp = false := rfl
/-- []impl.Bid -/
def t80 : TI := ⟨1, 24, .slice none 0 0, .sl true 0 .any [], yLTBid, .slice 148, false⟩
@[simp] theorem t80_size : t80.size = 1 := rfl
@[simp] theorem t80_bytes : t80.bytes = 24 := rfl
@[simp] theorem t80_z : t80.z = .sl true 0 .any [] := rfl
@[simp] theorem t80_y : t80.y = yLTBid := rfl
@[simp] theorem t80_kind : t80.kind = .slice 148 := rfl
@[simp] theorem t80_cmp : t80.cmp = false := rfl
/-- []impl.Share -/
def t89 : TI := ⟨1, 24, .slice none 0 0, .sl true 0 .any [], yLTShare, .slice 159, false⟩
@[simp] theorem t89_size : t89.size = 1 := rfl
@[simp] theorem t89_bytes : t89.bytes = 24 := rfl
@[simp] theorem t89_z : t89.z = .sl true 0 .any [] := rfl
@[simp] theorem t89_y : t89.y = yLTShare := rfl
@[simp] theorem t89_kind : t89.kind = .slice 159 := rfl
@[simp] theorem t89_cmp : t89.cmp = false := rfl
/-- []laws.Entry -/
def t94 : TI := ⟨1, 24, .slice none 0 0, .sl true 0 .any [], yLTEntry, .slice 96, false⟩
@[simp] theorem t94_size : t94.size = 1 := rfl
@[simp] theorem t94_bytes : t94.bytes = 24 := rfl
@[simp] theorem t94_z : t94.z = .sl true 0 .any [] := rfl
@[simp] theorem t94_y : t94.y = yLTEntry := rfl
@[simp] theorem t94_kind : t94.kind = .slice 96 := rfl
@[simp] theorem t94_cmp : t94.cmp = false := rfl
/-- struct { From int; To int; Cents int; At int } -/
def t95 : TI := ⟨4, 32, .agg #[.int .i64 0, .int .i64 0, .int .i64 0, .int .i64 0], .agg [.lit (.int .i64 0), .lit (.int .i64 0), .lit (.int .i64 0), .lit (.int .i64 0)], yTEntry, .st [(0, 3), (1, 3), (2, 3), (3, 3)], true⟩
@[simp] theorem t95_size : t95.size = 4 := rfl
@[simp] theorem t95_bytes : t95.bytes = 32 := rfl
@[simp] theorem t95_z : t95.z = .agg [.lit (.int .i64 0), .lit (.int .i64 0), .lit (.int .i64 0), .lit (.int .i64 0)] := rfl
@[simp] theorem t95_y : t95.y = yTEntry := rfl
@[simp] theorem t95_kind : t95.kind = .st [(0, 3), (1, 3), (2, 3), (3, 3)] := rfl
@[simp] theorem t95_cmp : t95.cmp = true := rfl
/-- laws.Entry = loop.example/g03007/laws.Entry -/
def t96 : TI := ⟨4, 32, .agg #[.int .i64 0, .int .i64 0, .int .i64 0, .int .i64 0], .agg [.lit (.int .i64 0), .lit (.int .i64 0), .lit (.int .i64 0), .lit (.int .i64 0)], yTEntry, .st [(0, 3), (1, 3), (2, 3), (3, 3)], true⟩
@[simp] theorem t96_size : t96.size = 4 := rfl
@[simp] theorem t96_bytes : t96.bytes = 32 := rfl
@[simp] theorem t96_z : t96.z = .agg [.lit (.int .i64 0), .lit (.int .i64 0), .lit (.int .i64 0), .lit (.int .i64 0)] := rfl
@[simp] theorem t96_y : t96.y = yTEntry := rfl
@[simp] theorem t96_kind : t96.kind = .st [(0, 3), (1, 3), (2, 3), (3, 3)] := rfl
@[simp] theorem t96_cmp : t96.cmp = true := rfl
/-- []impl.Entry -/
def t98 : TI := ⟨1, 24, .slice none 0 0, .sl true 0 .any [], yLTEntry, .slice 102, false⟩
@[simp] theorem t98_size : t98.size = 1 := rfl
@[simp] theorem t98_bytes : t98.bytes = 24 := rfl
@[simp] theorem t98_z : t98.z = .sl true 0 .any [] := rfl
@[simp] theorem t98_y : t98.y = yLTEntry := rfl
@[simp] theorem t98_kind : t98.kind = .slice 102 := rfl
@[simp] theorem t98_cmp : t98.cmp = false := rfl
/-- impl.Entry = loop.example/g03007/impl.Entry -/
def t102 : TI := ⟨4, 32, .agg #[.int .i64 0, .int .i64 0, .int .i64 0, .int .i64 0], .agg [.lit (.int .i64 0), .lit (.int .i64 0), .lit (.int .i64 0), .lit (.int .i64 0)], yTEntry, .st [(0, 3), (1, 3), (2, 3), (3, 3)], true⟩
@[simp] theorem t102_size : t102.size = 4 := rfl
@[simp] theorem t102_bytes : t102.bytes = 32 := rfl
@[simp] theorem t102_z : t102.z = .agg [.lit (.int .i64 0), .lit (.int .i64 0), .lit (.int .i64 0), .lit (.int .i64 0)] := rfl
@[simp] theorem t102_y : t102.y = yTEntry := rfl
@[simp] theorem t102_kind : t102.kind = .st [(0, 3), (1, 3), (2, 3), (3, 3)] := rfl
@[simp] theorem t102_cmp : t102.cmp = true := rfl
/-- []laws.Share -/
def t107 : TI := ⟨1, 24, .slice none 0 0, .sl true 0 .any [], yLTShare, .slice 168, false⟩
@[simp] theorem t107_size : t107.size = 1 := rfl
@[simp] theorem t107_bytes : t107.bytes = 24 := rfl
@[simp] theorem t107_z : t107.z = .sl true 0 .any [] := rfl
@[simp] theorem t107_y : t107.y = yLTShare := rfl
@[simp] theorem t107_kind : t107.kind = .slice 168 := rfl
@[simp] theorem t107_cmp : t107.cmp = false := rfl
/-- []laws.Task -/
def t112 : TI := ⟨1, 24, .slice none 0 0, .sl true 0 .any [], yLTTask, .slice 172, false⟩
@[simp] theorem t112_size : t112.size = 1 := rfl
@[simp] theorem t112_bytes : t112.bytes = 24 := rfl
@[simp] theorem t112_z : t112.z = .sl true 0 .any [] := rfl
@[simp] theorem t112_y : t112.y = yLTTask := rfl
@[simp] theorem t112_kind : t112.kind = .slice 172 := rfl
@[simp] theorem t112_cmp : t112.cmp = false := rfl
/-- []impl.Task -/
def t114 : TI := ⟨1, 24, .slice none 0 0, .sl true 0 .any [], yLTTask, .slice 170, false⟩
@[simp] theorem t114_size : t114.size = 1 := rfl
@[simp] theorem t114_bytes : t114.bytes = 24 := rfl
@[simp] theorem t114_z : t114.z = .sl true 0 .any [] := rfl
@[simp] theorem t114_y : t114.y = yLTTask := rfl
@[simp] theorem t114_kind : t114.kind = .slice 170 := rfl
@[simp] theorem t114_cmp : t114.cmp = false := rfl
/-- func(impl.Find) int -/
def t123 : TI := ⟨1, 8, .nilFunc, .lit .nilFunc, .lit .nilFunc, .func, false⟩
@[simp] theorem t123_size : t123.size = 1 := rfl
@[simp] theorem t123_bytes : t123.bytes = 8 := rfl
@[simp] theorem t123_z : t123.z = .lit .nilFunc := rfl
@[simp] theorem t123_y : t123.y = .lit .nilFunc := rfl
@[simp] theorem t123_kind : t123.kind = .func := rfl
@[simp] theorem t123_cmp : t123.cmp = false := rfl
/-- struct { items []impl.Find; numberOf func(impl.Find) int } -/
def t124 : TI := ⟨2, 32, .agg #[.slice none 0 0, .nilFunc], .agg [.sl true 0 .any [], .lit .nilFunc], .any, .st [(0, 37), (1, 123)], false⟩
@[simp] theorem t124_size : t124.size = 2 := rfl
@[simp] theorem t124_bytes : t124.bytes = 32 := rfl
@[simp] theorem t124_z : t124.z = .agg [.sl true 0 .any [], .lit .nilFunc] := rfl
@[simp] theorem t124_y : t124.y = .any := rfl
@[simp] theorem t124_kind : t124.kind = .st [(0, 37), (1, 123)] := rfl
@[simp] theorem t124_cmp : t124.cmp = false := rfl
/-- impl.sortedList[loop.example/g03007/impl.Find] = loop.example/g03007/impl.sortedList[loop.example/g03007/impl.Find] -/
def t125 : TI := ⟨2, 32, .agg #[.slice none 0 0, .nilFunc], .agg [.sl true 0 .any [], .lit .nilFunc], .any, .st [(0, 37), (1, 123)], false⟩
@[simp] theorem t125_size : t125.size = 2 := rfl
@[simp] theorem t125_bytes : t125.bytes = 32 := rfl
@[simp] theorem t125_z : t125.z = .agg [.sl true 0 .any [], .lit .nilFunc] := rfl
@[simp] theorem t125_y : t125.y = .any := rfl
@[simp] theorem t125_kind : t125.kind = .st [(0, 37), (1, 123)] := rfl
@[simp] theorem t125_cmp : t125.cmp = false := rfl
/-- func(impl.Find) bool -/
def t130 : TI := ⟨1, 8, .nilFunc, .lit .nilFunc, .lit .nilFunc, .func, false⟩
@[simp] theorem t130_size : t130.size = 1 := rfl
@[simp] theorem t130_bytes : t130.bytes = 8 := rfl
@[simp] theorem t130_z : t130.z = .lit .nilFunc := rfl
@[simp] theorem t130_y : t130.y = .lit .nilFunc := rfl
@[simp] theorem t130_kind : t130.kind = .func := rfl
@[simp] theorem t130_cmp : t130.cmp = false := rfl
/-- func(impl.Mark) int -/
def t133 : TI := ⟨1, 8, .nilFunc, .lit .nilFunc, .lit .nilFunc, .func, false⟩
@[simp] theorem t133_size : t133.size = 1 := rfl
@[simp] theorem t133_bytes : t133.bytes = 8 := rfl
@[simp] theorem t133_z : t133.z = .lit .nilFunc := rfl
@[simp] theorem t133_y : t133.y = .lit .nilFunc := rfl
@[simp] theorem t133_kind : t133.kind = .func := rfl
@[simp] theorem t133_cmp : t133.cmp = false := rfl
/-- struct { items []impl.Mark; numberOf func(impl.Mark) int } -/
def t134 : TI := ⟨2, 32, .agg #[.slice none 0 0, .nilFunc], .agg [.sl true 0 .any [], .lit .nilFunc], .any, .st [(0, 60), (1, 133)], false⟩
@[simp] theorem t134_size : t134.size = 2 := rfl
@[simp] theorem t134_bytes : t134.bytes = 32 := rfl
@[simp] theorem t134_z : t134.z = .agg [.sl true 0 .any [], .lit .nilFunc] := rfl
@[simp] theorem t134_y : t134.y = .any := rfl
@[simp] theorem t134_kind : t134.kind = .st [(0, 60), (1, 133)] := rfl
@[simp] theorem t134_cmp : t134.cmp = false := rfl
/-- impl.sortedList[loop.example/g03007/impl.Mark] = loop.example/g03007/impl.sortedList[loop.example/g03007/impl.Mark] -/
def t135 : TI := ⟨2, 32, .agg #[.slice none 0 0, .nilFunc], .agg [.sl true 0 .any [], .lit .nilFunc], .any, .st [(0, 60), (1, 133)], false⟩
@[simp] theorem t135_size : t135.size = 2 := rfl
@[simp] theorem t135_bytes : t135.bytes = 32 := rfl
@[simp] theorem t135_z : t135.z = .agg [.sl true 0 .any [], .lit .nilFunc] := rfl
@[simp] theorem t135_y : t135.y = .any := rfl
@[simp] theorem t135_kind : t135.kind = .st [(0, 60), (1, 133)] := rfl
@[simp] theorem t135_cmp : t135.cmp = false := rfl
/-- struct { Id int; Size int; Thing int } -/
def t141 : TI := ⟨3, 24, .agg #[.int .i64 0, .int .i64 0, .int .i64 0], .agg [.lit (.int .i64 0), .lit (.int .i64 0), .lit (.int .i64 0)], yTSlot, .st [(0, 3), (1, 3), (2, 3)], true⟩
@[simp] theorem t141_size : t141.size = 3 := rfl
@[simp] theorem t141_bytes : t141.bytes = 24 := rfl
@[simp] theorem t141_z : t141.z = .agg [.lit (.int .i64 0), .lit (.int .i64 0), .lit (.int .i64 0)] := rfl
@[simp] theorem t141_y : t141.y = yTSlot := rfl
@[simp] theorem t141_kind : t141.kind = .st [(0, 3), (1, 3), (2, 3)] := rfl
@[simp] theorem t141_cmp : t141.cmp = true := rfl
/-- impl.Slot = loop.example/g03007/impl.Slot -/
def t142 : TI := ⟨3, 24, .agg #[.int .i64 0, .int .i64 0, .int .i64 0], .agg [.lit (.int .i64 0), .lit (.int .i64 0), .lit (.int .i64 0)], yTSlot, .st [(0, 3), (1, 3), (2, 3)], true⟩
@[simp] theorem t142_size : t142.size = 3 := rfl
@[simp] theorem t142_bytes : t142.bytes = 24 := rfl
@[simp] theorem t142_z : t142.z = .agg [.lit (.int .i64 0), .lit (.int .i64 0), .lit (.int .i64 0)] := rfl
@[simp] theorem t142_y : t142.y = yTSlot := rfl
@[simp] theorem t142_kind : t142.kind = .st [(0, 3), (1, 3), (2, 3)] := rfl
@[simp] theorem t142_cmp : t142.cmp = true := rfl
/-- laws.Slot = loop.example/g03007/laws.Slot -/
def t144 : TI := ⟨3, 24, .agg #[.int .i64 0, .int .i64 0, .int .i64 0], .agg [.lit (.int .i64 0), .lit (.int .i64 0), .lit (.int .i64 0)], yTSlot, .st [(0, 3), (1, 3), (2, 3)], true⟩
@[simp] theorem t144_size : t144.size = 3 := rfl
@[simp] theorem t144_bytes : t144.bytes = 24 := rfl
@[simp] theorem t144_z : t144.z = .agg [.lit (.int .i64 0), .lit (.int .i64 0), .lit (.int .i64 0)] := rfl
@[simp] theorem t144_y : t144.y = yTSlot := rfl
@[simp] theorem t144_kind : t144.kind = .st [(0, 3), (1, 3), (2, 3)] := rfl
@[simp] theorem t144_cmp : t144.cmp = true := rfl
/-- struct { Who int; Cents int; Seal int } -/
def t147 : TI := ⟨3, 24, .agg #[.int .i64 0, .int .i64 0, .int .i64 0], .agg [.lit (.int .i64 0), .lit (.int .i64 0), .lit (.int .i64 0)], yTBid, .st [(0, 3), (1, 3), (2, 3)], true⟩
@[simp] theorem t147_size : t147.size = 3 := rfl
@[simp] theorem t147_bytes : t147.bytes = 24 := rfl
@[simp] theorem t147_z : t147.z = .agg [.lit (.int .i64 0), .lit (.int .i64 0), .lit (.int .i64 0)] := rfl
@[simp] theorem t147_y : t147.y = yTBid := rfl
@[simp] theorem t147_kind : t147.kind = .st [(0, 3), (1, 3), (2, 3)] := rfl
@[simp] theorem t147_cmp : t147.cmp = true := rfl
/-- impl.Bid = loop.example/g03007/impl.Bid -/
def t148 : TI := ⟨3, 24, .agg #[.int .i64 0, .int .i64 0, .int .i64 0], .agg [.lit (.int .i64 0), .lit (.int .i64 0), .lit (.int .i64 0)], yTBid, .st [(0, 3), (1, 3), (2, 3)], true⟩
@[simp] theorem t148_size : t148.size = 3 := rfl
@[simp] theorem t148_bytes : t148.bytes = 24 := rfl
@[simp] theorem t148_z : t148.z = .agg [.lit (.int .i64 0), .lit (.int .i64 0), .lit (.int .i64 0)] := rfl
@[simp] theorem t148_y : t148.y = yTBid := rfl
@[simp] theorem t148_kind : t148.kind = .st [(0, 3), (1, 3), (2, 3)] := rfl
@[simp] theorem t148_cmp : t148.cmp = true := rfl
/-- laws.Bid = loop.example/g03007/laws.Bid -/
def t150 : TI := ⟨3, 24, .agg #[.int .i64 0, .int .i64 0, .int .i64 0], .agg [.lit (.int .i64 0), .lit (.int .i64 0), .lit (.int .i64 0)], yTBid, .st [(0, 3), (1, 3), (2, 3)], true⟩
@[simp] theorem t150_size : t150.size = 3 := rfl
@[simp] theorem t150_bytes : t150.bytes = 24 := rfl
@[simp] theorem t150_z : t150.z = .agg [.lit (.int .i64 0), .lit (.int .i64 0), .lit (.int .i64 0)] := rfl
@[simp] theorem t150_y : t150.y = yTBid := rfl
@[simp] theorem t150_kind : t150.kind = .st [(0, 3), (1, 3), (2, 3)] := rfl
@[simp] theorem t150_cmp : t150.cmp = true := rfl
/-- []impl.portion -/
def t157 : TI := ⟨1, 24, .slice none 0 0, .sl true 0 .any [], yLTPortion, .slice 161, false⟩
@[simp] theorem t157_size : t157.size = 1 := rfl
@[simp] theorem t157_bytes : t157.bytes = 24 := rfl
@[simp] theorem t157_z : t157.z = .sl true 0 .any [] := rfl
@[simp] theorem t157_y : t157.y = yLTPortion := rfl
@[simp] theorem t157_kind : t157.kind = .slice 161 := rfl
@[simp] theorem t157_cmp : t157.cmp = false := rfl
/-- struct { Who int; Cents int } -/
def t158 : TI := ⟨2, 16, .agg #[.int .i64 0, .int .i64 0], .agg [.lit (.int .i64 0), .lit (.int .i64 0)], yTShare, .st [(0, 3), (1, 3)], true⟩
@[simp] theorem t158_size : t158.size = 2 := rfl
@[simp] theorem t158_bytes : t158.bytes = 16 := rfl
@[simp] theorem t158_z : t158.z = .agg [.lit (.int .i64 0), .lit (.int .i64 0)] := rfl
@[simp] theorem t158_y : t158.y = yTShare := rfl
@[simp] theorem t158_kind : t158.kind = .st [(0, 3), (1, 3)] := rfl
@[simp] theorem t158_cmp : t158.cmp = true := rfl
/-- impl.Share = loop.example/g03007/impl.Share -/
def t159 : TI := ⟨2, 16, .agg #[.int .i64 0, .int .i64 0], .agg [.lit (.int .i64 0), .lit (.int .i64 0)], yTShare, .st [(0, 3), (1, 3)], true⟩
@[simp] theorem t159_size : t159.size = 2 := rfl
@[simp] theorem t159_bytes : t159.bytes = 16 := rfl
@[simp] theorem t159_z : t159.z = .agg [.lit (.int .i64 0), .lit (.int .i64 0)] := rfl
@[simp] theorem t159_y : t159.y = yTShare := rfl
@[simp] theorem t159_kind : t159.kind = .st [(0, 3), (1, 3)] := rfl
@[simp] theorem t159_cmp : t159.cmp = true := rfl
/-- struct { impl.Share; part int; remainder int } -/
def t160 : TI := ⟨4, 32, .agg #[.int .i64 0, .int .i64 0, .int .i64 0, .int .i64 0], .agg [.lit (.int .i64 0), .lit (.int .i64 0), .lit (.int .i64 0), .lit (.int .i64 0)], yTPortion, .st [(0, 159), (2, 3), (3, 3)], true⟩
@[simp] theorem t160_size : t160.size = 4 := rfl
@[simp] theorem t160_bytes : t160.bytes = 32 := rfl
@[simp] theorem t160_z : t160.z = .agg [.lit (.int .i64 0), .lit (.int .i64 0), .lit (.int .i64 0), .lit (.int .i64 0)] := rfl
@[simp] theorem t160_y : t160.y = yTPortion := rfl
@[simp] theorem t160_kind : t160.kind = .st [(0, 159), (2, 3), (3, 3)] := rfl
@[simp] theorem t160_cmp : t160.cmp = true := rfl
/-- impl.portion = loop.example/g03007/impl.portion -/
def t161 : TI := ⟨4, 32, .agg #[.int .i64 0, .int .i64 0, .int .i64 0, .int .i64 0], .agg [.lit (.int .i64 0), .lit (.int .i64 0), .lit (.int .i64 0), .lit (.int .i64 0)], yTPortion, .st [(0, 159), (2, 3), (3, 3)], true⟩
@[simp] theorem t161_size : t161.size = 4 := rfl
@[simp] theorem t161_bytes : t161.bytes = 32 := rfl
@[simp] theorem t161_z : t161.z = .agg [.lit (.int .i64 0), .lit (.int .i64 0), .lit (.int .i64 0), .lit (.int .i64 0)] := rfl
@[simp] theorem t161_y : t161.y = yTPortion := rfl
@[simp] theorem t161_kind : t161.kind = .st [(0, 159), (2, 3), (3, 3)] := rfl
@[simp] theorem t161_cmp : t161.cmp = true := rfl
/-- laws.Share = loop.example/g03007/laws.Share -/
def t168 : TI := ⟨2, 16, .agg #[.int .i64 0, .int .i64 0], .agg [.lit (.int .i64 0), .lit (.int .i64 0)], yTShare, .st [(0, 3), (1, 3)], true⟩
@[simp] theorem t168_size : t168.size = 2 := rfl
@[simp] theorem t168_bytes : t168.bytes = 16 := rfl
@[simp] theorem t168_z : t168.z = .agg [.lit (.int .i64 0), .lit (.int .i64 0)] := rfl
@[simp] theorem t168_y : t168.y = yTShare := rfl
@[simp] theorem t168_kind : t168.kind = .st [(0, 3), (1, 3)] := rfl
@[simp] theorem t168_cmp : t168.cmp = true := rfl
/-- struct { Thing int; Fate int; Day int } -/
def t169 : TI := ⟨3, 24, .agg #[.int .i64 0, .int .i64 0, .int .i64 0], .agg [.lit (.int .i64 0), .lit (.int .i64 0), .lit (.int .i64 0)], yTTask, .st [(0, 3), (1, 3), (2, 3)], true⟩
@[simp] theorem t169_size : t169.size = 3 := rfl
@[simp] theorem t169_bytes : t169.bytes = 24 := rfl
@[simp] theorem t169_z : t169.z = .agg [.lit (.int .i64 0), .lit (.int .i64 0), .lit (.int .i64 0)] := rfl
@[simp] theorem t169_y : t169.y = yTTask := rfl
@[simp] theorem t169_kind : t169.kind = .st [(0, 3), (1, 3), (2, 3)] := rfl
@[simp] theorem t169_cmp : t169.cmp = true := rfl
/-- impl.Task = loop.example/g03007/impl.Task -/
def t170 : TI := ⟨3, 24, .agg #[.int .i64 0, .int .i64 0, .int .i64 0], .agg [.lit (.int .i64 0), .lit (.int .i64 0), .lit (.int .i64 0)], yTTask, .st [(0, 3), (1, 3), (2, 3)], true⟩
@[simp] theorem t170_size : t170.size = 3 := rfl
@[simp] theorem t170_bytes : t170.bytes = 24 := rfl
@[simp] theorem t170_z : t170.z = .agg [.lit (.int .i64 0), .lit (.int .i64 0), .lit (.int .i64 0)] := rfl
@[simp] theorem t170_y : t170.y = yTTask := rfl
@[simp] theorem t170_kind : t170.kind = .st [(0, 3), (1, 3), (2, 3)] := rfl
@[simp] theorem t170_cmp : t170.cmp = true := rfl
/-- laws.Task = loop.example/g03007/laws.Task -/
def t172 : TI := ⟨3, 24, .agg #[.int .i64 0, .int .i64 0, .int .i64 0], .agg [.lit (.int .i64 0), .lit (.int .i64 0), .lit (.int .i64 0)], yTTask, .st [(0, 3), (1, 3), (2, 3)], true⟩
@[simp] theorem t172_size : t172.size = 3 := rfl
@[simp] theorem t172_bytes : t172.bytes = 24 := rfl
@[simp] theorem t172_z : t172.z = .agg [.lit (.int .i64 0), .lit (.int .i64 0), .lit (.int .i64 0)] := rfl
@[simp] theorem t172_y : t172.y = yTTask := rfl
@[simp] theorem t172_kind : t172.kind = .st [(0, 3), (1, 3), (2, 3)] := rfl
@[simp] theorem t172_cmp : t172.cmp = true := rfl
/-- impl.content = loop.example/g03007/impl.content -/
def t184 : TI := ⟨1, 8, .int .i64 0, .lit (.int .i64 0), .lit (.int .i64 0), .int .i64, false⟩
@[simp] theorem t184_size : t184.size = 1 := rfl
@[simp] theorem t184_bytes : t184.bytes = 8 := rfl
@[simp] theorem t184_z : t184.z = .lit (.int .i64 0) := rfl
@[simp] theorem t184_y : t184.y = .lit (.int .i64 0) := rfl
@[simp] theorem t184_kind : t184.kind = .int .i64 := rfl
@[simp] theorem t184_cmp : t184.cmp = false := rfl
/-- func(impl.Slot) int -/
def t185 : TI := ⟨1, 8, .nilFunc, .lit .nilFunc, .lit .nilFunc, .func, false⟩
@[simp] theorem t185_size : t185.size = 1 := rfl
@[simp] theorem t185_bytes : t185.bytes = 8 := rfl
@[simp] theorem t185_z : t185.z = .lit .nilFunc := rfl
@[simp] theorem t185_y : t185.y = .lit .nilFunc := rfl
@[simp] theorem t185_kind : t185.kind = .func := rfl
@[simp] theorem t185_cmp : t185.cmp = false := rfl
/-- struct { items []impl.Slot; numberOf func(impl.Slot) int } -/
def t186 : TI := ⟨2, 32, .agg #[.slice none 0 0, .nilFunc], .agg [.sl true 0 .any [], .lit .nilFunc], .any, .st [(0, 71), (1, 185)], false⟩
@[simp] theorem t186_size : t186.size = 2 := rfl
@[simp] theorem t186_bytes : t186.bytes = 32 := rfl
@[simp] theorem t186_z : t186.z = .agg [.sl true 0 .any [], .lit .nilFunc] := rfl
@[simp] theorem t186_y : t186.y = .any := rfl
@[simp] theorem t186_kind : t186.kind = .st [(0, 71), (1, 185)] := rfl
@[simp] theorem t186_cmp : t186.cmp = false := rfl
/-- impl.sortedList[loop.example/g03007/impl.Slot] = loop.example/g03007/impl.sortedList[loop.example/g03007/impl.Slot] -/
def t187 : TI := ⟨2, 32, .agg #[.slice none 0 0, .nilFunc], .agg [.sl true 0 .any [], .lit .nilFunc], .any, .st [(0, 71), (1, 185)], false⟩
@[simp] theorem t187_size : t187.size = 2 := rfl
@[simp] theorem t187_bytes : t187.bytes = 32 := rfl
@[simp] theorem t187_z : t187.z = .agg [.sl true 0 .any [], .lit .nilFunc] := rfl
@[simp] theorem t187_y : t187.y = .any := rfl
@[simp] theorem t187_kind : t187.kind = .st [(0, 71), (1, 185)] := rfl
@[simp] theorem t187_cmp : t187.cmp = false := rfl
/-- *impl.portion -/
def t191 : TI := ⟨1, 8, .pointer none, .lit (.pointer none), .lit (.pointer none), .ptr 161, false⟩
@[simp] theorem t191_size : t191.size = 1 := rfl
@[simp] theorem t191_bytes : t191.bytes = 8 := rfl
@[simp] theorem t191_z : t191.z = .lit (.pointer none) := rfl
@[simp] theorem t191_y : t191.y = .lit (.pointer none) := rfl
@[simp] theorem t191_kind : t191.kind = .ptr 161 := rfl
@[simp] theorem t191_cmp : t191.cmp = false := rfl
/-- [4]func(impl.Find) bool -/
def t194 : TI := ⟨4, 32, .agg #[.nilFunc, .nilFunc, .nilFunc, .nilFunc], .agg [.lit .nilFunc, .lit .nilFunc, .lit .nilFunc, .lit .nilFunc], .any, .arr 4 130, false⟩
@[simp] theorem t194_size : t194.size = 4 := rfl
@[simp] theorem t194_bytes : t194.bytes = 32 := rfl
@[simp] theorem t194_z : t194.z = .agg [.lit .nilFunc, .lit .nilFunc, .lit .nilFunc, .lit .nilFunc] := rfl
@[simp] theorem t194_y : t194.y = .any := rfl
@[simp] theorem t194_kind : t194.kind = .arr 4 130 := rfl
@[simp] theorem t194_cmp : t194.cmp = false := rfl
/-- [2]int -/
def t197 : TI := ⟨2, 16, .agg #[.int .i64 0, .int .i64 0], .agg [.lit (.int .i64 0), .lit (.int .i64 0)], .any, .arr 2 3, false⟩
@[simp] theorem t197_size : t197.size = 2 := rfl
@[simp] theorem t197_bytes : t197.bytes = 16 := rfl
@[simp] theorem t197_z : t197.z = .agg [.lit (.int .i64 0), .lit (.int .i64 0)] := rfl
@[simp] theorem t197_y : t197.y = .any := rfl
@[simp] theorem t197_kind : t197.kind = .arr 2 3 := rfl
@[simp] theorem t197_cmp : t197.cmp = false := rfl
/-- uint32 -/
def t210 : TI := ⟨1, 4, .int .u32 0, .lit (.int .u32 0), .lit (.int .u32 0), .int .u32, false⟩
@[simp] theorem t210_size : t210.size = 1 := rfl
@[simp] theorem t210_bytes : t210.bytes = 4 := rfl
@[simp] theorem t210_z : t210.z = .lit (.int .u32 0) := rfl
@[simp] theorem t210_y : t210.y = .lit (.int .u32 0) := rfl
@[simp] theorem t210_kind : t210.kind = .int .u32 := rfl
@[simp] theorem t210_cmp : t210.cmp = false := rfl
/-- func(unsafe.Pointer, unsafe.Pointer) bool -/
def t213 : TI := ⟨1, 8, .nilFunc, .lit .nilFunc, .lit .nilFunc, .func, false⟩
@[simp] theorem t213_size : t213.size = 1 := rfl
@[simp] theorem t213_bytes : t213.bytes = 8 := rfl
@[simp] theorem t213_z : t213.z = .lit .nilFunc := rfl
@[simp] theorem t213_y : t213.y = .lit .nilFunc := rfl
@[simp] theorem t213_kind : t213.kind = .func := rfl
@[simp] theorem t213_cmp : t213.cmp = false := rfl
/-- *uint8 -/
def t214 : TI := ⟨1, 8, .pointer none, .lit (.pointer none), .lit (.pointer none), .ptr 5, false⟩
@[simp] theorem t214_size : t214.size = 1 := rfl
@[simp] theorem t214_bytes : t214.bytes = 8 := rfl
@[simp] theorem t214_z : t214.z = .lit (.pointer none) := rfl
@[simp] theorem t214_y : t214.y = .lit (.pointer none) := rfl
@[simp] theorem t214_kind : t214.kind = .ptr 5 := rfl
@[simp] theorem t214_cmp : t214.cmp = false := rfl
/-- struct { Size_ uintptr; PtrBytes uintptr; Hash uint32; TFlag abi.TFlag; Align_ uint8; FieldAlign_ uint8; Kind_ abi.Kind; Equal func(unsafe.Pointer, unsafe.Pointer) bool; GCData *uint8; Str abi.NameOff; PtrToThis abi.TypeOff } -/
def t217 : TI := ⟨11, 48, .agg #[.int .u64 0, .int .u64 0, .int .u32 0, .int .u8 0, .int .u8 0, .int .u8 0, .int .u8 0, .nilFunc, .pointer none, .int .i32 0, .int .i32 0], .agg [.lit (.int .u64 0), .lit (.int .u64 0), .lit (.int .u32 0), .lit (.int .u8 0), .lit (.int .u8 0), .lit (.int .u8 0), .lit (.int .u8 0), .lit .nilFunc, .lit (.pointer none), .lit (.int .i32 0), .lit (.int .i32 0)], .any, .st [(0, 12), (1, 12), (2, 210), (3, 211), (4, 5), (5, 5), (6, 212), (7, 213), (8, 214), (9, 215), (10, 216)], false⟩
@[simp] theorem t217_size : t217.size = 11 := rfl
@[simp] theorem t217_bytes : t217.bytes = 48 := rfl
@[simp] theorem t217_z : t217.z = .agg [.lit (.int .u64 0), .lit (.int .u64 0), .lit (.int .u32 0), .lit (.int .u8 0), .lit (.int .u8 0), .lit (.int .u8 0), .lit (.int .u8 0), .lit .nilFunc, .lit (.pointer none), .lit (.int .i32 0), .lit (.int .i32 0)] := rfl
@[simp] theorem t217_y : t217.y = .any := rfl
@[simp] theorem t217_kind : t217.kind = .st [(0, 12), (1, 12), (2, 210), (3, 211), (4, 5), (5, 5), (6, 212), (7, 213), (8, 214), (9, 215), (10, 216)] := rfl
@[simp] theorem t217_cmp : t217.cmp = false := rfl
/-- struct { kind int; colour int; size int; place int } -/
def t227 : TI := ⟨4, 32, .agg #[.int .i64 0, .int .i64 0, .int .i64 0, .int .i64 0], .agg [.lit (.int .i64 0), .lit (.int .i64 0), .lit (.int .i64 0), .lit (.int .i64 0)], .any, .st [(0, 3), (1, 3), (2, 3), (3, 3)], true⟩
@[simp] theorem t227_size : t227.size = 4 := rfl
@[simp] theorem t227_bytes : t227.bytes = 32 := rfl
@[simp] theorem t227_z : t227.z = .agg [.lit (.int .i64 0), .lit (.int .i64 0), .lit (.int .i64 0), .lit (.int .i64 0)] := rfl
@[simp] theorem t227_y : t227.y = .any := rfl
@[simp] theorem t227_kind : t227.kind = .st [(0, 3), (1, 3), (2, 3), (3, 3)] := rfl
@[simp] theorem t227_cmp : t227.cmp = true := rfl
theorem t2_ok : t2.ok Try.prog 2 := ⟨by kernel_rfl, by kernel_rfl, by kernel_rfl, Try.underlying2, (fun h => by cases h), ⟨rfl, rfl, rfl, rfl, fun F h β => by simp [t2, Rep, Reps]⟩⟩
theorem t3_ok : t3.ok Try.prog 3 := ⟨by kernel_rfl, by kernel_rfl, by kernel_rfl, Try.underlying3, (fun h => by cases h), ⟨rfl, rfl, rfl, rfl, fun F h β => by simp [t3, Rep, Reps]⟩⟩
theorem t4_ok : t4.ok Try.prog 4 := ⟨by kernel_rfl, by kernel_rfl, by kernel_rfl, Try.underlying4, (fun h => by cases h), ⟨rfl, rfl, rfl, rfl, fun F h β => by simp [t4, Rep, Reps]⟩⟩
theorem t5_ok : t5.ok Try.prog 5 := ⟨by kernel_rfl, by kernel_rfl, by kernel_rfl, Try.underlying5, (fun h => by cases h), ⟨rfl, rfl, rfl, rfl, fun F h β => by simp [t5, Rep, Reps]⟩⟩
theorem t9_ok : t9.ok Try.prog 9 := ⟨by kernel_rfl, by kernel_rfl, by kernel_rfl, Try.underlying9, (fun h => by cases h), ⟨rfl, rfl, rfl, rfl, fun F h β => by simp [t9, Rep, Reps]⟩⟩
theorem t12_ok : t12.ok Try.prog 12 := ⟨by kernel_rfl, by kernel_rfl, by kernel_rfl, Try.underlying12, (fun h => by cases h), ⟨rfl, rfl, rfl, rfl, fun F h β => by simp [t12, Rep, Reps]⟩⟩
theorem t20_ok : t20.ok Try.prog 20 := ⟨by kernel_rfl, by kernel_rfl, by kernel_rfl, ⟨_, Try.underlying20⟩, (fun h => by cases h), ⟨rfl, rfl, rfl, rfl, fun F h β => by simp [t20, Rep, Reps]⟩⟩
theorem t21_ok : t21.ok Try.prog 21 := ⟨by kernel_rfl, by kernel_rfl, by kernel_rfl, Try.underlying21, (fun h => by cases h), ⟨rfl, rfl, rfl, rfl, fun F h β => by simp [t21, Rep, Reps]⟩⟩
theorem t22_ok : t22.ok Try.prog 22 := ⟨by kernel_rfl, by kernel_rfl, by kernel_rfl, Try.underlying22, (fun h => by cases h), ⟨rfl, rfl, rfl, rfl, fun F h β => by simp [t22, Rep, Reps]⟩⟩
theorem t23_ok : t23.ok Try.prog 23 := ⟨by kernel_rfl, by kernel_rfl, by kernel_rfl, Try.underlying23, (fun h => by cases h), ⟨rfl, rfl, rfl, rfl, fun F h β => by simp [t23, Rep, Reps]⟩⟩
theorem t31_ok : t31.ok Try.prog 31 := ⟨by kernel_rfl, by kernel_rfl, by kernel_rfl, Try.underlying31, (fun h => by cases h), ⟨rfl, rfl, rfl, rfl, fun F h β => by simp [t31, Rep, Reps]⟩⟩
theorem t32_ok : t32.ok Try.prog 32 := ⟨by kernel_rfl, by kernel_rfl, by kernel_rfl, ⟨_, Try.underlying32, rfl⟩, (fun _ => eqInts_of (by kernel_rfl) (by kernel_rfl) (by kernel_rfl)), ⟨rfl, rfl, rfl, rfl, fun F h β => by simp [t32, Rep, Reps]⟩⟩
theorem t33_ok : t33.ok Try.prog 33 := ⟨by kernel_rfl, by kernel_rfl, by kernel_rfl, ⟨_, Try.underlying33, rfl⟩, (fun _ => eqInts_of (by kernel_rfl) (by kernel_rfl) (by kernel_rfl)), ⟨rfl, rfl, rfl, rfl, fun F h β => by simp [t33, Rep, Reps]⟩⟩
theorem t34_ok : t34.ok Try.prog 34 := ⟨by kernel_rfl, by kernel_rfl, by kernel_rfl, ⟨_, Try.underlying34, rfl⟩, (fun _ => eqInts_of (by kernel_rfl) (by kernel_rfl) (by kernel_rfl)), ⟨rfl, rfl, rfl, rfl, fun F h β => by simp [t34, Rep, Reps]⟩⟩
theorem t35_ok : t35.ok Try.prog 35 := ⟨by kernel_rfl, by kernel_rfl, by kernel_rfl, ⟨_, Try.underlying35, rfl⟩, (fun _ => eqInts_of (by kernel_rfl) (by kernel_rfl) (by kernel_rfl)), ⟨rfl, rfl, rfl, rfl, fun F h β => by simp [t35, Rep, Reps]⟩⟩
theorem t37_ok : t37.ok Try.prog 37 := ⟨by kernel_rfl, by kernel_rfl, by kernel_rfl, Try.underlying37, (fun h => by cases h), ⟨rfl, rfl, rfl, rfl, fun F h β => by simp [t37, Rep, Reps]⟩⟩
theorem t41_ok : t41.ok Try.prog 41 := ⟨by kernel_rfl, by kernel_rfl, by kernel_rfl, ⟨_, Try.underlying41, rfl⟩, (fun _ => eqInts_of (by kernel_rfl) (by kernel_rfl) (by kernel_rfl)), ⟨rfl, rfl, rfl, rfl, fun F h β => by simp [t41, Rep, Reps]⟩⟩
theorem t42_ok : t42.ok Try.prog 42 := ⟨by kernel_rfl, by kernel_rfl, by kernel_rfl, ⟨_, Try.underlying42, rfl⟩, (fun _ => eqInts_of (by kernel_rfl) (by kernel_rfl) (by kernel_rfl)), ⟨rfl, rfl, rfl, rfl, fun F h β => by simp [t42, Rep, Reps]⟩⟩
theorem t43_ok : t43.ok Try.prog 43 := ⟨by kernel_rfl, by kernel_rfl, by kernel_rfl, ⟨_, Try.underlying43, rfl⟩, (fun _ => eqInts_of (by kernel_rfl) (by kernel_rfl) (by kernel_rfl)), ⟨rfl, rfl, rfl, rfl, fun F h β => by simp [t43, Rep, Reps]⟩⟩
theorem t50_ok : t50.ok Try.prog 50 := ⟨by kernel_rfl, by kernel_rfl, by kernel_rfl, ⟨_, Try.underlying50, rfl⟩, (fun _ => eqInts_of (by kernel_rfl) (by kernel_rfl) (by kernel_rfl)), ⟨rfl, rfl, rfl, rfl, fun F h β => by simp [t50, Rep, Reps]⟩⟩
theorem t51_ok : t51.ok Try.prog 51 := ⟨by kernel_rfl, by kernel_rfl, by kernel_rfl, ⟨_, Try.underlying51, rfl⟩, (fun _ => eqInts_of (by kernel_rfl) (by kernel_rfl) (by kernel_rfl)), ⟨rfl, rfl, rfl, rfl, fun F h β => by simp [t51, Rep, Reps]⟩⟩
theorem t53_ok : t53.ok Try.prog 53 := ⟨by kernel_rfl, by kernel_rfl, by kernel_rfl, ⟨_, Try.underlying53, rfl⟩, (fun _ => eqInts_of (by kernel_rfl) (by kernel_rfl) (by kernel_rfl)), ⟨rfl, rfl, rfl, rfl, fun F h β => by simp [t53, Rep, Reps]⟩⟩
theorem t56_ok : t56.ok Try.prog 56 := ⟨by kernel_rfl, by kernel_rfl, by kernel_rfl, Try.underlying56, (fun h => by cases h), ⟨rfl, rfl, rfl, rfl, fun F h β => by simp [t56, Rep, Reps]⟩⟩
theorem t57_ok : t57.ok Try.prog 57 := ⟨by kernel_rfl, by kernel_rfl, by kernel_rfl, ⟨_, Try.underlying57, rfl⟩, (fun _ => eqInts_of (by kernel_rfl) (by kernel_rfl) (by kernel_rfl)), ⟨rfl, rfl, rfl, rfl, fun F h β => by simp [t57, Rep, Reps]⟩⟩
theorem t58_ok : t58.ok Try.prog 58 := ⟨by kernel_rfl, by kernel_rfl, by kernel_rfl, ⟨_, Try.underlying58, rfl⟩, (fun _ => eqInts_of (by kernel_rfl) (by kernel_rfl) (by kernel_rfl)), ⟨rfl, rfl, rfl, rfl, fun F h β => by simp [t58, Rep, Reps]⟩⟩
theorem t60_ok : t60.ok Try.prog 60 := ⟨by kernel_rfl, by kernel_rfl, by kernel_rfl, Try.underlying60, (fun h => by cases h), ⟨rfl, rfl, rfl, rfl, fun F h β => by simp [t60, Rep, Reps]⟩⟩
theorem t64_ok : t64.ok Try.prog 64 := ⟨by kernel_rfl, by kernel_rfl, by kernel_rfl, ⟨_, Try.underlying64, rfl⟩, (fun _ => eqInts_of (by kernel_rfl) (by kernel_rfl) (by kernel_rfl)), ⟨rfl, rfl, rfl, rfl, fun F h β => by simp [t64, Rep, Reps]⟩⟩
theorem t69_ok : t69.ok Try.prog 69 := ⟨by kernel_rfl, by kernel_rfl, by kernel_rfl, Try.underlying69, (fun h => by cases h), ⟨rfl, rfl, rfl, rfl, fun F h β => by simp [t69, Rep, Reps]⟩⟩
theorem t71_ok : t71.ok Try.prog 71 := ⟨by kernel_rfl, by kernel_rfl, by kernel_rfl, Try.underlying71, (fun h => by cases h), ⟨rfl, rfl, rfl, rfl, fun F h β => by simp [t71, Rep, Reps]⟩⟩
theorem t78_ok : t78.ok Try.prog 78 := ⟨by kernel_rfl, by kernel_rfl, by kernel_rfl, Try.underlying78, (fun h => by cases h), ⟨rfl, rfl, rfl, rfl, fun F h β => by simp [t78, Rep, Reps]⟩⟩
theorem t80_ok : t80.ok Try.prog 80 := ⟨by kernel_rfl, by kernel_rfl, by kernel_rfl, Try.underlying80, (fun h => by cases h), ⟨rfl, rfl, rfl, rfl, fun F h β => by simp [t80, Rep, Reps]⟩⟩
theorem t89_ok : t89.ok Try.prog 89 := ⟨by kernel_rfl, by kernel_rfl, by kernel_rfl, Try.underlying89, (fun h => by cases h), ⟨rfl, rfl, rfl, rfl, fun F h β => by simp [t89, Rep, Reps]⟩⟩
theorem t94_ok : t94.ok Try.prog 94 := ⟨by kernel_rfl, by kernel_rfl, by kernel_rfl, Try.underlying94, (fun h => by cases h), ⟨rfl, rfl, rfl, rfl, fun F h β => by simp [t94, Rep, Reps]⟩⟩
theorem t95_ok : t95.ok Try.prog 95 := ⟨by kernel_rfl, by kernel_rfl, by kernel_rfl, ⟨_, Try.underlying95, rfl⟩, (fun _ => eqInts_of (by kernel_rfl) (by kernel_rfl) (by kernel_rfl)), ⟨rfl, rfl, rfl, rfl, fun F h β => by simp [t95, Rep, Reps]⟩⟩
theorem t96_ok : t96.ok Try.prog 96 := ⟨by kernel_rfl, by kernel_rfl, by kernel_rfl, ⟨_, Try.underlying96, rfl⟩, (fun _ => eqInts_of (by kernel_rfl) (by kernel_rfl) (by kernel_rfl)), ⟨rfl, rfl, rfl, rfl, fun F h β => by simp [t96, Rep, Reps]⟩⟩
theorem t98_ok : t98.ok Try.prog 98 := ⟨by kernel_rfl, by kernel_rfl, by kernel_rfl, Try.underlying98, (fun h => by cases h), ⟨rfl, rfl, rfl, rfl, fun F h β => by simp [t98, Rep, Reps]⟩⟩
theorem t102_ok : t102.ok Try.prog 102 := ⟨by kernel_rfl, by kernel_rfl, by kernel_rfl, ⟨_, Try.underlying102, rfl⟩, (fun _ => eqInts_of (by kernel_rfl) (by kernel_rfl) (by kernel_rfl)), ⟨rfl, rfl, rfl, rfl, fun F h β => by simp [t102, Rep, Reps]⟩⟩
theorem t107_ok : t107.ok Try.prog 107 := ⟨by kernel_rfl, by kernel_rfl, by kernel_rfl, Try.underlying107, (fun h => by cases h), ⟨rfl, rfl, rfl, rfl, fun F h β => by simp [t107, Rep, Reps]⟩⟩
theorem t112_ok : t112.ok Try.prog 112 := ⟨by kernel_rfl, by kernel_rfl, by kernel_rfl, Try.underlying112, (fun h => by cases h), ⟨rfl, rfl, rfl, rfl, fun F h β => by simp [t112, Rep, Reps]⟩⟩
theorem t114_ok : t114.ok Try.prog 114 := ⟨by kernel_rfl, by kernel_rfl, by kernel_rfl, Try.underlying114, (fun h => by cases h), ⟨rfl, rfl, rfl, rfl, fun F h β => by simp [t114, Rep, Reps]⟩⟩
theorem t123_ok : t123.ok Try.prog 123 := ⟨by kernel_rfl, by kernel_rfl, by kernel_rfl, ⟨_, _, _, Try.underlying123⟩, (fun h => by cases h), ⟨rfl, rfl, rfl, rfl, fun F h β => by simp [t123, Rep, Reps]⟩⟩
theorem t124_ok : t124.ok Try.prog 124 := ⟨by kernel_rfl, by kernel_rfl, by kernel_rfl, ⟨_, Try.underlying124, rfl⟩, (fun h => by cases h), ⟨rfl, rfl, rfl, rfl, fun F h β => by
    show Rep F h β t124.z t124.zero
    simp only [t124, Rep, Reps]
    exact ⟨_, rfl, _, _, rfl, (.inl ⟨by trivial, none, 0, by trivial, by intros; rfl⟩), _, _, rfl, (by trivial), rfl⟩⟩⟩
theorem t125_ok : t125.ok Try.prog 125 := ⟨by kernel_rfl, by kernel_rfl, by kernel_rfl, ⟨_, Try.underlying125, rfl⟩, (fun h => by cases h), ⟨rfl, rfl, rfl, rfl, fun F h β => by
    show Rep F h β t125.z t125.zero
    simp only [t125, Rep, Reps]
    exact ⟨_, rfl, _, _, rfl, (.inl ⟨by trivial, none, 0, by trivial, by intros; rfl⟩), _, _, rfl, (by trivial), rfl⟩⟩⟩
theorem t130_ok : t130.ok Try.prog 130 := ⟨by kernel_rfl, by kernel_rfl, by kernel_rfl, ⟨_, _, _, Try.underlying130⟩, (fun h => by cases h), ⟨rfl, rfl, rfl, rfl, fun F h β => by simp [t130, Rep, Reps]⟩⟩
theorem t133_ok : t133.ok Try.prog 133 := ⟨by kernel_rfl, by kernel_rfl, by kernel_rfl, ⟨_, _, _, Try.underlying133⟩, (fun h => by cases h), ⟨rfl, rfl, rfl, rfl, fun F h β => by simp [t133, Rep, Reps]⟩⟩
theorem t134_ok : t134.ok Try.prog 134 := ⟨by kernel_rfl, by kernel_rfl, by kernel_rfl, ⟨_, Try.underlying134, rfl⟩, (fun h => by cases h), ⟨rfl, rfl, rfl, rfl, fun F h β => by
    show Rep F h β t134.z t134.zero
    simp only [t134, Rep, Reps]
    exact ⟨_, rfl, _, _, rfl, (.inl ⟨by trivial, none, 0, by trivial, by intros; rfl⟩), _, _, rfl, (by trivial), rfl⟩⟩⟩
theorem t135_ok : t135.ok Try.prog 135 := ⟨by kernel_rfl, by kernel_rfl, by kernel_rfl, ⟨_, Try.underlying135, rfl⟩, (fun h => by cases h), ⟨rfl, rfl, rfl, rfl, fun F h β => by
    show Rep F h β t135.z t135.zero
    simp only [t135, Rep, Reps]
    exact ⟨_, rfl, _, _, rfl, (.inl ⟨by trivial, none, 0, by trivial, by intros; rfl⟩), _, _, rfl, (by trivial), rfl⟩⟩⟩
theorem t141_ok : t141.ok Try.prog 141 := ⟨by kernel_rfl, by kernel_rfl, by kernel_rfl, ⟨_, Try.underlying141, rfl⟩, (fun _ => eqInts_of (by kernel_rfl) (by kernel_rfl) (by kernel_rfl)), ⟨rfl, rfl, rfl, rfl, fun F h β => by simp [t141, Rep, Reps]⟩⟩
theorem t142_ok : t142.ok Try.prog 142 := ⟨by kernel_rfl, by kernel_rfl, by kernel_rfl, ⟨_, Try.underlying142, rfl⟩, (fun _ => eqInts_of (by kernel_rfl) (by kernel_rfl) (by kernel_rfl)), ⟨rfl, rfl, rfl, rfl, fun F h β => by simp [t142, Rep, Reps]⟩⟩
theorem t144_ok : t144.ok Try.prog 144 := ⟨by kernel_rfl, by kernel_rfl, by kernel_rfl, ⟨_, Try.underlying144, rfl⟩, (fun _ => eqInts_of (by kernel_rfl) (by kernel_rfl) (by kernel_rfl)), ⟨rfl, rfl, rfl, rfl, fun F h β => by simp [t144, Rep, Reps]⟩⟩
theorem t147_ok : t147.ok Try.prog 147 := ⟨by kernel_rfl, by kernel_rfl, by kernel_rfl, ⟨_, Try.underlying147, rfl⟩, (fun _ => eqInts_of (by kernel_rfl) (by kernel_rfl) (by kernel_rfl)), ⟨rfl, rfl, rfl, rfl, fun F h β => by simp [t147, Rep, Reps]⟩⟩
theorem t148_ok : t148.ok Try.prog 148 := ⟨by kernel_rfl, by kernel_rfl, by kernel_rfl, ⟨_, Try.underlying148, rfl⟩, (fun _ => eqInts_of (by kernel_rfl) (by kernel_rfl) (by kernel_rfl)), ⟨rfl, rfl, rfl, rfl, fun F h β => by simp [t148, Rep, Reps]⟩⟩
theorem t150_ok : t150.ok Try.prog 150 := ⟨by kernel_rfl, by kernel_rfl, by kernel_rfl, ⟨_, Try.underlying150, rfl⟩, (fun _ => eqInts_of (by kernel_rfl) (by kernel_rfl) (by kernel_rfl)), ⟨rfl, rfl, rfl, rfl, fun F h β => by simp [t150, Rep, Reps]⟩⟩
theorem t157_ok : t157.ok Try.prog 157 := ⟨by kernel_rfl, by kernel_rfl, by kernel_rfl, Try.underlying157, (fun h => by cases h), ⟨rfl, rfl, rfl, rfl, fun F h β => by simp [t157, Rep, Reps]⟩⟩
theorem t158_ok : t158.ok Try.prog 158 := ⟨by kernel_rfl, by kernel_rfl, by kernel_rfl, ⟨_, Try.underlying158, rfl⟩, (fun _ => eqInts_of (by kernel_rfl) (by kernel_rfl) (by kernel_rfl)), ⟨rfl, rfl, rfl, rfl, fun F h β => by simp [t158, Rep, Reps]⟩⟩
theorem t159_ok : t159.ok Try.prog 159 := ⟨by kernel_rfl, by kernel_rfl, by kernel_rfl, ⟨_, Try.underlying159, rfl⟩, (fun _ => eqInts_of (by kernel_rfl) (by kernel_rfl) (by kernel_rfl)), ⟨rfl, rfl, rfl, rfl, fun F h β => by simp [t159, Rep, Reps]⟩⟩
theorem t160_ok : t160.ok Try.prog 160 := ⟨by kernel_rfl, by kernel_rfl, by kernel_rfl, ⟨_, Try.underlying160, rfl⟩, (fun _ => eqInts_of (by kernel_rfl) (by kernel_rfl) (by kernel_rfl)), ⟨rfl, rfl, rfl, rfl, fun F h β => by simp [t160, Rep, Reps]⟩⟩
theorem t161_ok : t161.ok Try.prog 161 := ⟨by kernel_rfl, by kernel_rfl, by kernel_rfl, ⟨_, Try.underlying161, rfl⟩, (fun _ => eqInts_of (by kernel_rfl) (by kernel_rfl) (by kernel_rfl)), ⟨rfl, rfl, rfl, rfl, fun F h β => by simp [t161, Rep, Reps]⟩⟩
theorem t168_ok : t168.ok Try.prog 168 := ⟨by kernel_rfl, by kernel_rfl, by kernel_rfl, ⟨_, Try.underlying168, rfl⟩, (fun _ => eqInts_of (by kernel_rfl) (by kernel_rfl) (by kernel_rfl)), ⟨rfl, rfl, rfl, rfl, fun F h β => by simp [t168, Rep, Reps]⟩⟩
theorem t169_ok : t169.ok Try.prog 169 := ⟨by kernel_rfl, by kernel_rfl, by kernel_rfl, ⟨_, Try.underlying169, rfl⟩, (fun _ => eqInts_of (by kernel_rfl) (by kernel_rfl) (by kernel_rfl)), ⟨rfl, rfl, rfl, rfl, fun F h β => by simp [t169, Rep, Reps]⟩⟩
theorem t170_ok : t170.ok Try.prog 170 := ⟨by kernel_rfl, by kernel_rfl, by kernel_rfl, ⟨_, Try.underlying170, rfl⟩, (fun _ => eqInts_of (by kernel_rfl) (by kernel_rfl) (by kernel_rfl)), ⟨rfl, rfl, rfl, rfl, fun F h β => by simp [t170, Rep, Reps]⟩⟩
theorem t172_ok : t172.ok Try.prog 172 := ⟨by kernel_rfl, by kernel_rfl, by kernel_rfl, ⟨_, Try.underlying172, rfl⟩, (fun _ => eqInts_of (by kernel_rfl) (by kernel_rfl) (by kernel_rfl)), ⟨rfl, rfl, rfl, rfl, fun F h β => by simp [t172, Rep, Reps]⟩⟩
theorem t184_ok : t184.ok Try.prog 184 := ⟨by kernel_rfl, by kernel_rfl, by kernel_rfl, Try.underlying184, (fun h => by cases h), ⟨rfl, rfl, rfl, rfl, fun F h β => by simp [t184, Rep, Reps]⟩⟩
theorem t185_ok : t185.ok Try.prog 185 := ⟨by kernel_rfl, by kernel_rfl, by kernel_rfl, ⟨_, _, _, Try.underlying185⟩, (fun h => by cases h), ⟨rfl, rfl, rfl, rfl, fun F h β => by simp [t185, Rep, Reps]⟩⟩
theorem t186_ok : t186.ok Try.prog 186 := ⟨by kernel_rfl, by kernel_rfl, by kernel_rfl, ⟨_, Try.underlying186, rfl⟩, (fun h => by cases h), ⟨rfl, rfl, rfl, rfl, fun F h β => by
    show Rep F h β t186.z t186.zero
    simp only [t186, Rep, Reps]
    exact ⟨_, rfl, _, _, rfl, (.inl ⟨by trivial, none, 0, by trivial, by intros; rfl⟩), _, _, rfl, (by trivial), rfl⟩⟩⟩
theorem t187_ok : t187.ok Try.prog 187 := ⟨by kernel_rfl, by kernel_rfl, by kernel_rfl, ⟨_, Try.underlying187, rfl⟩, (fun h => by cases h), ⟨rfl, rfl, rfl, rfl, fun F h β => by
    show Rep F h β t187.z t187.zero
    simp only [t187, Rep, Reps]
    exact ⟨_, rfl, _, _, rfl, (.inl ⟨by trivial, none, 0, by trivial, by intros; rfl⟩), _, _, rfl, (by trivial), rfl⟩⟩⟩
theorem t191_ok : t191.ok Try.prog 191 := ⟨by kernel_rfl, by kernel_rfl, by kernel_rfl, Try.underlying191, (fun h => by cases h), ⟨rfl, rfl, rfl, rfl, fun F h β => by simp [t191, Rep, Reps]⟩⟩
theorem t194_ok : t194.ok Try.prog 194 := ⟨by kernel_rfl, by kernel_rfl, by kernel_rfl, Try.underlying194, (fun h => by cases h), ⟨rfl, rfl, rfl, rfl, fun F h β => by simp [t194, Rep, Reps]⟩⟩
theorem t197_ok : t197.ok Try.prog 197 := ⟨by kernel_rfl, by kernel_rfl, by kernel_rfl, Try.underlying197, (fun h => by cases h), ⟨rfl, rfl, rfl, rfl, fun F h β => by simp [t197, Rep, Reps]⟩⟩
theorem t210_ok : t210.ok Try.prog 210 := ⟨by kernel_rfl, by kernel_rfl, by kernel_rfl, Try.underlying210, (fun h => by cases h), ⟨rfl, rfl, rfl, rfl, fun F h β => by simp [t210, Rep, Reps]⟩⟩
theorem t213_ok : t213.ok Try.prog 213 := ⟨by kernel_rfl, by kernel_rfl, by kernel_rfl, ⟨_, _, _, Try.underlying213⟩, (fun h => by cases h), ⟨rfl, rfl, rfl, rfl, fun F h β => by simp [t213, Rep, Reps]⟩⟩
theorem t214_ok : t214.ok Try.prog 214 := ⟨by kernel_rfl, by kernel_rfl, by kernel_rfl, Try.underlying214, (fun h => by cases h), ⟨rfl, rfl, rfl, rfl, fun F h β => by simp [t214, Rep, Reps]⟩⟩
theorem t217_ok : t217.ok Try.prog 217 := ⟨by kernel_rfl, by kernel_rfl, by kernel_rfl, ⟨_, Try.underlying217, rfl⟩, (fun h => by cases h), ⟨rfl, rfl, rfl, rfl, fun F h β => by simp [t217, Rep, Reps]⟩⟩
theorem t227_ok : t227.ok Try.prog 227 := ⟨by kernel_rfl, by kernel_rfl, by kernel_rfl, ⟨_, Try.underlying227, rfl⟩, (fun _ => eqInts_of (by kernel_rfl) (by kernel_rfl) (by kernel_rfl)), ⟨rfl, rfl, rfl, rfl, fun F h β => by simp [t227, Rep, Reps]⟩⟩
def G : Ctx := [(2, t2), (3, t3), (4, t4), (5, t5), (9, t9), (12, t12), (20, t20), (21, t21), (22, t22), (23, t23), (31, t31), (32, t32), (33, t33), (34, t34), (35, t35), (37, t37), (41, t41), (42, t42), (43, t43), (50, t50), (51, t51), (53, t53), (56, t56), (57, t57), (58, t58), (60, t60), (64, t64), (69, t69), (71, t71), (78, t78), (80, t80), (89, t89), (94, t94), (95, t95), (96, t96), (98, t98), (102, t102), (107, t107), (112, t112), (114, t114), (123, t123), (124, t124), (125, t125), (130, t130), (133, t133), (134, t134), (135, t135), (141, t141), (142, t142), (144, t144), (147, t147), (148, t148), (150, t150), (157, t157), (158, t158), (159, t159), (160, t160), (161, t161), (168, t168), (169, t169), (170, t170), (172, t172), (184, t184), (185, t185), (186, t186), (187, t187), (191, t191), (194, t194), (197, t197), (210, t210), (213, t213), (214, t214), (217, t217), (227, t227)]
@[simp] theorem G_2 : G.get 2 = some t2 := rfl
@[simp] theorem G_3 : G.get 3 = some t3 := rfl
@[simp] theorem G_4 : G.get 4 = some t4 := rfl
@[simp] theorem G_5 : G.get 5 = some t5 := rfl
@[simp] theorem G_9 : G.get 9 = some t9 := rfl
@[simp] theorem G_12 : G.get 12 = some t12 := rfl
@[simp] theorem G_20 : G.get 20 = some t20 := rfl
@[simp] theorem G_21 : G.get 21 = some t21 := rfl
@[simp] theorem G_22 : G.get 22 = some t22 := rfl
@[simp] theorem G_23 : G.get 23 = some t23 := rfl
@[simp] theorem G_31 : G.get 31 = some t31 := rfl
@[simp] theorem G_32 : G.get 32 = some t32 := rfl
@[simp] theorem G_33 : G.get 33 = some t33 := rfl
@[simp] theorem G_34 : G.get 34 = some t34 := rfl
@[simp] theorem G_35 : G.get 35 = some t35 := rfl
@[simp] theorem G_37 : G.get 37 = some t37 := rfl
@[simp] theorem G_41 : G.get 41 = some t41 := rfl
@[simp] theorem G_42 : G.get 42 = some t42 := rfl
@[simp] theorem G_43 : G.get 43 = some t43 := rfl
@[simp] theorem G_50 : G.get 50 = some t50 := rfl
@[simp] theorem G_51 : G.get 51 = some t51 := rfl
@[simp] theorem G_53 : G.get 53 = some t53 := rfl
@[simp] theorem G_56 : G.get 56 = some t56 := rfl
@[simp] theorem G_57 : G.get 57 = some t57 := rfl
@[simp] theorem G_58 : G.get 58 = some t58 := rfl
@[simp] theorem G_60 : G.get 60 = some t60 := rfl
@[simp] theorem G_64 : G.get 64 = some t64 := rfl
@[simp] theorem G_69 : G.get 69 = some t69 := rfl
@[simp] theorem G_71 : G.get 71 = some t71 := rfl
@[simp] theorem G_78 : G.get 78 = some t78 := rfl
@[simp] theorem G_80 : G.get 80 = some t80 := rfl
@[simp] theorem G_89 : G.get 89 = some t89 := rfl
@[simp] theorem G_94 : G.get 94 = some t94 := rfl
@[simp] theorem G_95 : G.get 95 = some t95 := rfl
@[simp] theorem G_96 : G.get 96 = some t96 := rfl
@[simp] theorem G_98 : G.get 98 = some t98 := rfl
@[simp] theorem G_102 : G.get 102 = some t102 := rfl
@[simp] theorem G_107 : G.get 107 = some t107 := rfl
@[simp] theorem G_112 : G.get 112 = some t112 := rfl
@[simp] theorem G_114 : G.get 114 = some t114 := rfl
@[simp] theorem G_123 : G.get 123 = some t123 := rfl
@[simp] theorem G_124 : G.get 124 = some t124 := rfl
@[simp] theorem G_125 : G.get 125 = some t125 := rfl
@[simp] theorem G_130 : G.get 130 = some t130 := rfl
@[simp] theorem G_133 : G.get 133 = some t133 := rfl
@[simp] theorem G_134 : G.get 134 = some t134 := rfl
@[simp] theorem G_135 : G.get 135 = some t135 := rfl
@[simp] theorem G_141 : G.get 141 = some t141 := rfl
@[simp] theorem G_142 : G.get 142 = some t142 := rfl
@[simp] theorem G_144 : G.get 144 = some t144 := rfl
@[simp] theorem G_147 : G.get 147 = some t147 := rfl
@[simp] theorem G_148 : G.get 148 = some t148 := rfl
@[simp] theorem G_150 : G.get 150 = some t150 := rfl
@[simp] theorem G_157 : G.get 157 = some t157 := rfl
@[simp] theorem G_158 : G.get 158 = some t158 := rfl
@[simp] theorem G_159 : G.get 159 = some t159 := rfl
@[simp] theorem G_160 : G.get 160 = some t160 := rfl
@[simp] theorem G_161 : G.get 161 = some t161 := rfl
@[simp] theorem G_168 : G.get 168 = some t168 := rfl
@[simp] theorem G_169 : G.get 169 = some t169 := rfl
@[simp] theorem G_170 : G.get 170 = some t170 := rfl
@[simp] theorem G_172 : G.get 172 = some t172 := rfl
@[simp] theorem G_184 : G.get 184 = some t184 := rfl
@[simp] theorem G_185 : G.get 185 = some t185 := rfl
@[simp] theorem G_186 : G.get 186 = some t186 := rfl
@[simp] theorem G_187 : G.get 187 = some t187 := rfl
@[simp] theorem G_191 : G.get 191 = some t191 := rfl
@[simp] theorem G_194 : G.get 194 = some t194 := rfl
@[simp] theorem G_197 : G.get 197 = some t197 := rfl
@[simp] theorem G_210 : G.get 210 = some t210 := rfl
@[simp] theorem G_213 : G.get 213 = some t213 := rfl
@[simp] theorem G_214 : G.get 214 = some t214 := rfl
@[simp] theorem G_217 : G.get 217 = some t217 := rfl
@[simp] theorem G_227 : G.get 227 = some t227 := rfl
theorem G_ok : G.ok Try.prog := by
  intro p hp
  simp only [G, List.mem_cons, List.not_mem_nil, or_false] at hp
  rcases hp with rfl | rfl | rfl | rfl | rfl | rfl | rfl | rfl | rfl | rfl | rfl | rfl | rfl | rfl | rfl | rfl | rfl | rfl | rfl | rfl | rfl | rfl | rfl | rfl | rfl | rfl | rfl | rfl | rfl | rfl | rfl | rfl | rfl | rfl | rfl | rfl | rfl | rfl | rfl | rfl | rfl | rfl | rfl | rfl | rfl | rfl | rfl | rfl | rfl | rfl | rfl | rfl | rfl | rfl | rfl | rfl | rfl | rfl | rfl | rfl | rfl | rfl | rfl | rfl | rfl | rfl | rfl | rfl | rfl | rfl | rfl | rfl | rfl | rfl
  · exact t2_ok
  · exact t3_ok
  · exact t4_ok
  · exact t5_ok
  · exact t9_ok
  · exact t12_ok
  · exact t20_ok
  · exact t21_ok
  · exact t22_ok
  · exact t23_ok
  · exact t31_ok
  · exact t32_ok
  · exact t33_ok
  · exact t34_ok
  · exact t35_ok
  · exact t37_ok
  · exact t41_ok
  · exact t42_ok
  · exact t43_ok
  · exact t50_ok
  · exact t51_ok
  · exact t53_ok
  · exact t56_ok
  · exact t57_ok
  · exact t58_ok
  · exact t60_ok
  · exact t64_ok
  · exact t69_ok
  · exact t71_ok
  · exact t78_ok
  · exact t80_ok
  · exact t89_ok
  · exact t94_ok
  · exact t95_ok
  · exact t96_ok
  · exact t98_ok
  · exact t102_ok
  · exact t107_ok
  · exact t112_ok
  · exact t114_ok
  · exact t123_ok
  · exact t124_ok
  · exact t125_ok
  · exact t130_ok
  · exact t133_ok
  · exact t134_ok
  · exact t135_ok
  · exact t141_ok
  · exact t142_ok
  · exact t144_ok
  · exact t147_ok
  · exact t148_ok
  · exact t150_ok
  · exact t157_ok
  · exact t158_ok
  · exact t159_ok
  · exact t160_ok
  · exact t161_ok
  · exact t168_ok
  · exact t169_ok
  · exact t170_ok
  · exact t172_ok
  · exact t184_ok
  · exact t185_ok
  · exact t186_ok
  · exact t187_ok
  · exact t191_ok
  · exact t194_ok
  · exact t197_ok
  · exact t210_ok
  · exact t213_ok
  · exact t214_ok
  · exact t217_ok
  · exact t227_ok
theorem mix : Try.prog.follows .mixedOrders = true := by kernel_rfl
end Go.Proofs.Ytkccphdoolpmaaa
