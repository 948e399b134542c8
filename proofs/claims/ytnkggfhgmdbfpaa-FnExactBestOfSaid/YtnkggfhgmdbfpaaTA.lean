/- What is known of the types of this program: their sizes, zero values and parts. -/
import Derived.Test.YtnkggfhgmdbfpaaProg
import Derived.Test.YtnkggfhgmdbfpaaTY
import Derived.KernelRfl
namespace Go.Proofs.Ytnkggfhgmdbfpaa
open Go Go.Eng
set_option linter.unusedSimpArgs false
set_option linter.unusedVariables false
set_option maxRecDepth 20000
/-- int64 -/
def t2 : TI := ⟨1, 8, .int .i64 0, .lit (.int .i64 0), .lit (.int .i64 0), .int .i64, false⟩
@[simp] theorem t2_size : t2.size = 1 := rfl
@[simp] theorem t2_bytes : t2.bytes = 8 := rfl
@[simp] theorem t2_z : t2.z = .lit (.int .i64 0) := rfl
@[simp] theorem t2_y : t2.y = .lit (.int .i64 0) := rfl
@[simp] theorem t2_kind : t2.kind = .int .i64 := rfl
@[simp] theorem t2_cmp : t2.cmp = false := rfl
/-- int -/
def t3 : TI := ⟨1, 8, .int .i64 0, .lit (.int .i64 0), .lit (.int .i64 0), .int .i64, false⟩
@[simp] theorem t3_size : t3.size = 1 := rfl
@[simp] theorem t3_bytes : t3.bytes = 8 := rfl
@[simp] theorem t3_z : t3.z = .lit (.int .i64 0) := rfl
@[simp] theorem t3_y : t3.y = .lit (.int .i64 0) := rfl
@[simp] theorem t3_kind : t3.kind = .int .i64 := rfl
@[simp] theorem t3_cmp : t3.cmp = false := rfl
/-- bool -/
def t4 : TI := ⟨1, 1, .bool false, .lit (.bool false), .lit (.bool false), .bool, false⟩
@[simp] theorem t4_size : t4.size = 1 := rfl
@[simp] theorem t4_bytes : t4.bytes = 1 := rfl
@[simp] theorem t4_z : t4.z = .lit (.bool false) := rfl
@[simp] theorem t4_y : t4.y = .lit (.bool false) := rfl
@[simp] theorem t4_kind : t4.kind = .bool := rfl
@[simp] theorem t4_cmp : t4.cmp = false := rfl
/-- uint8 -/
def t5 : TI := ⟨1, 1, .int .u8 0, .lit (.int .u8 0), .lit (.int .u8 0), .int .u8, false⟩
@[simp] theorem t5_size : t5.size = 1 := rfl
@[simp] theorem t5_bytes : t5.bytes = 1 := rfl
@[simp] theorem t5_z : t5.z = .lit (.int .u8 0) := rfl
@[simp] theorem t5_y : t5.y = .lit (.int .u8 0) := rfl
@[simp] theorem t5_kind : t5.kind = .int .u8 := rfl
@[simp] theorem t5_cmp : t5.cmp = false := rfl
/-- string -/
def t9 : TI := ⟨1, 16, .string ⟨#[]⟩, .lit (.string ⟨#[]⟩), .lit (.string ⟨#[]⟩), .str, false⟩
@[simp] theorem t9_size : t9.size = 1 := rfl
@[simp] theorem t9_bytes : t9.bytes = 16 := rfl
@[simp] theorem t9_z : t9.z = .lit (.string ⟨#[]⟩) := rfl
@[simp] theorem t9_y : t9.y = .lit (.string ⟨#[]⟩) := rfl
@[simp] theorem t9_kind : t9.kind = .str := rfl
@[simp] theorem t9_cmp : t9.cmp = false := rfl
/-- uintptr -/
def t12 : TI := ⟨1, 8, .int .u64 0, .lit (.int .u64 0), .lit (.int .u64 0), .int .u64, false⟩
@[simp] theorem t12_size : t12.size = 1 := rfl
@[simp] theorem t12_bytes : t12.bytes = 8 := rfl
@[simp] theorem t12_z : t12.z = .lit (.int .u64 0) := rfl
@[simp] theorem t12_y : t12.y = .lit (.int .u64 0) := rfl
@[simp] theorem t12_kind : t12.kind = .int .u64 := rfl
@[simp] theorem t12_cmp : t12.cmp = false := rfl
/-- interface {} -/
def t20 : TI := ⟨1, 16, .nilIface, .lit .nilIface, .lit .nilIface, .iface, false⟩
@[simp] theorem t20_size : t20.size = 1 := rfl
@[simp] theorem t20_bytes : t20.bytes = 16 := rfl
@[simp] theorem t20_z : t20.z = .lit .nilIface := rfl
@[simp] theorem t20_y : t20.y = .lit .nilIface := rfl
@[simp] theorem t20_kind : t20.kind = .iface := rfl
@[simp] theorem t20_cmp : t20.cmp = false := rfl
/-- int32 -/
def t21 : TI := ⟨1, 4, .int .i32 0, .lit (.int .i32 0), .lit (.int .i32 0), .int .i32, false⟩
@[simp] theorem t21_size : t21.size = 1 := rfl
@[simp] theorem t21_bytes : t21.bytes = 4 := rfl
@[simp] theorem t21_z : t21.z = .lit (.int .i32 0) := rfl
@[simp] theorem t21_y : t21.y = .lit (.int .i32 0) := rfl
@[simp] theorem t21_kind : t21.kind = .int .i32 := rfl
@[simp] theorem t21_cmp : t21.cmp = false := rfl
/-- []uint8 -/
def t22 : TI := ⟨1, 24, .slice none 0 0, .sl true 0 .any [], yLU, .slice 5, false⟩
@[simp] theorem t22_size : t22.size = 1 := rfl
@[simp] theorem t22_bytes : t22.bytes = 24 := rfl
@[simp] theorem t22_z : t22.z = .sl true 0 .any [] := rfl
@[simp] theorem t22_y : t22.y = yLU := rfl
@[simp] theorem t22_kind : t22.kind = .slice 5 := rfl
@[simp] theorem t22_cmp : t22.cmp = false := rfl
/-- []int -/
def t34 : TI := ⟨1, 24, .slice none 0 0, .sl true 0 .any [], yLI, .slice 3, false⟩
@[simp] theorem t34_size : t34.size = 1 := rfl
@[simp] theorem t34_bytes : t34.bytes = 24 := rfl
@[simp] theorem t34_z : t34.z = .sl true 0 .any [] := rfl
@[simp] theorem t34_y : t34.y = yLI := rfl
@[simp] theorem t34_kind : t34.kind = .slice 3 := rfl
@[simp] theorem t34_cmp : t34.cmp = false := rfl
/-- struct { From int; Until int } -/
def t42 : TI := ⟨2, 16, .agg #[.int .i64 0, .int .i64 0], .agg [.lit (.int .i64 0), .lit (.int .i64 0)], yTSpan, .st [(0, 3), (1, 3)], true⟩
@[simp] theorem t42_size : t42.size = 2 := rfl
@[simp] theorem t42_bytes : t42.bytes = 16 := rfl
@[simp] theorem t42_z : t42.z = .agg [.lit (.int .i64 0), .lit (.int .i64 0)] := rfl
@[simp] theorem t42_y : t42.y = yTSpan := rfl
@[simp] theorem t42_kind : t42.kind = .st [(0, 3), (1, 3)] := rfl
@[simp] theorem t42_cmp : t42.cmp = true := rfl
/-- laws.Span = loop.example/g03007/laws.Span -/
def t43 : TI := ⟨2, 16, .agg #[.int .i64 0, .int .i64 0], .agg [.lit (.int .i64 0), .lit (.int .i64 0)], yTSpan, .st [(0, 3), (1, 3)], true⟩
@[simp] theorem t43_size : t43.size = 2 := rfl
@[simp] theorem t43_bytes : t43.bytes = 16 := rfl
@[simp] theorem t43_z : t43.z = .agg [.lit (.int .i64 0), .lit (.int .i64 0)] := rfl
@[simp] theorem t43_y : t43.y = yTSpan := rfl
@[simp] theorem t43_kind : t43.kind = .st [(0, 3), (1, 3)] := rfl
@[simp] theorem t43_cmp : t43.cmp = true := rfl
/-- struct { Id int; Kind int; Colours []int; SizeLow int; SizeHigh int; Places []int; Span laws.Span } -/
def t44 : TI := ⟨8, 96, .agg #[.int .i64 0, .int .i64 0, .slice none 0 0, .int .i64 0, .int .i64 0, .slice none 0 0, .int .i64 0, .int .i64 0], .agg [.lit (.int .i64 0), .lit (.int .i64 0), .sl true 0 .any [], .lit (.int .i64 0), .lit (.int .i64 0), .sl true 0 .any [], .lit (.int .i64 0), .lit (.int .i64 0)], yTReport, .st [(0, 3), (1, 3), (2, 34), (3, 3), (4, 3), (5, 34), (6, 43)], false⟩
@[simp] theorem t44_size : t44.size = 8 := rfl
@[simp] theorem t44_bytes : t44.bytes = 96 := rfl
@[simp] theorem t44_z : t44.z = .agg [.lit (.int .i64 0), .lit (.int .i64 0), .sl true 0 .any [], .lit (.int .i64 0), .lit (.int .i64 0), .sl true 0 .any [], .lit (.int .i64 0), .lit (.int .i64 0)] := rfl
@[simp] theorem t44_y : t44.y = yTReport := rfl
@[simp] theorem t44_kind : t44.kind = .st [(0, 3), (1, 3), (2, 34), (3, 3), (4, 3), (5, 34), (6, 43)] := rfl
@[simp] theorem t44_cmp : t44.cmp = false := rfl
/-- laws.Report = loop.example/g03007/laws.Report -/
def t45 : TI := ⟨8, 96, .agg #[.int .i64 0, .int .i64 0, .slice none 0 0, .int .i64 0, .int .i64 0, .slice none 0 0, .int .i64 0, .int .i64 0], .agg [.lit (.int .i64 0), .lit (.int .i64 0), .sl true 0 .any [], .lit (.int .i64 0), .lit (.int .i64 0), .sl true 0 .any [], .lit (.int .i64 0), .lit (.int .i64 0)], yTReport, .st [(0, 3), (1, 3), (2, 34), (3, 3), (4, 3), (5, 34), (6, 43)], false⟩
@[simp] theorem t45_size : t45.size = 8 := rfl
@[simp] theorem t45_bytes : t45.bytes = 96 := rfl
@[simp] theorem t45_z : t45.z = .agg [.lit (.int .i64 0), .lit (.int .i64 0), .sl true 0 .any [], .lit (.int .i64 0), .lit (.int .i64 0), .sl true 0 .any [], .lit (.int .i64 0), .lit (.int .i64 0)] := rfl
@[simp] theorem t45_y : t45.y = yTReport := rfl
@[simp] theorem t45_kind : t45.kind = .st [(0, 3), (1, 3), (2, 34), (3, 3), (4, 3), (5, 34), (6, 43)] := rfl
@[simp] theorem t45_cmp : t45.cmp = false := rfl
/-- []laws.Find -/
def t46 : TI := ⟨1, 24, .slice none 0 0, .sl true 0 .any [], yLTFind, .slice 62, false⟩
@[simp] theorem t46_size : t46.size = 1 := rfl
@[simp] theorem t46_bytes : t46.bytes = 24 := rfl
@[simp] theorem t46_z : t46.z = .sl true 0 .any [] := rfl
@[simp] theorem t46_y : t46.y = yLTFind := rfl
@[simp] theorem t46_kind : t46.kind = .slice 62 := rfl
@[simp] theorem t46_cmp : t46.cmp = false := rfl
/-- impl.Span = loop.example/g03007/impl.Span -/
def t50 : TI := ⟨2, 16, .agg #[.int .i64 0, .int .i64 0], .agg [.lit (.int .i64 0), .lit (.int .i64 0)], yTSpan, .st [(0, 3), (1, 3)], true⟩
@[simp] theorem t50_size : t50.size = 2 := rfl
@[simp] theorem t50_bytes : t50.bytes = 16 := rfl
@[simp] theorem t50_z : t50.z = .agg [.lit (.int .i64 0), .lit (.int .i64 0)] := rfl
@[simp] theorem t50_y : t50.y = yTSpan := rfl
@[simp] theorem t50_kind : t50.kind = .st [(0, 3), (1, 3)] := rfl
@[simp] theorem t50_cmp : t50.cmp = true := rfl
/-- struct { Id int; Kind int; Colours []int; SizeLow int; SizeHigh int; Places []int; Span impl.Span } -/
def t51 : TI := ⟨8, 96, .agg #[.int .i64 0, .int .i64 0, .slice none 0 0, .int .i64 0, .int .i64 0, .slice none 0 0, .int .i64 0, .int .i64 0], .agg [.lit (.int .i64 0), .lit (.int .i64 0), .sl true 0 .any [], .lit (.int .i64 0), .lit (.int .i64 0), .sl true 0 .any [], .lit (.int .i64 0), .lit (.int .i64 0)], yTReport, .st [(0, 3), (1, 3), (2, 34), (3, 3), (4, 3), (5, 34), (6, 50)], false⟩
@[simp] theorem t51_size : t51.size = 8 := rfl
@[simp] theorem t51_bytes : t51.bytes = 96 := rfl
@[simp] theorem t51_z : t51.z = .agg [.lit (.int .i64 0), .lit (.int .i64 0), .sl true 0 .any [], .lit (.int .i64 0), .lit (.int .i64 0), .sl true 0 .any [], .lit (.int .i64 0), .lit (.int .i64 0)] := rfl
@[simp] theorem t51_y : t51.y = yTReport := rfl
@[simp] theorem t51_kind : t51.kind = .st [(0, 3), (1, 3), (2, 34), (3, 3), (4, 3), (5, 34), (6, 50)] := rfl
@[simp] theorem t51_cmp : t51.cmp = false := rfl
/-- impl.Report = loop.example/g03007/impl.Report -/
def t52 : TI := ⟨8, 96, .agg #[.int .i64 0, .int .i64 0, .slice none 0 0, .int .i64 0, .int .i64 0, .slice none 0 0, .int .i64 0, .int .i64 0], .agg [.lit (.int .i64 0), .lit (.int .i64 0), .sl true 0 .any [], .lit (.int .i64 0), .lit (.int .i64 0), .sl true 0 .any [], .lit (.int .i64 0), .lit (.int .i64 0)], yTReport, .st [(0, 3), (1, 3), (2, 34), (3, 3), (4, 3), (5, 34), (6, 50)], false⟩
@[simp] theorem t52_size : t52.size = 8 := rfl
@[simp] theorem t52_bytes : t52.bytes = 96 := rfl
@[simp] theorem t52_z : t52.z = .agg [.lit (.int .i64 0), .lit (.int .i64 0), .sl true 0 .any [], .lit (.int .i64 0), .lit (.int .i64 0), .sl true 0 .any [], .lit (.int .i64 0), .lit (.int .i64 0)] := rfl
@[simp] theorem t52_y : t52.y = yTReport := rfl
@[simp] theorem t52_kind : t52.kind = .st [(0, 3), (1, 3), (2, 34), (3, 3), (4, 3), (5, 34), (6, 50)] := rfl
@[simp] theorem t52_cmp : t52.cmp = false := rfl
/-- []impl.Find -/
def t54 : TI := ⟨1, 24, .slice none 0 0, .sl true 0 .any [], yLTFind, .slice 70, false⟩
@[simp] theorem t54_size : t54.size = 1 := rfl
@[simp] theorem t54_bytes : t54.bytes = 24 := rfl
@[simp] theorem t54_z : t54.z = .sl true 0 .any [] := rfl
@[simp] theorem t54_y : t54.y = yLTFind := rfl
@[simp] theorem t54_kind : t54.kind = .slice 70 := rfl
@[simp] theorem t54_cmp : t54.cmp = false := rfl
/-- struct { Id int; Kind int; Colour int; Size int; Worth int } -/
def t59 : TI := ⟨5, 40, .agg #[.int .i64 0, .int .i64 0, .int .i64 0, .int .i64 0, .int .i64 0], .agg [.lit (.int .i64 0), .lit (.int .i64 0), .lit (.int .i64 0), .lit (.int .i64 0), .lit (.int .i64 0)], yTThing, .st [(0, 3), (1, 3), (2, 3), (3, 3), (4, 3)], true⟩
@[simp] theorem t59_size : t59.size = 5 := rfl
@[simp] theorem t59_bytes : t59.bytes = 40 := rfl
@[simp] theorem t59_z : t59.z = .agg [.lit (.int .i64 0), .lit (.int .i64 0), .lit (.int .i64 0), .lit (.int .i64 0), .lit (.int .i64 0)] := rfl
@[simp] theorem t59_y : t59.y = yTThing := rfl
@[simp] theorem t59_kind : t59.kind = .st [(0, 3), (1, 3), (2, 3), (3, 3), (4, 3)] := rfl
@[simp] theorem t59_cmp : t59.cmp = true := rfl
/-- laws.Thing = loop.example/g03007/laws.Thing -/
def t60 : TI := ⟨5, 40, .agg #[.int .i64 0, .int .i64 0, .int .i64 0, .int .i64 0, .int .i64 0], .agg [.lit (.int .i64 0), .lit (.int .i64 0), .lit (.int .i64 0), .lit (.int .i64 0), .lit (.int .i64 0)], yTThing, .st [(0, 3), (1, 3), (2, 3), (3, 3), (4, 3)], true⟩
@[simp] theorem t60_size : t60.size = 5 := rfl
@[simp] theorem t60_bytes : t60.bytes = 40 := rfl
@[simp] theorem t60_z : t60.z = .agg [.lit (.int .i64 0), .lit (.int .i64 0), .lit (.int .i64 0), .lit (.int .i64 0), .lit (.int .i64 0)] := rfl
@[simp] theorem t60_y : t60.y = yTThing := rfl
@[simp] theorem t60_kind : t60.kind = .st [(0, 3), (1, 3), (2, 3), (3, 3), (4, 3)] := rfl
@[simp] theorem t60_cmp : t60.cmp = true := rfl
/-- struct { Thing laws.Thing; Place int; At int; Finder int } -/
def t61 : TI := ⟨8, 64, .agg #[.int .i64 0, .int .i64 0, .int .i64 0, .int .i64 0, .int .i64 0, .int .i64 0, .int .i64 0, .int .i64 0], .agg [.lit (.int .i64 0), .lit (.int .i64 0), .lit (.int .i64 0), .lit (.int .i64 0), .lit (.int .i64 0), .lit (.int .i64 0), .lit (.int .i64 0), .lit (.int .i64 0)], yTFind, .st [(0, 60), (5, 3), (6, 3), (7, 3)], true⟩
@[simp] theorem t61_size : t61.size = 8 := rfl
@[simp] theorem t61_bytes : t61.bytes = 64 := rfl
@[simp] theorem t61_z : t61.z = .agg [.lit (.int .i64 0), .lit (.int .i64 0), .lit (.int .i64 0), .lit (.int .i64 0), .lit (.int .i64 0), .lit (.int .i64 0), .lit (.int .i64 0), .lit (.int .i64 0)] := rfl
@[simp] theorem t61_y : t61.y = yTFind := rfl
@[simp] theorem t61_kind : t61.kind = .st [(0, 60), (5, 3), (6, 3), (7, 3)] := rfl
@[simp] theorem t61_cmp : t61.cmp = true := rfl
/-- laws.Find = loop.example/g03007/laws.Find -/
def t62 : TI := ⟨8, 64, .agg #[.int .i64 0, .int .i64 0, .int .i64 0, .int .i64 0, .int .i64 0, .int .i64 0, .int .i64 0, .int .i64 0], .agg [.lit (.int .i64 0), .lit (.int .i64 0), .lit (.int .i64 0), .lit (.int .i64 0), .lit (.int .i64 0), .lit (.int .i64 0), .lit (.int .i64 0), .lit (.int .i64 0)], yTFind, .st [(0, 60), (5, 3), (6, 3), (7, 3)], true⟩
@[simp] theorem t62_size : t62.size = 8 := rfl
@[simp] theorem t62_bytes : t62.bytes = 64 := rfl
@[simp] theorem t62_z : t62.z = .agg [.lit (.int .i64 0), .lit (.int .i64 0), .lit (.int .i64 0), .lit (.int .i64 0), .lit (.int .i64 0), .lit (.int .i64 0), .lit (.int .i64 0), .lit (.int .i64 0)] := rfl
@[simp] theorem t62_y : t62.y = yTFind := rfl
@[simp] theorem t62_kind : t62.kind = .st [(0, 60), (5, 3), (6, 3), (7, 3)] := rfl
@[simp] theorem t62_cmp : t62.cmp = true := rfl
/-- struct { Colours []int; Size int; Places []int; Hours int } -/
def t63 : TI := ⟨4, 64, .agg #[.slice none 0 0, .int .i64 0, .slice none 0 0, .int .i64 0], .agg [.sl true 0 .any [], .lit (.int .i64 0), .sl true 0 .any [], .lit (.int .i64 0)], yTDoubt, .st [(0, 34), (1, 3), (2, 34), (3, 3)], false⟩
@[simp] theorem t63_size : t63.size = 4 := rfl
@[simp] theorem t63_bytes : t63.bytes = 64 := rfl
@[simp] theorem t63_z : t63.z = .agg [.sl true 0 .any [], .lit (.int .i64 0), .sl true 0 .any [], .lit (.int .i64 0)] := rfl
@[simp] theorem t63_y : t63.y = yTDoubt := rfl
@[simp] theorem t63_kind : t63.kind = .st [(0, 34), (1, 3), (2, 34), (3, 3)] := rfl
@[simp] theorem t63_cmp : t63.cmp = false := rfl
/-- laws.Doubt = loop.example/g03007/laws.Doubt -/
def t64 : TI := ⟨4, 64, .agg #[.slice none 0 0, .int .i64 0, .slice none 0 0, .int .i64 0], .agg [.sl true 0 .any [], .lit (.int .i64 0), .sl true 0 .any [], .lit (.int .i64 0)], yTDoubt, .st [(0, 34), (1, 3), (2, 34), (3, 3)], false⟩
@[simp] theorem t64_size : t64.size = 4 := rfl
@[simp] theorem t64_bytes : t64.bytes = 64 := rfl
@[simp] theorem t64_z : t64.z = .agg [.sl true 0 .any [], .lit (.int .i64 0), .sl true 0 .any [], .lit (.int .i64 0)] := rfl
@[simp] theorem t64_y : t64.y = yTDoubt := rfl
@[simp] theorem t64_kind : t64.kind = .st [(0, 34), (1, 3), (2, 34), (3, 3)] := rfl
@[simp] theorem t64_cmp : t64.cmp = false := rfl
/-- impl.Thing = loop.example/g03007/impl.Thing -/
def t68 : TI := ⟨5, 40, .agg #[.int .i64 0, .int .i64 0, .int .i64 0, .int .i64 0, .int .i64 0], .agg [.lit (.int .i64 0), .lit (.int .i64 0), .lit (.int .i64 0), .lit (.int .i64 0), .lit (.int .i64 0)], yTThing, .st [(0, 3), (1, 3), (2, 3), (3, 3), (4, 3)], true⟩
@[simp] theorem t68_size : t68.size = 5 := rfl
@[simp] theorem t68_bytes : t68.bytes = 40 := rfl
@[simp] theorem t68_z : t68.z = .agg [.lit (.int .i64 0), .lit (.int .i64 0), .lit (.int .i64 0), .lit (.int .i64 0), .lit (.int .i64 0)] := rfl
@[simp] theorem t68_y : t68.y = yTThing := rfl
@[simp] theorem t68_kind : t68.kind = .st [(0, 3), (1, 3), (2, 3), (3, 3), (4, 3)] := rfl
@[simp] theorem t68_cmp : t68.cmp = true := rfl
/-- struct { Thing impl.Thing; Place int; At int; Finder int } -/
def t69 : TI := ⟨8, 64, .agg #[.int .i64 0, .int .i64 0, .int .i64 0, .int .i64 0, .int .i64 0, .int .i64 0, .int .i64 0, .int .i64 0], .agg [.lit (.int .i64 0), .lit (.int .i64 0), .lit (.int .i64 0), .lit (.int .i64 0), .lit (.int .i64 0), .lit (.int .i64 0), .lit (.int .i64 0), .lit (.int .i64 0)], yTFind, .st [(0, 68), (5, 3), (6, 3), (7, 3)], true⟩
@[simp] theorem t69_size : t69.size = 8 := rfl
@[simp] theorem t69_bytes : t69.bytes = 64 := rfl
@[simp] theorem t69_z : t69.z = .agg [.lit (.int .i64 0), .lit (.int .i64 0), .lit (.int .i64 0), .lit (.int .i64 0), .lit (.int .i64 0), .lit (.int .i64 0), .lit (.int .i64 0), .lit (.int .i64 0)] := rfl
@[simp] theorem t69_y : t69.y = yTFind := rfl
@[simp] theorem t69_kind : t69.kind = .st [(0, 68), (5, 3), (6, 3), (7, 3)] := rfl
@[simp] theorem t69_cmp : t69.cmp = true := rfl
/-- impl.Find = loop.example/g03007/impl.Find -/
def t70 : TI := ⟨8, 64, .agg #[.int .i64 0, .int .i64 0, .int .i64 0, .int .i64 0, .int .i64 0, .int .i64 0, .int .i64 0, .int .i64 0], .agg [.lit (.int .i64 0), .lit (.int .i64 0), .lit (.int .i64 0), .lit (.int .i64 0), .lit (.int .i64 0), .lit (.int .i64 0), .lit (.int .i64 0), .lit (.int .i64 0)], yTFind, .st [(0, 68), (5, 3), (6, 3), (7, 3)], true⟩
@[simp] theorem t70_size : t70.size = 8 := rfl
@[simp] theorem t70_bytes : t70.bytes = 64 := rfl
@[simp] theorem t70_z : t70.z = .agg [.lit (.int .i64 0), .lit (.int .i64 0), .lit (.int .i64 0), .lit (.int .i64 0), .lit (.int .i64 0), .lit (.int .i64 0), .lit (.int .i64 0), .lit (.int .i64 0)] := rfl
@[simp] theorem t70_y : t70.y = yTFind := rfl
@[simp] theorem t70_kind : t70.kind = .st [(0, 68), (5, 3), (6, 3), (7, 3)] := rfl
@[simp] theorem t70_cmp : t70.cmp = true := rfl
/-- impl.Doubt = loop.example/g03007/impl.Doubt -/
def t72 : TI := ⟨4, 64, .agg #[.slice none 0 0, .int .i64 0, .slice none 0 0, .int .i64 0], .agg [.sl true 0 .any [], .lit (.int .i64 0), .sl true 0 .any [], .lit (.int .i64 0)], yTDoubt, .st [(0, 34), (1, 3), (2, 34), (3, 3)], false⟩
@[simp] theorem t72_size : t72.size = 4 := rfl
@[simp] theorem t72_bytes : t72.bytes = 64 := rfl
@[simp] theorem t72_z : t72.z = .agg [.sl true 0 .any [], .lit (.int .i64 0), .sl true 0 .any [], .lit (.int .i64 0)] := rfl
@[simp] theorem t72_y : t72.y = yTDoubt := rfl
@[simp] theorem t72_kind : t72.kind = .st [(0, 34), (1, 3), (2, 34), (3, 3)] := rfl
@[simp] theorem t72_cmp : t72.cmp = false := rfl
/-- []laws.Slot -/
def t81 : TI := ⟨1, 24, .slice none 0 0, .sl true 0 .any [], yLTSlot, .slice 164, false⟩
@[simp] theorem t81_size : t81.size = 1 := rfl
@[simp] theorem t81_bytes : t81.bytes = 24 := rfl
@[simp] theorem t81_z : t81.z = .sl true 0 .any [] := rfl
@[simp] theorem t81_y : t81.y = yLTSlot := rfl
@[simp] theorem t81_kind : t81.kind = .slice 164 := rfl
@[simp] theorem t81_cmp : t81.cmp = false := rfl
/-- []laws.Thing -/
def t82 : TI := ⟨1, 24, .slice none 0 0, .sl true 0 .any [], yLTThing, .slice 60, false⟩
@[simp] theorem t82_size : t82.size = 1 := rfl
@[simp] theorem t82_bytes : t82.bytes = 24 := rfl
@[simp] theorem t82_z : t82.z = .sl true 0 .any [] := rfl
@[simp] theorem t82_y : t82.y = yLTThing := rfl
@[simp] theorem t82_kind : t82.kind = .slice 60 := rfl
@[simp] theorem t82_cmp : t82.cmp = false := rfl
/-- []impl.Slot -/
def t86 : TI := ⟨1, 24, .slice none 0 0, .sl true 0 .any [], yLTSlot, .slice 162, false⟩
@[simp] theorem t86_size : t86.size = 1 := rfl
@[simp] theorem t86_bytes : t86.bytes = 24 := rfl
@[simp] theorem t86_z : t86.z = .sl true 0 .any [] := rfl
@[simp] theorem t86_y : t86.y = yLTSlot := rfl
@[simp] theorem t86_kind : t86.kind = .slice 162 := rfl
@[simp] theorem t86_cmp : t86.cmp = false := rfl
/-- []impl.Thing -/
def t88 : TI := ⟨1, 24, .slice none 0 0, .sl true 0 .any [], yLTThing, .slice 68, false⟩
@[simp] theorem t88_size : t88.size = 1 := rfl
@[simp] theorem t88_bytes : t88.bytes = 24 := rfl
@[simp] theorem t88_z : t88.z = .sl true 0 .any [] := rfl
@[simp] theorem t88_y : t88.y = yLTThing := rfl
@[simp] theorem t88_kind : t88.kind = .slice 68 := rfl
@[simp] theorem t88_cmp : t88.cmp = false := rfl
/-- []laws.Bid -/
def t93 : TI := ⟨1, 24, .slice none 0 0, .sl true 0 .any [], yLTBid, .slice 172, false⟩
@[simp] theorem t93_size : t93.size = 1 := rfl
@[simp] theorem t93_bytes : t93.bytes = 24 := rfl
@[simp] theorem t93_z : t93.z = .sl true 0 .any [] := rfl
@[simp] theorem t93_y : t93.y = yLTBid := rfl
@[simp] theorem t93_kind : t93.kind = .slice 172 := rfl
@[simp] theorem t93_cmp : t93.cmp = false := rfl
/-- []impl.Bid -/
def t97 : TI := ⟨1, 24, .slice none 0 0, .sl true 0 .any [], yLTBid, .slice 170, false⟩
@[simp] theorem t97_size : t97.size = 1 := rfl
@[simp] theorem t97_bytes : t97.bytes = 24 := rfl
@[simp] theorem t97_z : t97.z = .sl true 0 .any [] := rfl
@[simp] theorem t97_y : t97.y = yLTBid := rfl
@[simp] theorem t97_kind : t97.kind = .slice 170 := rfl
@[simp] theorem t97_cmp : t97.cmp = false := rfl
/-- []bool -/
def t104 : TI := ⟨1, 24, .slice none 0 0, .sl true 0 .any [], yLB, .slice 4, false⟩
@[simp] theorem t104_size : t104.size = 1 := rfl
@[simp] theorem t104_bytes : t104.bytes = 24 := rfl
@[simp] theorem t104_z : t104.z = .sl true 0 .any [] := rfl
@[simp] theorem t104_y : t104.y = yLB := rfl
@[simp] theorem t104_kind : t104.kind = .slice 4 := rfl
@[simp] theorem t104_cmp : t104.cmp = false := rfl
/-- []laws.Secret -/
def t112 : TI := ⟨1, 24, .slice none 0 0, .sl true 0 .any [], yLTSecret, .slice 242, false⟩
@[simp] theorem t112_size : t112.size = 1 := rfl
@[simp] theorem t112_bytes : t112.bytes = 24 := rfl
@[simp] theorem t112_z : t112.z = .sl true 0 .any [] := rfl
@[simp] theorem t112_y : t112.y = yLTSecret := rfl
@[simp] theorem t112_kind : t112.kind = .slice 242 := rfl
@[simp] theorem t112_cmp : t112.cmp = false := rfl
/-- []laws.Claim -/
def t113 : TI := ⟨1, 24, .slice none 0 0, .sl true 0 .any [], yLTClaim, .slice 249, false⟩
@[simp] theorem t113_size : t113.size = 1 := rfl
@[simp] theorem t113_bytes : t113.bytes = 24 := rfl
@[simp] theorem t113_z : t113.z = .sl true 0 .any [] := rfl
@[simp] theorem t113_y : t113.y = yLTClaim := rfl
@[simp] theorem t113_kind : t113.kind = .slice 249 := rfl
@[simp] theorem t113_cmp : t113.cmp = false := rfl
/-- []laws.Trial -/
def t114 : TI := ⟨1, 24, .slice none 0 0, .sl true 0 .any [], yLTTrial, .slice 251, false⟩
@[simp] theorem t114_size : t114.size = 1 := rfl
@[simp] theorem t114_bytes : t114.bytes = 24 := rfl
@[simp] theorem t114_z : t114.z = .sl true 0 .any [] := rfl
@[simp] theorem t114_y : t114.y = yLTTrial := rfl
@[simp] theorem t114_kind : t114.kind = .slice 251 := rfl
@[simp] theorem t114_cmp : t114.cmp = false := rfl
/-- []laws.Hand -/
def t115 : TI := ⟨1, 24, .slice none 0 0, .sl true 0 .any [], yLTHand, .slice 253, false⟩
@[simp] theorem t115_size : t115.size = 1 := rfl
@[simp] theorem t115_bytes : t115.bytes = 24 := rfl
@[simp] theorem t115_z : t115.z = .sl true 0 .any [] := rfl
@[simp] theorem t115_y : t115.y = yLTHand := rfl
@[simp] theorem t115_kind : t115.kind = .slice 253 := rfl
@[simp] theorem t115_cmp : t115.cmp = false := rfl
/-- []laws.Entry -/
def t116 : TI := ⟨1, 24, .slice none 0 0, .sl true 0 .any [], yLTEntry, .slice 255, false⟩
@[simp] theorem t116_size : t116.size = 1 := rfl
@[simp] theorem t116_bytes : t116.bytes = 24 := rfl
@[simp] theorem t116_z : t116.z = .sl true 0 .any [] := rfl
@[simp] theorem t116_y : t116.y = yLTEntry := rfl
@[simp] theorem t116_kind : t116.kind = .slice 255 := rfl
@[simp] theorem t116_cmp : t116.cmp = false := rfl
/-- struct { No int; Finds []laws.Find; Secrets []laws.Secret; Slots []laws.Slot; Claims []laws.Claim; Trials []laws.Trial; Chain []laws.Hand; Book []laws.Entry; Now int } -/
def t117 : TI := ⟨9, 184, .agg #[.int .i64 0, .slice none 0 0, .slice none 0 0, .slice none 0 0, .slice none 0 0, .slice none 0 0, .slice none 0 0, .slice none 0 0, .int .i64 0], .agg [.lit (.int .i64 0), .sl true 0 .any [], .sl true 0 .any [], .sl true 0 .any [], .sl true 0 .any [], .sl true 0 .any [], .sl true 0 .any [], .sl true 0 .any [], .lit (.int .i64 0)], yTHouse, .st [(0, 3), (1, 46), (2, 112), (3, 81), (4, 113), (5, 114), (6, 115), (7, 116), (8, 3)], false⟩
@[simp] theorem t117_size : t117.size = 9 := rfl
@[simp] theorem t117_bytes : t117.bytes = 184 := rfl
@[simp] theorem t117_z : t117.z = .agg [.lit (.int .i64 0), .sl true 0 .any [], .sl true 0 .any [], .sl true 0 .any [], .sl true 0 .any [], .sl true 0 .any [], .sl true 0 .any [], .sl true 0 .any [], .lit (.int .i64 0)] := rfl
@[simp] theorem t117_y : t117.y = yTHouse := rfl
@[simp] theorem t117_kind : t117.kind = .st [(0, 3), (1, 46), (2, 112), (3, 81), (4, 113), (5, 114), (6, 115), (7, 116), (8, 3)] := rfl
@[simp] theorem t117_cmp : t117.cmp = false := rfl
/-- laws.House = loop.example/g03007/laws.House -/
def t118 : TI := ⟨9, 184, .agg #[.int .i64 0, .slice none 0 0, .slice none 0 0, .slice none 0 0, .slice none 0 0, .slice none 0 0, .slice none 0 0, .slice none 0 0, .int .i64 0], .agg [.lit (.int .i64 0), .sl true 0 .any [], .sl true 0 .any [], .sl true 0 .any [], .sl true 0 .any [], .sl true 0 .any [], .sl true 0 .any [], .sl true 0 .any [], .lit (.int .i64 0)], yTHouse, .st [(0, 3), (1, 46), (2, 112), (3, 81), (4, 113), (5, 114), (6, 115), (7, 116), (8, 3)], false⟩
@[simp] theorem t118_size : t118.size = 9 := rfl
@[simp] theorem t118_bytes : t118.bytes = 184 := rfl
@[simp] theorem t118_z : t118.z = .agg [.lit (.int .i64 0), .sl true 0 .any [], .sl true 0 .any [], .sl true 0 .any [], .sl true 0 .any [], .sl true 0 .any [], .sl true 0 .any [], .sl true 0 .any [], .lit (.int .i64 0)] := rfl
@[simp] theorem t118_y : t118.y = yTHouse := rfl
@[simp] theorem t118_kind : t118.kind = .st [(0, 3), (1, 46), (2, 112), (3, 81), (4, 113), (5, 114), (6, 115), (7, 116), (8, 3)] := rfl
@[simp] theorem t118_cmp : t118.cmp = false := rfl
/-- []impl.Secret -/
def t121 : TI := ⟨1, 24, .slice none 0 0, .sl true 0 .any [], yLTSecret, .slice 245, false⟩
@[simp] theorem t121_size : t121.size = 1 := rfl
@[simp] theorem t121_bytes : t121.bytes = 24 := rfl
@[simp] theorem t121_z : t121.z = .sl true 0 .any [] := rfl
@[simp] theorem t121_y : t121.y = yLTSecret := rfl
@[simp] theorem t121_kind : t121.kind = .slice 245 := rfl
@[simp] theorem t121_cmp : t121.cmp = false := rfl
/-- []impl.Claim -/
def t122 : TI := ⟨1, 24, .slice none 0 0, .sl true 0 .any [], yLTClaim, .slice 192, false⟩
@[simp] theorem t122_size : t122.size = 1 := rfl
@[simp] theorem t122_bytes : t122.bytes = 24 := rfl
@[simp] theorem t122_z : t122.z = .sl true 0 .any [] := rfl
@[simp] theorem t122_y : t122.y = yLTClaim := rfl
@[simp] theorem t122_kind : t122.kind = .slice 192 := rfl
@[simp] theorem t122_cmp : t122.cmp = false := rfl
/-- []impl.Trial -/
def t123 : TI := ⟨1, 24, .slice none 0 0, .sl true 0 .any [], yLTTrial, .slice 195, false⟩
@[simp] theorem t123_size : t123.size = 1 := rfl
@[simp] theorem t123_bytes : t123.bytes = 24 := rfl
@[simp] theorem t123_z : t123.z = .sl true 0 .any [] := rfl
@[simp] theorem t123_y : t123.y = yLTTrial := rfl
@[simp] theorem t123_kind : t123.kind = .slice 195 := rfl
@[simp] theorem t123_cmp : t123.cmp = false := rfl
/-- []impl.Hand -/
def t124 : TI := ⟨1, 24, .slice none 0 0, .sl true 0 .any [], yLTHand, .slice 198, false⟩
@[simp] theorem t124_size : t124.size = 1 := rfl
@[simp] theorem t124_bytes : t124.bytes = 24 := rfl
@[simp] theorem t124_z : t124.z = .sl true 0 .any [] := rfl
@[simp] theorem t124_y : t124.y = yLTHand := rfl
@[simp] theorem t124_kind : t124.kind = .slice 198 := rfl
@[simp] theorem t124_cmp : t124.cmp = false := rfl
/-- []impl.Entry -/
def t125 : TI := ⟨1, 24, .slice none 0 0, .sl true 0 .any [], yLTEntry, .slice 201, false⟩
@[simp] theorem t125_size : t125.size = 1 := rfl
@[simp] theorem t125_bytes : t125.bytes = 24 := rfl
@[simp] theorem t125_z : t125.z = .sl true 0 .any [] := rfl
@[simp] theorem t125_y : t125.y = yLTEntry := rfl
@[simp] theorem t125_kind : t125.kind = .slice 201 := rfl
@[simp] theorem t125_cmp : t125.cmp = false := rfl
/-- struct { No int; Finds []impl.Find; Secrets []impl.Secret; Slots []impl.Slot; Claims []impl.Claim; Trials []impl.Trial; Chain []impl.Hand; Book []impl.Entry; Now int } -/
def t126 : TI := ⟨9, 184, .agg #[.int .i64 0, .slice none 0 0, .slice none 0 0, .slice none 0 0, .slice none 0 0, .slice none 0 0, .slice none 0 0, .slice none 0 0, .int .i64 0], .agg [.lit (.int .i64 0), .sl true 0 .any [], .sl true 0 .any [], .sl true 0 .any [], .sl true 0 .any [], .sl true 0 .any [], .sl true 0 .any [], .sl true 0 .any [], .lit (.int .i64 0)], yTHouse, .st [(0, 3), (1, 54), (2, 121), (3, 86), (4, 122), (5, 123), (6, 124), (7, 125), (8, 3)], false⟩
@[simp] theorem t126_size : t126.size = 9 := rfl
@[simp] theorem t126_bytes : t126.bytes = 184 := rfl
@[simp] theorem t126_z : t126.z = .agg [.lit (.int .i64 0), .sl true 0 .any [], .sl true 0 .any [], .sl true 0 .any [], .sl true 0 .any [], .sl true 0 .any [], .sl true 0 .any [], .sl true 0 .any [], .lit (.int .i64 0)] := rfl
@[simp] theorem t126_y : t126.y = yTHouse := rfl
@[simp] theorem t126_kind : t126.kind = .st [(0, 3), (1, 54), (2, 121), (3, 86), (4, 122), (5, 123), (6, 124), (7, 125), (8, 3)] := rfl
@[simp] theorem t126_cmp : t126.cmp = false := rfl
/-- impl.House = loop.example/g03007/impl.House -/
def t127 : TI := ⟨9, 184, .agg #[.int .i64 0, .slice none 0 0, .slice none 0 0, .slice none 0 0, .slice none 0 0, .slice none 0 0, .slice none 0 0, .slice none 0 0, .int .i64 0], .agg [.lit (.int .i64 0), .sl true 0 .any [], .sl true 0 .any [], .sl true 0 .any [], .sl true 0 .any [], .sl true 0 .any [], .sl true 0 .any [], .sl true 0 .any [], .lit (.int .i64 0)], yTHouse, .st [(0, 3), (1, 54), (2, 121), (3, 86), (4, 122), (5, 123), (6, 124), (7, 125), (8, 3)], false⟩
@[simp] theorem t127_size : t127.size = 9 := rfl
@[simp] theorem t127_bytes : t127.bytes = 184 := rfl
@[simp] theorem t127_z : t127.z = .agg [.lit (.int .i64 0), .sl true 0 .any [], .sl true 0 .any [], .sl true 0 .any [], .sl true 0 .any [], .sl true 0 .any [], .sl true 0 .any [], .sl true 0 .any [], .lit (.int .i64 0)] := rfl
@[simp] theorem t127_y : t127.y = yTHouse := rfl
@[simp] theorem t127_kind : t127.kind = .st [(0, 3), (1, 54), (2, 121), (3, 86), (4, 122), (5, 123), (6, 124), (7, 125), (8, 3)] := rfl
@[simp] theorem t127_cmp : t127.cmp = false := rfl
/-- uint -/
def t138 : TI := ⟨1, 8, .int .u64 0, .lit (.int .u64 0), .lit (.int .u64 0), .int .u64, false⟩
@[simp] theorem t138_size : t138.size = 1 := rfl
@[simp] theorem t138_bytes : t138.bytes = 8 := rfl
@[simp] theorem t138_z : t138.z = .lit (.int .u64 0) := rfl
@[simp] theorem t138_y : t138.y = .lit (.int .u64 0) := rfl
@[simp] theorem t138_kind : t138.kind = .int .u64 := rfl
@[simp] theorem t138_cmp : t138.cmp = false := rfl
/-- func(impl.Find) bool -/
def t146 : TI := ⟨1, 8, .nilFunc, .lit .nilFunc, .lit .nilFunc, .func, false⟩
@[simp] theorem t146_size : t146.size = 1 := rfl
@[simp] theorem t146_bytes : t146.bytes = 8 := rfl
@[simp] theorem t146_z : t146.z = .lit .nilFunc := rfl
@[simp] theorem t146_y : t146.y = .lit .nilFunc := rfl
@[simp] theorem t146_kind : t146.kind = .func := rfl
@[simp] theorem t146_cmp : t146.cmp = false := rfl
/-- impl.reportOption = loop.example/g03007/impl.reportOption -/
def t153 : TI := ⟨1, 8, .nilFunc, .lit .nilFunc, .lit .nilFunc, .func, false⟩
@[simp] theorem t153_size : t153.size = 1 := rfl
@[simp] theorem t153_bytes : t153.bytes = 8 := rfl
@[simp] theorem t153_z : t153.z = .lit .nilFunc := rfl
@[simp] theorem t153_y : t153.y = .lit .nilFunc := rfl
@[simp] theorem t153_kind : t153.kind = .func := rfl
@[simp] theorem t153_cmp : t153.cmp = false := rfl
/-- struct { Id int; Size int; Thing int } -/
def t161 : TI := ⟨3, 24, .agg #[.int .i64 0, .int .i64 0, .int .i64 0], .agg [.lit (.int .i64 0), .lit (.int .i64 0), .lit (.int .i64 0)], yTSlot, .st [(0, 3), (1, 3), (2, 3)], true⟩
@[simp] theorem t161_size : t161.size = 3 := rfl
@[simp] theorem t161_bytes : t161.bytes = 24 := rfl
@[simp] theorem t161_z : t161.z = .agg [.lit (.int .i64 0), .lit (.int .i64 0), .lit (.int .i64 0)] := rfl
@[simp] theorem t161_y : t161.y = yTSlot := rfl
@[simp] theorem t161_kind : t161.kind = .st [(0, 3), (1, 3), (2, 3)] := rfl
@[simp] theorem t161_cmp : t161.cmp = true := rfl
/-- impl.Slot = loop.example/g03007/impl.Slot -/
def t162 : TI := ⟨3, 24, .agg #[.int .i64 0, .int .i64 0, .int .i64 0], .agg [.lit (.int .i64 0), .lit (.int .i64 0), .lit (.int .i64 0)], yTSlot, .st [(0, 3), (1, 3), (2, 3)], true⟩
@[simp] theorem t162_size : t162.size = 3 := rfl
@[simp] theorem t162_bytes : t162.bytes = 24 := rfl
@[simp] theorem t162_z : t162.z = .agg [.lit (.int .i64 0), .lit (.int .i64 0), .lit (.int .i64 0)] := rfl
@[simp] theorem t162_y : t162.y = yTSlot := rfl
@[simp] theorem t162_kind : t162.kind = .st [(0, 3), (1, 3), (2, 3)] := rfl
@[simp] theorem t162_cmp : t162.cmp = true := rfl
/-- laws.Slot = loop.example/g03007/laws.Slot -/
def t164 : TI := ⟨3, 24, .agg #[.int .i64 0, .int .i64 0, .int .i64 0], .agg [.lit (.int .i64 0), .lit (.int .i64 0), .lit (.int .i64 0)], yTSlot, .st [(0, 3), (1, 3), (2, 3)], true⟩
@[simp] theorem t164_size : t164.size = 3 := rfl
@[simp] theorem t164_bytes : t164.bytes = 24 := rfl
@[simp] theorem t164_z : t164.z = .agg [.lit (.int .i64 0), .lit (.int .i64 0), .lit (.int .i64 0)] := rfl
@[simp] theorem t164_y : t164.y = yTSlot := rfl
@[simp] theorem t164_kind : t164.kind = .st [(0, 3), (1, 3), (2, 3)] := rfl
@[simp] theorem t164_cmp : t164.cmp = true := rfl
/-- struct { Who int; Cents int; Seal int } -/
def t169 : TI := ⟨3, 24, .agg #[.int .i64 0, .int .i64 0, .int .i64 0], .agg [.lit (.int .i64 0), .lit (.int .i64 0), .lit (.int .i64 0)], yTBid, .st [(0, 3), (1, 3), (2, 3)], true⟩
@[simp] theorem t169_size : t169.size = 3 := rfl
@[simp] theorem t169_bytes : t169.bytes = 24 := rfl
@[simp] theorem t169_z : t169.z = .agg [.lit (.int .i64 0), .lit (.int .i64 0), .lit (.int .i64 0)] := rfl
@[simp] theorem t169_y : t169.y = yTBid := rfl
@[simp] theorem t169_kind : t169.kind = .st [(0, 3), (1, 3), (2, 3)] := rfl
@[simp] theorem t169_cmp : t169.cmp = true := rfl
/-- impl.Bid = loop.example/g03007/impl.Bid -/
def t170 : TI := ⟨3, 24, .agg #[.int .i64 0, .int .i64 0, .int .i64 0], .agg [.lit (.int .i64 0), .lit (.int .i64 0), .lit (.int .i64 0)], yTBid, .st [(0, 3), (1, 3), (2, 3)], true⟩
@[simp] theorem t170_size : t170.size = 3 := rfl
@[simp] theorem t170_bytes : t170.bytes = 24 := rfl
@[simp] theorem t170_z : t170.z = .agg [.lit (.int .i64 0), .lit (.int .i64 0), .lit (.int .i64 0)] := rfl
@[simp] theorem t170_y : t170.y = yTBid := rfl
@[simp] theorem t170_kind : t170.kind = .st [(0, 3), (1, 3), (2, 3)] := rfl
@[simp] theorem t170_cmp : t170.cmp = true := rfl
/-- laws.Bid = loop.example/g03007/laws.Bid -/
def t172 : TI := ⟨3, 24, .agg #[.int .i64 0, .int .i64 0, .int .i64 0], .agg [.lit (.int .i64 0), .lit (.int .i64 0), .lit (.int .i64 0)], yTBid, .st [(0, 3), (1, 3), (2, 3)], true⟩
@[simp] theorem t172_size : t172.size = 3 := rfl
@[simp] theorem t172_bytes : t172.bytes = 24 := rfl
@[simp] theorem t172_z : t172.z = .agg [.lit (.int .i64 0), .lit (.int .i64 0), .lit (.int .i64 0)] := rfl
@[simp] theorem t172_y : t172.y = yTBid := rfl
@[simp] theorem t172_kind : t172.kind = .st [(0, 3), (1, 3), (2, 3)] := rfl
@[simp] theorem t172_cmp : t172.cmp = true := rfl
/-- impl.week = loop.example/g03007/impl.week -/
def t174 : TI := ⟨1, 1, .int .u8 0, .lit (.int .u8 0), .lit (.int .u8 0), .int .u8, false⟩
@[simp] theorem t174_size : t174.size = 1 := rfl
@[simp] theorem t174_bytes : t174.bytes = 1 := rfl
@[simp] theorem t174_z : t174.z = .lit (.int .u8 0) := rfl
@[simp] theorem t174_y : t174.y = .lit (.int .u8 0) := rfl
@[simp] theorem t174_kind : t174.kind = .int .u8 := rfl
@[simp] theorem t174_cmp : t174.cmp = false := rfl
/-- struct { Id int; Who int; Thing int; At int; State int } -/
def t191 : TI := ⟨5, 40, .agg #[.int .i64 0, .int .i64 0, .int .i64 0, .int .i64 0, .int .i64 0], .agg [.lit (.int .i64 0), .lit (.int .i64 0), .lit (.int .i64 0), .lit (.int .i64 0), .lit (.int .i64 0)], yTClaim, .st [(0, 3), (1, 3), (2, 3), (3, 3), (4, 3)], true⟩
@[simp] theorem t191_size : t191.size = 5 := rfl
@[simp] theorem t191_bytes : t191.bytes = 40 := rfl
@[simp] theorem t191_z : t191.z = .agg [.lit (.int .i64 0), .lit (.int .i64 0), .lit (.int .i64 0), .lit (.int .i64 0), .lit (.int .i64 0)] := rfl
@[simp] theorem t191_y : t191.y = yTClaim := rfl
@[simp] theorem t191_kind : t191.kind = .st [(0, 3), (1, 3), (2, 3), (3, 3), (4, 3)] := rfl
@[simp] theorem t191_cmp : t191.cmp = true := rfl
/-- impl.Claim = loop.example/g03007/impl.Claim -/
def t192 : TI := ⟨5, 40, .agg #[.int .i64 0, .int .i64 0, .int .i64 0, .int .i64 0, .int .i64 0], .agg [.lit (.int .i64 0), .lit (.int .i64 0), .lit (.int .i64 0), .lit (.int .i64 0), .lit (.int .i64 0)], yTClaim, .st [(0, 3), (1, 3), (2, 3), (3, 3), (4, 3)], true⟩
@[simp] theorem t192_size : t192.size = 5 := rfl
@[simp] theorem t192_bytes : t192.bytes = 40 := rfl
@[simp] theorem t192_z : t192.z = .agg [.lit (.int .i64 0), .lit (.int .i64 0), .lit (.int .i64 0), .lit (.int .i64 0), .lit (.int .i64 0)] := rfl
@[simp] theorem t192_y : t192.y = yTClaim := rfl
@[simp] theorem t192_kind : t192.kind = .st [(0, 3), (1, 3), (2, 3), (3, 3), (4, 3)] := rfl
@[simp] theorem t192_cmp : t192.cmp = true := rfl
/-- struct { Claim int; Asked int; Right int; Wrong int } -/
def t194 : TI := ⟨4, 32, .agg #[.int .i64 0, .int .i64 0, .int .i64 0, .int .i64 0], .agg [.lit (.int .i64 0), .lit (.int .i64 0), .lit (.int .i64 0), .lit (.int .i64 0)], yTTrial, .st [(0, 3), (1, 3), (2, 3), (3, 3)], true⟩
@[simp] theorem t194_size : t194.size = 4 := rfl
@[simp] theorem t194_bytes : t194.bytes = 32 := rfl
@[simp] theorem t194_z : t194.z = .agg [.lit (.int .i64 0), .lit (.int .i64 0), .lit (.int .i64 0), .lit (.int .i64 0)] := rfl
@[simp] theorem t194_y : t194.y = yTTrial := rfl
@[simp] theorem t194_kind : t194.kind = .st [(0, 3), (1, 3), (2, 3), (3, 3)] := rfl
@[simp] theorem t194_cmp : t194.cmp = true := rfl
/-- impl.Trial = loop.example/g03007/impl.Trial -/
def t195 : TI := ⟨4, 32, .agg #[.int .i64 0, .int .i64 0, .int .i64 0, .int .i64 0], .agg [.lit (.int .i64 0), .lit (.int .i64 0), .lit (.int .i64 0), .lit (.int .i64 0)], yTTrial, .st [(0, 3), (1, 3), (2, 3), (3, 3)], true⟩
@[simp] theorem t195_size : t195.size = 4 := rfl
@[simp] theorem t195_bytes : t195.bytes = 32 := rfl
@[simp] theorem t195_z : t195.z = .agg [.lit (.int .i64 0), .lit (.int .i64 0), .lit (.int .i64 0), .lit (.int .i64 0)] := rfl
@[simp] theorem t195_y : t195.y = yTTrial := rfl
@[simp] theorem t195_kind : t195.kind = .st [(0, 3), (1, 3), (2, 3), (3, 3)] := rfl
@[simp] theorem t195_cmp : t195.cmp = true := rfl
/-- struct { Thing int; Holder int; Who int; At int; Seal int } -/
def t197 : TI := ⟨5, 40, .agg #[.int .i64 0, .int .i64 0, .int .i64 0, .int .i64 0, .int .i64 0], .agg [.lit (.int .i64 0), .lit (.int .i64 0), .lit (.int .i64 0), .lit (.int .i64 0), .lit (.int .i64 0)], yTHand, .st [(0, 3), (1, 3), (2, 3), (3, 3), (4, 3)], true⟩
@[simp] theorem t197_size : t197.size = 5 := rfl
@[simp] theorem t197_bytes : t197.bytes = 40 := rfl
@[simp] theorem t197_z : t197.z = .agg [.lit (.int .i64 0), .lit (.int .i64 0), .lit (.int .i64 0), .lit (.int .i64 0), .lit (.int .i64 0)] := rfl
@[simp] theorem t197_y : t197.y = yTHand := rfl
@[simp] theorem t197_kind : t197.kind = .st [(0, 3), (1, 3), (2, 3), (3, 3), (4, 3)] := rfl
@[simp] theorem t197_cmp : t197.cmp = true := rfl
/-- impl.Hand = loop.example/g03007/impl.Hand -/
def t198 : TI := ⟨5, 40, .agg #[.int .i64 0, .int .i64 0, .int .i64 0, .int .i64 0, .int .i64 0], .agg [.lit (.int .i64 0), .lit (.int .i64 0), .lit (.int .i64 0), .lit (.int .i64 0), .lit (.int .i64 0)], yTHand, .st [(0, 3), (1, 3), (2, 3), (3, 3), (4, 3)], true⟩
@[simp] theorem t198_size : t198.size = 5 := rfl
@[simp] theorem t198_bytes : t198.bytes = 40 := rfl
@[simp] theorem t198_z : t198.z = .agg [.lit (.int .i64 0), .lit (.int .i64 0), .lit (.int .i64 0), .lit (.int .i64 0), .lit (.int .i64 0)] := rfl
@[simp] theorem t198_y : t198.y = yTHand := rfl
@[simp] theorem t198_kind : t198.kind = .st [(0, 3), (1, 3), (2, 3), (3, 3), (4, 3)] := rfl
@[simp] theorem t198_cmp : t198.cmp = true := rfl
/-- struct { From int; To int; Cents int; At int } -/
def t200 : TI := ⟨4, 32, .agg #[.int .i64 0, .int .i64 0, .int .i64 0, .int .i64 0], .agg [.lit (.int .i64 0), .lit (.int .i64 0), .lit (.int .i64 0), .lit (.int .i64 0)], yTEntry, .st [(0, 3), (1, 3), (2, 3), (3, 3)], true⟩
@[simp] theorem t200_size : t200.size = 4 := rfl
@[simp] theorem t200_bytes : t200.bytes = 32 := rfl
@[simp] theorem t200_z : t200.z = .agg [.lit (.int .i64 0), .lit (.int .i64 0), .lit (.int .i64 0), .lit (.int .i64 0)] := rfl
@[simp] theorem t200_y : t200.y = yTEntry := rfl
@[simp] theorem t200_kind : t200.kind = .st [(0, 3), (1, 3), (2, 3), (3, 3)] := rfl
@[simp] theorem t200_cmp : t200.cmp = true := rfl
/-- impl.Entry = loop.example/g03007/impl.Entry -/
def t201 : TI := ⟨4, 32, .agg #[.int .i64 0, .int .i64 0, .int .i64 0, .int .i64 0], .agg [.lit (.int .i64 0), .lit (.int .i64 0), .lit (.int .i64 0), .lit (.int .i64 0)], yTEntry, .st [(0, 3), (1, 3), (2, 3), (3, 3)], true⟩
@[simp] theorem t201_size : t201.size = 4 := rfl
@[simp] theorem t201_bytes : t201.bytes = 32 := rfl
@[simp] theorem t201_z : t201.z = .agg [.lit (.int .i64 0), .lit (.int .i64 0), .lit (.int .i64 0), .lit (.int .i64 0)] := rfl
@[simp] theorem t201_y : t201.y = yTEntry := rfl
@[simp] theorem t201_kind : t201.kind = .st [(0, 3), (1, 3), (2, 3), (3, 3)] := rfl
@[simp] theorem t201_cmp : t201.cmp = true := rfl
/-- func(impl.Report, impl.Find) bool -/
def t210 : TI := ⟨1, 8, .nilFunc, .lit .nilFunc, .lit .nilFunc, .func, false⟩
@[simp] theorem t210_size : t210.size = 1 := rfl
@[simp] theorem t210_bytes : t210.bytes = 8 := rfl
@[simp] theorem t210_z : t210.z = .lit .nilFunc := rfl
@[simp] theorem t210_y : t210.y = .lit .nilFunc := rfl
@[simp] theorem t210_kind : t210.kind = .func := rfl
@[simp] theorem t210_cmp : t210.cmp = false := rfl
/-- func(impl.Find) int -/
def t212 : TI := ⟨1, 8, .nilFunc, .lit .nilFunc, .lit .nilFunc, .func, false⟩
@[simp] theorem t212_size : t212.size = 1 := rfl
@[simp] theorem t212_bytes : t212.bytes = 8 := rfl
@[simp] theorem t212_z : t212.z = .lit .nilFunc := rfl
@[simp] theorem t212_y : t212.y = .lit .nilFunc := rfl
@[simp] theorem t212_kind : t212.kind = .func := rfl
@[simp] theorem t212_cmp : t212.cmp = false := rfl
/-- struct { items []impl.Find; numberOf func(impl.Find) int } -/
def t213 : TI := ⟨2, 32, .agg #[.slice none 0 0, .nilFunc], .agg [.sl true 0 .any [], .lit .nilFunc], .any, .st [(0, 54), (1, 212)], false⟩
@[simp] theorem t213_size : t213.size = 2 := rfl
@[simp] theorem t213_bytes : t213.bytes = 32 := rfl
@[simp] theorem t213_z : t213.z = .agg [.sl true 0 .any [], .lit .nilFunc] := rfl
@[simp] theorem t213_y : t213.y = .any := rfl
@[simp] theorem t213_kind : t213.kind = .st [(0, 54), (1, 212)] := rfl
@[simp] theorem t213_cmp : t213.cmp = false := rfl
/-- impl.sortedList[loop.example/g03007/impl.Find] = loop.example/g03007/impl.sortedList[loop.example/g03007/impl.Find] -/
def t214 : TI := ⟨2, 32, .agg #[.slice none 0 0, .nilFunc], .agg [.sl true 0 .any [], .lit .nilFunc], .any, .st [(0, 54), (1, 212)], false⟩
@[simp] theorem t214_size : t214.size = 2 := rfl
@[simp] theorem t214_bytes : t214.bytes = 32 := rfl
@[simp] theorem t214_z : t214.z = .agg [.sl true 0 .any [], .lit .nilFunc] := rfl
@[simp] theorem t214_y : t214.y = .any := rfl
@[simp] theorem t214_kind : t214.kind = .st [(0, 54), (1, 212)] := rfl
@[simp] theorem t214_cmp : t214.cmp = false := rfl
/-- [4]func(impl.Find) bool -/
def t221 : TI := ⟨4, 32, .agg #[.nilFunc, .nilFunc, .nilFunc, .nilFunc], .agg [.lit .nilFunc, .lit .nilFunc, .lit .nilFunc, .lit .nilFunc], .any, .arr 4 146, false⟩
@[simp] theorem t221_size : t221.size = 4 := rfl
@[simp] theorem t221_bytes : t221.bytes = 32 := rfl
@[simp] theorem t221_z : t221.z = .agg [.lit .nilFunc, .lit .nilFunc, .lit .nilFunc, .lit .nilFunc] := rfl
@[simp] theorem t221_y : t221.y = .any := rfl
@[simp] theorem t221_kind : t221.kind = .arr 4 146 := rfl
@[simp] theorem t221_cmp : t221.cmp = false := rfl
/-- []impl.reportOption -/
def t223 : TI := ⟨1, 24, .slice none 0 0, .sl true 0 .any [], .any, .slice 153, false⟩
@[simp] theorem t223_size : t223.size = 1 := rfl
@[simp] theorem t223_bytes : t223.bytes = 24 := rfl
@[simp] theorem t223_z : t223.z = .sl true 0 .any [] := rfl
@[simp] theorem t223_y : t223.y = .any := rfl
@[simp] theorem t223_kind : t223.kind = .slice 153 := rfl
@[simp] theorem t223_cmp : t223.cmp = false := rfl
/-- *impl.Report -/
def t224 : TI := ⟨1, 8, .pointer none, .lit (.pointer none), .lit (.pointer none), .ptr 52, false⟩
@[simp] theorem t224_size : t224.size = 1 := rfl
@[simp] theorem t224_bytes : t224.bytes = 8 := rfl
@[simp] theorem t224_z : t224.z = .lit (.pointer none) := rfl
@[simp] theorem t224_y : t224.y = .lit (.pointer none) := rfl
@[simp] theorem t224_kind : t224.kind = .ptr 52 := rfl
@[simp] theorem t224_cmp : t224.cmp = false := rfl
/-- func(impl.Slot) int -/
def t227 : TI := ⟨1, 8, .nilFunc, .lit .nilFunc, .lit .nilFunc, .func, false⟩
@[simp] theorem t227_size : t227.size = 1 := rfl
@[simp] theorem t227_bytes : t227.bytes = 8 := rfl
@[simp] theorem t227_z : t227.z = .lit .nilFunc := rfl
@[simp] theorem t227_y : t227.y = .lit .nilFunc := rfl
@[simp] theorem t227_kind : t227.kind = .func := rfl
@[simp] theorem t227_cmp : t227.cmp = false := rfl
/-- struct { items []impl.Slot; numberOf func(impl.Slot) int } -/
def t228 : TI := ⟨2, 32, .agg #[.slice none 0 0, .nilFunc], .agg [.sl true 0 .any [], .lit .nilFunc], .any, .st [(0, 86), (1, 227)], false⟩
@[simp] theorem t228_size : t228.size = 2 := rfl
@[simp] theorem t228_bytes : t228.bytes = 32 := rfl
@[simp] theorem t228_z : t228.z = .agg [.sl true 0 .any [], .lit .nilFunc] := rfl
@[simp] theorem t228_y : t228.y = .any := rfl
@[simp] theorem t228_kind : t228.kind = .st [(0, 86), (1, 227)] := rfl
@[simp] theorem t228_cmp : t228.cmp = false := rfl
/-- impl.sortedList[loop.example/g03007/impl.Slot] = loop.example/g03007/impl.sortedList[loop.example/g03007/impl.Slot] -/
def t229 : TI := ⟨2, 32, .agg #[.slice none 0 0, .nilFunc], .agg [.sl true 0 .any [], .lit .nilFunc], .any, .st [(0, 86), (1, 227)], false⟩
@[simp] theorem t229_size : t229.size = 2 := rfl
@[simp] theorem t229_bytes : t229.bytes = 32 := rfl
@[simp] theorem t229_z : t229.z = .agg [.sl true 0 .any [], .lit .nilFunc] := rfl
@[simp] theorem t229_y : t229.y = .any := rfl
@[simp] theorem t229_kind : t229.kind = .st [(0, 86), (1, 227)] := rfl
@[simp] theorem t229_cmp : t229.cmp = false := rfl
/-- impl.content = loop.example/g03007/impl.content -/
def t234 : TI := ⟨1, 8, .int .i64 0, .lit (.int .i64 0), .lit (.int .i64 0), .int .i64, false⟩
@[simp] theorem t234_size : t234.size = 1 := rfl
@[simp] theorem t234_bytes : t234.bytes = 8 := rfl
@[simp] theorem t234_z : t234.z = .lit (.int .i64 0) := rfl
@[simp] theorem t234_y : t234.y = .lit (.int .i64 0) := rfl
@[simp] theorem t234_kind : t234.kind = .int .i64 := rfl
@[simp] theorem t234_cmp : t234.cmp = false := rfl
/-- map[int]bool -/
def t235 : TI := ⟨1, 8, .map none, .fm 0 [] .any [], .any, .map 3 4, false⟩
@[simp] theorem t235_size : t235.size = 1 := rfl
@[simp] theorem t235_bytes : t235.bytes = 8 := rfl
@[simp] theorem t235_z : t235.z = .fm 0 [] .any [] := rfl
@[simp] theorem t235_y : t235.y = .any := rfl
@[simp] theorem t235_kind : t235.kind = .map 3 4 := rfl
@[simp] theorem t235_cmp : t235.cmp = false := rfl
/-- func(impl.Bid) bool -/
def t236 : TI := ⟨1, 8, .nilFunc, .lit .nilFunc, .lit .nilFunc, .func, false⟩
@[simp] theorem t236_size : t236.size = 1 := rfl
@[simp] theorem t236_bytes : t236.bytes = 8 := rfl
@[simp] theorem t236_z : t236.z = .lit .nilFunc := rfl
@[simp] theorem t236_y : t236.y = .lit .nilFunc := rfl
@[simp] theorem t236_kind : t236.kind = .func := rfl
@[simp] theorem t236_cmp : t236.cmp = false := rfl
/-- impl.byHeight = loop.example/g03007/impl.byHeight -/
def t238 : TI := ⟨1, 24, .slice none 0 0, .sl true 0 .any [], yLTBid, .slice 170, false⟩
@[simp] theorem t238_size : t238.size = 1 := rfl
@[simp] theorem t238_bytes : t238.bytes = 24 := rfl
@[simp] theorem t238_z : t238.z = .sl true 0 .any [] := rfl
@[simp] theorem t238_y : t238.y = yLTBid := rfl
@[simp] theorem t238_kind : t238.kind = .slice 170 := rfl
@[simp] theorem t238_cmp : t238.cmp = false := rfl
/-- []laws.Mark -/
def t240 : TI := ⟨1, 24, .slice none 0 0, .sl true 0 .any [], yLTMark, .slice 304, false⟩
@[simp] theorem t240_size : t240.size = 1 := rfl
@[simp] theorem t240_bytes : t240.bytes = 24 := rfl
@[simp] theorem t240_z : t240.z = .sl true 0 .any [] := rfl
@[simp] theorem t240_y : t240.y = yLTMark := rfl
@[simp] theorem t240_kind : t240.kind = .slice 304 := rfl
@[simp] theorem t240_cmp : t240.cmp = false := rfl
/-- struct { Thing int; Marks []laws.Mark; Salt int } -/
def t241 : TI := ⟨3, 40, .agg #[.int .i64 0, .slice none 0 0, .int .i64 0], .agg [.lit (.int .i64 0), .sl true 0 .any [], .lit (.int .i64 0)], yTSecret, .st [(0, 3), (1, 240), (2, 3)], false⟩
@[simp] theorem t241_size : t241.size = 3 := rfl
@[simp] theorem t241_bytes : t241.bytes = 40 := rfl
@[simp] theorem t241_z : t241.z = .agg [.lit (.int .i64 0), .sl true 0 .any [], .lit (.int .i64 0)] := rfl
@[simp] theorem t241_y : t241.y = yTSecret := rfl
@[simp] theorem t241_kind : t241.kind = .st [(0, 3), (1, 240), (2, 3)] := rfl
@[simp] theorem t241_cmp : t241.cmp = false := rfl
/-- laws.Secret = loop.example/g03007/laws.Secret -/
def t242 : TI := ⟨3, 40, .agg #[.int .i64 0, .slice none 0 0, .int .i64 0], .agg [.lit (.int .i64 0), .sl true 0 .any [], .lit (.int .i64 0)], yTSecret, .st [(0, 3), (1, 240), (2, 3)], false⟩
@[simp] theorem t242_size : t242.size = 3 := rfl
@[simp] theorem t242_bytes : t242.bytes = 40 := rfl
@[simp] theorem t242_z : t242.z = .agg [.lit (.int .i64 0), .sl true 0 .any [], .lit (.int .i64 0)] := rfl
@[simp] theorem t242_y : t242.y = yTSecret := rfl
@[simp] theorem t242_kind : t242.kind = .st [(0, 3), (1, 240), (2, 3)] := rfl
@[simp] theorem t242_cmp : t242.cmp = false := rfl
/-- []impl.Mark -/
def t243 : TI := ⟨1, 24, .slice none 0 0, .sl true 0 .any [], yLTMark, .slice 258, false⟩
@[simp] theorem t243_size : t243.size = 1 := rfl
@[simp] theorem t243_bytes : t243.bytes = 24 := rfl
@[simp] theorem t243_z : t243.z = .sl true 0 .any [] := rfl
@[simp] theorem t243_y : t243.y = yLTMark := rfl
@[simp] theorem t243_kind : t243.kind = .slice 258 := rfl
@[simp] theorem t243_cmp : t243.cmp = false := rfl
/-- struct { Thing int; Marks []impl.Mark; Salt int } -/
def t244 : TI := ⟨3, 40, .agg #[.int .i64 0, .slice none 0 0, .int .i64 0], .agg [.lit (.int .i64 0), .sl true 0 .any [], .lit (.int .i64 0)], yTSecret, .st [(0, 3), (1, 243), (2, 3)], false⟩
@[simp] theorem t244_size : t244.size = 3 := rfl
@[simp] theorem t244_bytes : t244.bytes = 40 := rfl
@[simp] theorem t244_z : t244.z = .agg [.lit (.int .i64 0), .sl true 0 .any [], .lit (.int .i64 0)] := rfl
@[simp] theorem t244_y : t244.y = yTSecret := rfl
@[simp] theorem t244_kind : t244.kind = .st [(0, 3), (1, 243), (2, 3)] := rfl
@[simp] theorem t244_cmp : t244.cmp = false := rfl
/-- impl.Secret = loop.example/g03007/impl.Secret -/
def t245 : TI := ⟨3, 40, .agg #[.int .i64 0, .slice none 0 0, .int .i64 0], .agg [.lit (.int .i64 0), .sl true 0 .any [], .lit (.int .i64 0)], yTSecret, .st [(0, 3), (1, 243), (2, 3)], false⟩
@[simp] theorem t245_size : t245.size = 3 := rfl
@[simp] theorem t245_bytes : t245.bytes = 40 := rfl
@[simp] theorem t245_z : t245.z = .agg [.lit (.int .i64 0), .sl true 0 .any [], .lit (.int .i64 0)] := rfl
@[simp] theorem t245_y : t245.y = yTSecret := rfl
@[simp] theorem t245_kind : t245.kind = .st [(0, 3), (1, 243), (2, 3)] := rfl
@[simp] theorem t245_cmp : t245.cmp = false := rfl
/-- laws.Claim = loop.example/g03007/laws.Claim -/
def t249 : TI := ⟨5, 40, .agg #[.int .i64 0, .int .i64 0, .int .i64 0, .int .i64 0, .int .i64 0], .agg [.lit (.int .i64 0), .lit (.int .i64 0), .lit (.int .i64 0), .lit (.int .i64 0), .lit (.int .i64 0)], yTClaim, .st [(0, 3), (1, 3), (2, 3), (3, 3), (4, 3)], true⟩
@[simp] theorem t249_size : t249.size = 5 := rfl
@[simp] theorem t249_bytes : t249.bytes = 40 := rfl
@[simp] theorem t249_z : t249.z = .agg [.lit (.int .i64 0), .lit (.int .i64 0), .lit (.int .i64 0), .lit (.int .i64 0), .lit (.int .i64 0)] := rfl
@[simp] theorem t249_y : t249.y = yTClaim := rfl
@[simp] theorem t249_kind : t249.kind = .st [(0, 3), (1, 3), (2, 3), (3, 3), (4, 3)] := rfl
@[simp] theorem t249_cmp : t249.cmp = true := rfl
/-- laws.Trial = loop.example/g03007/laws.Trial -/
def t251 : TI := ⟨4, 32, .agg #[.int .i64 0, .int .i64 0, .int .i64 0, .int .i64 0], .agg [.lit (.int .i64 0), .lit (.int .i64 0), .lit (.int .i64 0), .lit (.int .i64 0)], yTTrial, .st [(0, 3), (1, 3), (2, 3), (3, 3)], true⟩
@[simp] theorem t251_size : t251.size = 4 := rfl
@[simp] theorem t251_bytes : t251.bytes = 32 := rfl
@[simp] theorem t251_z : t251.z = .agg [.lit (.int .i64 0), .lit (.int .i64 0), .lit (.int .i64 0), .lit (.int .i64 0)] := rfl
@[simp] theorem t251_y : t251.y = yTTrial := rfl
@[simp] theorem t251_kind : t251.kind = .st [(0, 3), (1, 3), (2, 3), (3, 3)] := rfl
@[simp] theorem t251_cmp : t251.cmp = true := rfl
/-- laws.Hand = loop.example/g03007/laws.Hand -/
def t253 : TI := ⟨5, 40, .agg #[.int .i64 0, .int .i64 0, .int .i64 0, .int .i64 0, .int .i64 0], .agg [.lit (.int .i64 0), .lit (.int .i64 0), .lit (.int .i64 0), .lit (.int .i64 0), .lit (.int .i64 0)], yTHand, .st [(0, 3), (1, 3), (2, 3), (3, 3), (4, 3)], true⟩
@[simp] theorem t253_size : t253.size = 5 := rfl
@[simp] theorem t253_bytes : t253.bytes = 40 := rfl
@[simp] theorem t253_z : t253.z = .agg [.lit (.int .i64 0), .lit (.int .i64 0), .lit (.int .i64 0), .lit (.int .i64 0), .lit (.int .i64 0)] := rfl
@[simp] theorem t253_y : t253.y = yTHand := rfl
@[simp] theorem t253_kind : t253.kind = .st [(0, 3), (1, 3), (2, 3), (3, 3), (4, 3)] := rfl
@[simp] theorem t253_cmp : t253.cmp = true := rfl
/-- laws.Entry = loop.example/g03007/laws.Entry -/
def t255 : TI := ⟨4, 32, .agg #[.int .i64 0, .int .i64 0, .int .i64 0, .int .i64 0], .agg [.lit (.int .i64 0), .lit (.int .i64 0), .lit (.int .i64 0), .lit (.int .i64 0)], yTEntry, .st [(0, 3), (1, 3), (2, 3), (3, 3)], true⟩
@[simp] theorem t255_size : t255.size = 4 := rfl
@[simp] theorem t255_bytes : t255.bytes = 32 := rfl
@[simp] theorem t255_z : t255.z = .agg [.lit (.int .i64 0), .lit (.int .i64 0), .lit (.int .i64 0), .lit (.int .i64 0)] := rfl
@[simp] theorem t255_y : t255.y = yTEntry := rfl
@[simp] theorem t255_kind : t255.kind = .st [(0, 3), (1, 3), (2, 3), (3, 3)] := rfl
@[simp] theorem t255_cmp : t255.cmp = true := rfl
/-- struct { Question int; Answer int } -/
def t257 : TI := ⟨2, 16, .agg #[.int .i64 0, .int .i64 0], .agg [.lit (.int .i64 0), .lit (.int .i64 0)], yTMark, .st [(0, 3), (1, 3)], true⟩
@[simp] theorem t257_size : t257.size = 2 := rfl
@[simp] theorem t257_bytes : t257.bytes = 16 := rfl
@[simp] theorem t257_z : t257.z = .agg [.lit (.int .i64 0), .lit (.int .i64 0)] := rfl
@[simp] theorem t257_y : t257.y = yTMark := rfl
@[simp] theorem t257_kind : t257.kind = .st [(0, 3), (1, 3)] := rfl
@[simp] theorem t257_cmp : t257.cmp = true := rfl
/-- impl.Mark = loop.example/g03007/impl.Mark -/
def t258 : TI := ⟨2, 16, .agg #[.int .i64 0, .int .i64 0], .agg [.lit (.int .i64 0), .lit (.int .i64 0)], yTMark, .st [(0, 3), (1, 3)], true⟩
@[simp] theorem t258_size : t258.size = 2 := rfl
@[simp] theorem t258_bytes : t258.bytes = 16 := rfl
@[simp] theorem t258_z : t258.z = .agg [.lit (.int .i64 0), .lit (.int .i64 0)] := rfl
@[simp] theorem t258_y : t258.y = yTMark := rfl
@[simp] theorem t258_kind : t258.kind = .st [(0, 3), (1, 3)] := rfl
@[simp] theorem t258_cmp : t258.cmp = true := rfl
/-- *impl.House -/
def t265 : TI := ⟨1, 8, .pointer none, .lit (.pointer none), .lit (.pointer none), .ptr 127, false⟩
@[simp] theorem t265_size : t265.size = 1 := rfl
@[simp] theorem t265_bytes : t265.bytes = 8 := rfl
@[simp] theorem t265_z : t265.z = .lit (.pointer none) := rfl
@[simp] theorem t265_y : t265.y = .lit (.pointer none) := rfl
@[simp] theorem t265_kind : t265.kind = .ptr 127 := rfl
@[simp] theorem t265_cmp : t265.cmp = false := rfl
/-- [][]int -/
def t270 : TI := ⟨1, 24, .slice none 0 0, .sl true 0 .any [], yLLI, .slice 34, false⟩
@[simp] theorem t270_size : t270.size = 1 := rfl
@[simp] theorem t270_bytes : t270.bytes = 24 := rfl
@[simp] theorem t270_z : t270.z = .sl true 0 .any [] := rfl
@[simp] theorem t270_y : t270.y = yLLI := rfl
@[simp] theorem t270_kind : t270.kind = .slice 34 := rfl
@[simp] theorem t270_cmp : t270.cmp = false := rfl
/-- []func(impl.Bid) bool -/
def t274 : TI := ⟨1, 24, .slice none 0 0, .sl true 0 .any [], .any, .slice 236, false⟩
@[simp] theorem t274_size : t274.size = 1 := rfl
@[simp] theorem t274_bytes : t274.bytes = 24 := rfl
@[simp] theorem t274_z : t274.z = .sl true 0 .any [] := rfl
@[simp] theorem t274_y : t274.y = .any := rfl
@[simp] theorem t274_kind : t274.kind = .slice 236 := rfl
@[simp] theorem t274_cmp : t274.cmp = false := rfl
/-- interface { Len() int; Less(int, int) bool; Swap(int, int) } -/
def t275 : TI := ⟨1, 16, .nilIface, .lit .nilIface, .lit .nilIface, .iface, false⟩
@[simp] theorem t275_size : t275.size = 1 := rfl
@[simp] theorem t275_bytes : t275.bytes = 16 := rfl
@[simp] theorem t275_z : t275.z = .lit .nilIface := rfl
@[simp] theorem t275_y : t275.y = .lit .nilIface := rfl
@[simp] theorem t275_kind : t275.kind = .iface := rfl
@[simp] theorem t275_cmp : t275.cmp = false := rfl
/-- sort.Interface -/
def t276 : TI := ⟨1, 16, .nilIface, .lit .nilIface, .lit .nilIface, .iface, false⟩
@[simp] theorem t276_size : t276.size = 1 := rfl
@[simp] theorem t276_bytes : t276.bytes = 16 := rfl
@[simp] theorem t276_z : t276.z = .lit .nilIface := rfl
@[simp] theorem t276_y : t276.y = .lit .nilIface := rfl
@[simp] theorem t276_kind : t276.kind = .iface := rfl
@[simp] theorem t276_cmp : t276.cmp = false := rfl
/-- []impl.matchCheck -/
def t285 : TI := ⟨1, 24, .slice none 0 0, .sl true 0 .any [], .any, .slice 288, false⟩
@[simp] theorem t285_size : t285.size = 1 := rfl
@[simp] theorem t285_bytes : t285.bytes = 24 := rfl
@[simp] theorem t285_z : t285.z = .sl true 0 .any [] := rfl
@[simp] theorem t285_y : t285.y = .any := rfl
@[simp] theorem t285_kind : t285.kind = .slice 288 := rfl
@[simp] theorem t285_cmp : t285.cmp = false := rfl
/-- struct { name string; isHeld func(impl.Report, impl.Find) bool } -/
def t287 : TI := ⟨2, 24, .agg #[.string ⟨#[]⟩, .nilFunc], .agg [.lit (.string ⟨#[]⟩), .lit .nilFunc], .any, .st [(0, 9), (1, 210)], false⟩
@[simp] theorem t287_size : t287.size = 2 := rfl
@[simp] theorem t287_bytes : t287.bytes = 24 := rfl
@[simp] theorem t287_z : t287.z = .agg [.lit (.string ⟨#[]⟩), .lit .nilFunc] := rfl
@[simp] theorem t287_y : t287.y = .any := rfl
@[simp] theorem t287_kind : t287.kind = .st [(0, 9), (1, 210)] := rfl
@[simp] theorem t287_cmp : t287.cmp = false := rfl
/-- impl.matchCheck = loop.example/g03007/impl.matchCheck -/
def t288 : TI := ⟨2, 24, .agg #[.string ⟨#[]⟩, .nilFunc], .agg [.lit (.string ⟨#[]⟩), .lit .nilFunc], .any, .st [(0, 9), (1, 210)], false⟩
@[simp] theorem t288_size : t288.size = 2 := rfl
@[simp] theorem t288_bytes : t288.bytes = 24 := rfl
@[simp] theorem t288_z : t288.z = .agg [.lit (.string ⟨#[]⟩), .lit .nilFunc] := rfl
@[simp] theorem t288_y : t288.y = .any := rfl
@[simp] theorem t288_kind : t288.kind = .st [(0, 9), (1, 210)] := rfl
@[simp] theorem t288_cmp : t288.cmp = false := rfl
/-- slices.sortedHint -/
def t290 : TI := ⟨1, 8, .int .i64 0, .lit (.int .i64 0), .lit (.int .i64 0), .int .i64, false⟩
@[simp] theorem t290_size : t290.size = 1 := rfl
@[simp] theorem t290_bytes : t290.bytes = 8 := rfl
@[simp] theorem t290_z : t290.z = .lit (.int .i64 0) := rfl
@[simp] theorem t290_y : t290.y = .lit (.int .i64 0) := rfl
@[simp] theorem t290_kind : t290.kind = .int .i64 := rfl
@[simp] theorem t290_cmp : t290.cmp = false := rfl
/-- uint32 -/
def t297 : TI := ⟨1, 4, .int .u32 0, .lit (.int .u32 0), .lit (.int .u32 0), .int .u32, false⟩
@[simp] theorem t297_size : t297.size = 1 := rfl
@[simp] theorem t297_bytes : t297.bytes = 4 := rfl
@[simp] theorem t297_z : t297.z = .lit (.int .u32 0) := rfl
@[simp] theorem t297_y : t297.y = .lit (.int .u32 0) := rfl
@[simp] theorem t297_kind : t297.kind = .int .u32 := rfl
@[simp] theorem t297_cmp : t297.cmp = false := rfl
/-- uint64 -/
def t299 : TI := ⟨1, 8, .int .u64 0, .lit (.int .u64 0), .lit (.int .u64 0), .int .u64, false⟩
@[simp] theorem t299_size : t299.size = 1 := rfl
@[simp] theorem t299_bytes : t299.bytes = 8 := rfl
@[simp] theorem t299_z : t299.z = .lit (.int .u64 0) := rfl
@[simp] theorem t299_y : t299.y = .lit (.int .u64 0) := rfl
@[simp] theorem t299_kind : t299.kind = .int .u64 := rfl
@[simp] theorem t299_cmp : t299.cmp = false := rfl
/-- laws.Mark = loop.example/g03007/laws.Mark -/
def t304 : TI := ⟨2, 16, .agg #[.int .i64 0, .int .i64 0], .agg [.lit (.int .i64 0), .lit (.int .i64 0)], yTMark, .st [(0, 3), (1, 3)], true⟩
@[simp] theorem t304_size : t304.size = 2 := rfl
@[simp] theorem t304_bytes : t304.bytes = 16 := rfl
@[simp] theorem t304_z : t304.z = .agg [.lit (.int .i64 0), .lit (.int .i64 0)] := rfl
@[simp] theorem t304_y : t304.y = yTMark := rfl
@[simp] theorem t304_kind : t304.kind = .st [(0, 3), (1, 3)] := rfl
@[simp] theorem t304_cmp : t304.cmp = true := rfl
/-- slices.xorshift -/
def t307 : TI := ⟨1, 8, .int .u64 0, .lit (.int .u64 0), .lit (.int .u64 0), .int .u64, false⟩
@[simp] theorem t307_size : t307.size = 1 := rfl
@[simp] theorem t307_bytes : t307.bytes = 8 := rfl
@[simp] theorem t307_z : t307.z = .lit (.int .u64 0) := rfl
@[simp] theorem t307_y : t307.y = .lit (.int .u64 0) := rfl
@[simp] theorem t307_kind : t307.kind = .int .u64 := rfl
@[simp] theorem t307_cmp : t307.cmp = false := rfl
/-- *int -/
def t311 : TI := ⟨1, 8, .pointer none, .lit (.pointer none), .lit (.pointer none), .ptr 3, false⟩
@[simp] theorem t311_size : t311.size = 1 := rfl
@[simp] theorem t311_bytes : t311.bytes = 8 := rfl
@[simp] theorem t311_z : t311.z = .lit (.pointer none) := rfl
@[simp] theorem t311_y : t311.y = .lit (.pointer none) := rfl
@[simp] theorem t311_kind : t311.kind = .ptr 3 := rfl
@[simp] theorem t311_cmp : t311.cmp = false := rfl
/-- *slices.xorshift -/
def t314 : TI := ⟨1, 8, .pointer none, .lit (.pointer none), .lit (.pointer none), .ptr 307, false⟩
@[simp] theorem t314_size : t314.size = 1 := rfl
@[simp] theorem t314_bytes : t314.bytes = 8 := rfl
@[simp] theorem t314_z : t314.z = .lit (.pointer none) := rfl
@[simp] theorem t314_y : t314.y = .lit (.pointer none) := rfl
@[simp] theorem t314_kind : t314.kind = .ptr 307 := rfl
@[simp] theorem t314_cmp : t314.cmp = false := rfl
/-- func(unsafe.Pointer, unsafe.Pointer) bool -/
def t324 : TI := ⟨1, 8, .nilFunc, .lit .nilFunc, .lit .nilFunc, .func, false⟩
@[simp] theorem t324_size : t324.size = 1 := rfl
@[simp] theorem t324_bytes : t324.bytes = 8 := rfl
@[simp] theorem t324_z : t324.z = .lit .nilFunc := rfl
@[simp] theorem t324_y : t324.y = .lit .nilFunc := rfl
@[simp] theorem t324_kind : t324.kind = .func := rfl
@[simp] theorem t324_cmp : t324.cmp = false := rfl
/-- *uint8 -/
def t325 : TI := ⟨1, 8, .pointer none, .lit (.pointer none), .lit (.pointer none), .ptr 5, false⟩
@[simp] theorem t325_size : t325.size = 1 := rfl
@[simp] theorem t325_bytes : t325.bytes = 8 := rfl
@[simp] theorem t325_z : t325.z = .lit (.pointer none) := rfl
@[simp] theorem t325_y : t325.y = .lit (.pointer none) := rfl
@[simp] theorem t325_kind : t325.kind = .ptr 5 := rfl
@[simp] theorem t325_cmp : t325.cmp = false := rfl
/-- struct { Size_ uintptr; PtrBytes uintptr; Hash uint32; TFlag abi.TFlag; Align_ uint8; FieldAlign_ uint8; Kind_ abi.Kind; Equal func(unsafe.Pointer, unsafe.Pointer) bool; GCData *uint8; Str abi.NameOff; PtrToThis abi.TypeOff } -/
def t328 : TI := ⟨11, 48, .agg #[.int .u64 0, .int .u64 0, .int .u32 0, .int .u8 0, .int .u8 0, .int .u8 0, .int .u8 0, .nilFunc, .pointer none, .int .i32 0, .int .i32 0], .agg [.lit (.int .u64 0), .lit (.int .u64 0), .lit (.int .u32 0), .lit (.int .u8 0), .lit (.int .u8 0), .lit (.int .u8 0), .lit (.int .u8 0), .lit .nilFunc, .lit (.pointer none), .lit (.int .i32 0), .lit (.int .i32 0)], .any, .st [(0, 12), (1, 12), (2, 297), (3, 322), (4, 5), (5, 5), (6, 323), (7, 324), (8, 325), (9, 326), (10, 327)], false⟩
@[simp] theorem t328_size : t328.size = 11 := rfl
@[simp] theorem t328_bytes : t328.bytes = 48 := rfl
@[simp] theorem t328_z : t328.z = .agg [.lit (.int .u64 0), .lit (.int .u64 0), .lit (.int .u32 0), .lit (.int .u8 0), .lit (.int .u8 0), .lit (.int .u8 0), .lit (.int .u8 0), .lit .nilFunc, .lit (.pointer none), .lit (.int .i32 0), .lit (.int .i32 0)] := rfl
@[simp] theorem t328_y : t328.y = .any := rfl
@[simp] theorem t328_kind : t328.kind = .st [(0, 12), (1, 12), (2, 297), (3, 322), (4, 5), (5, 5), (6, 323), (7, 324), (8, 325), (9, 326), (10, 327)] := rfl
@[simp] theorem t328_cmp : t328.cmp = false := rfl
/-- struct { kind int; colour int; size int; place int } -/
def t334 : TI := ⟨4, 32, .agg #[.int .i64 0, .int .i64 0, .int .i64 0, .int .i64 0], .agg [.lit (.int .i64 0), .lit (.int .i64 0), .lit (.int .i64 0), .lit (.int .i64 0)], yTLikeness, .st [(0, 3), (1, 3), (2, 3), (3, 3)], true⟩
@[simp] theorem t334_size : t334.size = 4 := rfl
@[simp] theorem t334_bytes : t334.bytes = 32 := rfl
@[simp] theorem t334_z : t334.z = .agg [.lit (.int .i64 0), .lit (.int .i64 0), .lit (.int .i64 0), .lit (.int .i64 0)] := rfl
@[simp] theorem t334_y : t334.y = yTLikeness := rfl
@[simp] theorem t334_kind : t334.kind = .st [(0, 3), (1, 3), (2, 3), (3, 3)] := rfl
@[simp] theorem t334_cmp : t334.cmp = true := rfl
/-- impl.likeness = loop.example/g03007/impl.likeness -/
def t335 : TI := ⟨4, 32, .agg #[.int .i64 0, .int .i64 0, .int .i64 0, .int .i64 0], .agg [.lit (.int .i64 0), .lit (.int .i64 0), .lit (.int .i64 0), .lit (.int .i64 0)], yTLikeness, .st [(0, 3), (1, 3), (2, 3), (3, 3)], true⟩
@[simp] theorem t335_size : t335.size = 4 := rfl
@[simp] theorem t335_bytes : t335.bytes = 32 := rfl
@[simp] theorem t335_z : t335.z = .agg [.lit (.int .i64 0), .lit (.int .i64 0), .lit (.int .i64 0), .lit (.int .i64 0)] := rfl
@[simp] theorem t335_y : t335.y = yTLikeness := rfl
@[simp] theorem t335_kind : t335.kind = .st [(0, 3), (1, 3), (2, 3), (3, 3)] := rfl
@[simp] theorem t335_cmp : t335.cmp = true := rfl
theorem t2_ok : t2.ok Try.prog 2 := ⟨by kernel_rfl, by kernel_rfl, by kernel_rfl, Try.underlying2, (fun h => by cases h), ⟨rfl, rfl, rfl, rfl, fun F h β => by simp [t2, Rep, Reps]⟩⟩
theorem t3_ok : t3.ok Try.prog 3 := ⟨by kernel_rfl, by kernel_rfl, by kernel_rfl, Try.underlying3, (fun h => by cases h), ⟨rfl, rfl, rfl, rfl, fun F h β => by simp [t3, Rep, Reps]⟩⟩
theorem t4_ok : t4.ok Try.prog 4 := ⟨by kernel_rfl, by kernel_rfl, by kernel_rfl, Try.underlying4, (fun h => by cases h), ⟨rfl, rfl, rfl, rfl, fun F h β => by simp [t4, Rep, Reps]⟩⟩
theorem t5_ok : t5.ok Try.prog 5 := ⟨by kernel_rfl, by kernel_rfl, by kernel_rfl, Try.underlying5, (fun h => by cases h), ⟨rfl, rfl, rfl, rfl, fun F h β => by simp [t5, Rep, Reps]⟩⟩
theorem t9_ok : t9.ok Try.prog 9 := ⟨by kernel_rfl, by kernel_rfl, by kernel_rfl, Try.underlying9, (fun h => by cases h), ⟨rfl, rfl, rfl, rfl, fun F h β => by simp [t9, Rep, Reps]⟩⟩
theorem t12_ok : t12.ok Try.prog 12 := ⟨by kernel_rfl, by kernel_rfl, by kernel_rfl, Try.underlying12, (fun h => by cases h), ⟨rfl, rfl, rfl, rfl, fun F h β => by simp [t12, Rep, Reps]⟩⟩
theorem t20_ok : t20.ok Try.prog 20 := ⟨by kernel_rfl, by kernel_rfl, by kernel_rfl, ⟨_, Try.underlying20⟩, (fun h => by cases h), ⟨rfl, rfl, rfl, rfl, fun F h β => by simp [t20, Rep, Reps]⟩⟩
theorem t21_ok : t21.ok Try.prog 21 := ⟨by kernel_rfl, by kernel_rfl, by kernel_rfl, Try.underlying21, (fun h => by cases h), ⟨rfl, rfl, rfl, rfl, fun F h β => by simp [t21, Rep, Reps]⟩⟩
theorem t22_ok : t22.ok Try.prog 22 := ⟨by kernel_rfl, by kernel_rfl, by kernel_rfl, Try.underlying22, (fun h => by cases h), ⟨rfl, rfl, rfl, rfl, fun F h β => by simp [t22, Rep, Reps]⟩⟩
theorem t34_ok : t34.ok Try.prog 34 := ⟨by kernel_rfl, by kernel_rfl, by kernel_rfl, Try.underlying34, (fun h => by cases h), ⟨rfl, rfl, rfl, rfl, fun F h β => by simp [t34, Rep, Reps]⟩⟩
theorem t42_ok : t42.ok Try.prog 42 := ⟨by kernel_rfl, by kernel_rfl, by kernel_rfl, ⟨_, Try.underlying42, rfl⟩, (fun _ => eqInts_of (by kernel_rfl) (by kernel_rfl) (by kernel_rfl)), ⟨rfl, rfl, rfl, rfl, fun F h β => by simp [t42, Rep, Reps]⟩⟩
theorem t43_ok : t43.ok Try.prog 43 := ⟨by kernel_rfl, by kernel_rfl, by kernel_rfl, ⟨_, Try.underlying43, rfl⟩, (fun _ => eqInts_of (by kernel_rfl) (by kernel_rfl) (by kernel_rfl)), ⟨rfl, rfl, rfl, rfl, fun F h β => by simp [t43, Rep, Reps]⟩⟩
theorem t44_ok : t44.ok Try.prog 44 := ⟨by kernel_rfl, by kernel_rfl, by kernel_rfl, ⟨_, Try.underlying44, rfl⟩, (fun h => by cases h), ⟨rfl, rfl, rfl, rfl, fun F h β => by
    show Rep F h β t44.z t44.zero
    simp only [t44, Rep, Reps]
    exact ⟨_, rfl, _, _, rfl, (by trivial), _, _, rfl, (by trivial), _, _, rfl, (.inl ⟨by trivial, none, 0, by trivial, by intros; rfl⟩), _, _, rfl, (by trivial), _, _, rfl, (by trivial), _, _, rfl, (.inl ⟨by trivial, none, 0, by trivial, by intros; rfl⟩), _, _, rfl, (by trivial), _, _, rfl, (by trivial), rfl⟩⟩⟩
theorem t45_ok : t45.ok Try.prog 45 := ⟨by kernel_rfl, by kernel_rfl, by kernel_rfl, ⟨_, Try.underlying45, rfl⟩, (fun h => by cases h), ⟨rfl, rfl, rfl, rfl, fun F h β => by
    show Rep F h β t45.z t45.zero
    simp only [t45, Rep, Reps]
    exact ⟨_, rfl, _, _, rfl, (by trivial), _, _, rfl, (by trivial), _, _, rfl, (.inl ⟨by trivial, none, 0, by trivial, by intros; rfl⟩), _, _, rfl, (by trivial), _, _, rfl, (by trivial), _, _, rfl, (.inl ⟨by trivial, none, 0, by trivial, by intros; rfl⟩), _, _, rfl, (by trivial), _, _, rfl, (by trivial), rfl⟩⟩⟩
theorem t46_ok : t46.ok Try.prog 46 := ⟨by kernel_rfl, by kernel_rfl, by kernel_rfl, Try.underlying46, (fun h => by cases h), ⟨rfl, rfl, rfl, rfl, fun F h β => by simp [t46, Rep, Reps]⟩⟩
theorem t50_ok : t50.ok Try.prog 50 := ⟨by kernel_rfl, by kernel_rfl, by kernel_rfl, ⟨_, Try.underlying50, rfl⟩, (fun _ => eqInts_of (by kernel_rfl) (by kernel_rfl) (by kernel_rfl)), ⟨rfl, rfl, rfl, rfl, fun F h β => by simp [t50, Rep, Reps]⟩⟩
theorem t51_ok : t51.ok Try.prog 51 := ⟨by kernel_rfl, by kernel_rfl, by kernel_rfl, ⟨_, Try.underlying51, rfl⟩, (fun h => by cases h), ⟨rfl, rfl, rfl, rfl, fun F h β => by
    show Rep F h β t51.z t51.zero
    simp only [t51, Rep, Reps]
    exact ⟨_, rfl, _, _, rfl, (by trivial), _, _, rfl, (by trivial), _, _, rfl, (.inl ⟨by trivial, none, 0, by trivial, by intros; rfl⟩), _, _, rfl, (by trivial), _, _, rfl, (by trivial), _, _, rfl, (.inl ⟨by trivial, none, 0, by trivial, by intros; rfl⟩), _, _, rfl, (by trivial), _, _, rfl, (by trivial), rfl⟩⟩⟩
theorem t52_ok : t52.ok Try.prog 52 := ⟨by kernel_rfl, by kernel_rfl, by kernel_rfl, ⟨_, Try.underlying52, rfl⟩, (fun h => by cases h), ⟨rfl, rfl, rfl, rfl, fun F h β => by
    show Rep F h β t52.z t52.zero
    simp only [t52, Rep, Reps]
    exact ⟨_, rfl, _, _, rfl, (by trivial), _, _, rfl, (by trivial), _, _, rfl, (.inl ⟨by trivial, none, 0, by trivial, by intros; rfl⟩), _, _, rfl, (by trivial), _, _, rfl, (by trivial), _, _, rfl, (.inl ⟨by trivial, none, 0, by trivial, by intros; rfl⟩), _, _, rfl, (by trivial), _, _, rfl, (by trivial), rfl⟩⟩⟩
theorem t54_ok : t54.ok Try.prog 54 := ⟨by kernel_rfl, by kernel_rfl, by kernel_rfl, Try.underlying54, (fun h => by cases h), ⟨rfl, rfl, rfl, rfl, fun F h β => by simp [t54, Rep, Reps]⟩⟩
theorem t59_ok : t59.ok Try.prog 59 := ⟨by kernel_rfl, by kernel_rfl, by kernel_rfl, ⟨_, Try.underlying59, rfl⟩, (fun _ => eqInts_of (by kernel_rfl) (by kernel_rfl) (by kernel_rfl)), ⟨rfl, rfl, rfl, rfl, fun F h β => by simp [t59, Rep, Reps]⟩⟩
theorem t60_ok : t60.ok Try.prog 60 := ⟨by kernel_rfl, by kernel_rfl, by kernel_rfl, ⟨_, Try.underlying60, rfl⟩, (fun _ => eqInts_of (by kernel_rfl) (by kernel_rfl) (by kernel_rfl)), ⟨rfl, rfl, rfl, rfl, fun F h β => by simp [t60, Rep, Reps]⟩⟩
theorem t61_ok : t61.ok Try.prog 61 := ⟨by kernel_rfl, by kernel_rfl, by kernel_rfl, ⟨_, Try.underlying61, rfl⟩, (fun _ => eqInts_of (by kernel_rfl) (by kernel_rfl) (by kernel_rfl)), ⟨rfl, rfl, rfl, rfl, fun F h β => by simp [t61, Rep, Reps]⟩⟩
theorem t62_ok : t62.ok Try.prog 62 := ⟨by kernel_rfl, by kernel_rfl, by kernel_rfl, ⟨_, Try.underlying62, rfl⟩, (fun _ => eqInts_of (by kernel_rfl) (by kernel_rfl) (by kernel_rfl)), ⟨rfl, rfl, rfl, rfl, fun F h β => by simp [t62, Rep, Reps]⟩⟩
theorem t63_ok : t63.ok Try.prog 63 := ⟨by kernel_rfl, by kernel_rfl, by kernel_rfl, ⟨_, Try.underlying63, rfl⟩, (fun h => by cases h), ⟨rfl, rfl, rfl, rfl, fun F h β => by
    show Rep F h β t63.z t63.zero
    simp only [t63, Rep, Reps]
    exact ⟨_, rfl, _, _, rfl, (.inl ⟨by trivial, none, 0, by trivial, by intros; rfl⟩), _, _, rfl, (by trivial), _, _, rfl, (.inl ⟨by trivial, none, 0, by trivial, by intros; rfl⟩), _, _, rfl, (by trivial), rfl⟩⟩⟩
theorem t64_ok : t64.ok Try.prog 64 := ⟨by kernel_rfl, by kernel_rfl, by kernel_rfl, ⟨_, Try.underlying64, rfl⟩, (fun h => by cases h), ⟨rfl, rfl, rfl, rfl, fun F h β => by
    show Rep F h β t64.z t64.zero
    simp only [t64, Rep, Reps]
    exact ⟨_, rfl, _, _, rfl, (.inl ⟨by trivial, none, 0, by trivial, by intros; rfl⟩), _, _, rfl, (by trivial), _, _, rfl, (.inl ⟨by trivial, none, 0, by trivial, by intros; rfl⟩), _, _, rfl, (by trivial), rfl⟩⟩⟩
theorem t68_ok : t68.ok Try.prog 68 := ⟨by kernel_rfl, by kernel_rfl, by kernel_rfl, ⟨_, Try.underlying68, rfl⟩, (fun _ => eqInts_of (by kernel_rfl) (by kernel_rfl) (by kernel_rfl)), ⟨rfl, rfl, rfl, rfl, fun F h β => by simp [t68, Rep, Reps]⟩⟩
theorem t69_ok : t69.ok Try.prog 69 := ⟨by kernel_rfl, by kernel_rfl, by kernel_rfl, ⟨_, Try.underlying69, rfl⟩, (fun _ => eqInts_of (by kernel_rfl) (by kernel_rfl) (by kernel_rfl)), ⟨rfl, rfl, rfl, rfl, fun F h β => by simp [t69, Rep, Reps]⟩⟩
theorem t70_ok : t70.ok Try.prog 70 := ⟨by kernel_rfl, by kernel_rfl, by kernel_rfl, ⟨_, Try.underlying70, rfl⟩, (fun _ => eqInts_of (by kernel_rfl) (by kernel_rfl) (by kernel_rfl)), ⟨rfl, rfl, rfl, rfl, fun F h β => by simp [t70, Rep, Reps]⟩⟩
theorem t72_ok : t72.ok Try.prog 72 := ⟨by kernel_rfl, by kernel_rfl, by kernel_rfl, ⟨_, Try.underlying72, rfl⟩, (fun h => by cases h), ⟨rfl, rfl, rfl, rfl, fun F h β => by
    show Rep F h β t72.z t72.zero
    simp only [t72, Rep, Reps]
    exact ⟨_, rfl, _, _, rfl, (.inl ⟨by trivial, none, 0, by trivial, by intros; rfl⟩), _, _, rfl, (by trivial), _, _, rfl, (.inl ⟨by trivial, none, 0, by trivial, by intros; rfl⟩), _, _, rfl, (by trivial), rfl⟩⟩⟩
theorem t81_ok : t81.ok Try.prog 81 := ⟨by kernel_rfl, by kernel_rfl, by kernel_rfl, Try.underlying81, (fun h => by cases h), ⟨rfl, rfl, rfl, rfl, fun F h β => by simp [t81, Rep, Reps]⟩⟩
theorem t82_ok : t82.ok Try.prog 82 := ⟨by kernel_rfl, by kernel_rfl, by kernel_rfl, Try.underlying82, (fun h => by cases h), ⟨rfl, rfl, rfl, rfl, fun F h β => by simp [t82, Rep, Reps]⟩⟩
theorem t86_ok : t86.ok Try.prog 86 := ⟨by kernel_rfl, by kernel_rfl, by kernel_rfl, Try.underlying86, (fun h => by cases h), ⟨rfl, rfl, rfl, rfl, fun F h β => by simp [t86, Rep, Reps]⟩⟩
theorem t88_ok : t88.ok Try.prog 88 := ⟨by kernel_rfl, by kernel_rfl, by kernel_rfl, Try.underlying88, (fun h => by cases h), ⟨rfl, rfl, rfl, rfl, fun F h β => by simp [t88, Rep, Reps]⟩⟩
theorem t93_ok : t93.ok Try.prog 93 := ⟨by kernel_rfl, by kernel_rfl, by kernel_rfl, Try.underlying93, (fun h => by cases h), ⟨rfl, rfl, rfl, rfl, fun F h β => by simp [t93, Rep, Reps]⟩⟩
theorem t97_ok : t97.ok Try.prog 97 := ⟨by kernel_rfl, by kernel_rfl, by kernel_rfl, Try.underlying97, (fun h => by cases h), ⟨rfl, rfl, rfl, rfl, fun F h β => by simp [t97, Rep, Reps]⟩⟩
theorem t104_ok : t104.ok Try.prog 104 := ⟨by kernel_rfl, by kernel_rfl, by kernel_rfl, Try.underlying104, (fun h => by cases h), ⟨rfl, rfl, rfl, rfl, fun F h β => by simp [t104, Rep, Reps]⟩⟩
theorem t112_ok : t112.ok Try.prog 112 := ⟨by kernel_rfl, by kernel_rfl, by kernel_rfl, Try.underlying112, (fun h => by cases h), ⟨rfl, rfl, rfl, rfl, fun F h β => by simp [t112, Rep, Reps]⟩⟩
theorem t113_ok : t113.ok Try.prog 113 := ⟨by kernel_rfl, by kernel_rfl, by kernel_rfl, Try.underlying113, (fun h => by cases h), ⟨rfl, rfl, rfl, rfl, fun F h β => by simp [t113, Rep, Reps]⟩⟩
theorem t114_ok : t114.ok Try.prog 114 := ⟨by kernel_rfl, by kernel_rfl, by kernel_rfl, Try.underlying114, (fun h => by cases h), ⟨rfl, rfl, rfl, rfl, fun F h β => by simp [t114, Rep, Reps]⟩⟩
theorem t115_ok : t115.ok Try.prog 115 := ⟨by kernel_rfl, by kernel_rfl, by kernel_rfl, Try.underlying115, (fun h => by cases h), ⟨rfl, rfl, rfl, rfl, fun F h β => by simp [t115, Rep, Reps]⟩⟩
theorem t116_ok : t116.ok Try.prog 116 := ⟨by kernel_rfl, by kernel_rfl, by kernel_rfl, Try.underlying116, (fun h => by cases h), ⟨rfl, rfl, rfl, rfl, fun F h β => by simp [t116, Rep, Reps]⟩⟩
theorem t117_ok : t117.ok Try.prog 117 := ⟨by kernel_rfl, by kernel_rfl, by kernel_rfl, ⟨_, Try.underlying117, rfl⟩, (fun h => by cases h), ⟨rfl, rfl, rfl, rfl, fun F h β => by
    show Rep F h β t117.z t117.zero
    simp only [t117, Rep, Reps]
    exact ⟨_, rfl, _, _, rfl, (by trivial), _, _, rfl, (.inl ⟨by trivial, none, 0, by trivial, by intros; rfl⟩), _, _, rfl, (.inl ⟨by trivial, none, 0, by trivial, by intros; rfl⟩), _, _, rfl, (.inl ⟨by trivial, none, 0, by trivial, by intros; rfl⟩), _, _, rfl, (.inl ⟨by trivial, none, 0, by trivial, by intros; rfl⟩), _, _, rfl, (.inl ⟨by trivial, none, 0, by trivial, by intros; rfl⟩), _, _, rfl, (.inl ⟨by trivial, none, 0, by trivial, by intros; rfl⟩), _, _, rfl, (.inl ⟨by trivial, none, 0, by trivial, by intros; rfl⟩), _, _, rfl, (by trivial), rfl⟩⟩⟩
theorem t118_ok : t118.ok Try.prog 118 := ⟨by kernel_rfl, by kernel_rfl, by kernel_rfl, ⟨_, Try.underlying118, rfl⟩, (fun h => by cases h), ⟨rfl, rfl, rfl, rfl, fun F h β => by
    show Rep F h β t118.z t118.zero
    simp only [t118, Rep, Reps]
    exact ⟨_, rfl, _, _, rfl, (by trivial), _, _, rfl, (.inl ⟨by trivial, none, 0, by trivial, by intros; rfl⟩), _, _, rfl, (.inl ⟨by trivial, none, 0, by trivial, by intros; rfl⟩), _, _, rfl, (.inl ⟨by trivial, none, 0, by trivial, by intros; rfl⟩), _, _, rfl, (.inl ⟨by trivial, none, 0, by trivial, by intros; rfl⟩), _, _, rfl, (.inl ⟨by trivial, none, 0, by trivial, by intros; rfl⟩), _, _, rfl, (.inl ⟨by trivial, none, 0, by trivial, by intros; rfl⟩), _, _, rfl, (.inl ⟨by trivial, none, 0, by trivial, by intros; rfl⟩), _, _, rfl, (by trivial), rfl⟩⟩⟩
theorem t121_ok : t121.ok Try.prog 121 := ⟨by kernel_rfl, by kernel_rfl, by kernel_rfl, Try.underlying121, (fun h => by cases h), ⟨rfl, rfl, rfl, rfl, fun F h β => by simp [t121, Rep, Reps]⟩⟩
theorem t122_ok : t122.ok Try.prog 122 := ⟨by kernel_rfl, by kernel_rfl, by kernel_rfl, Try.underlying122, (fun h => by cases h), ⟨rfl, rfl, rfl, rfl, fun F h β => by simp [t122, Rep, Reps]⟩⟩
theorem t123_ok : t123.ok Try.prog 123 := ⟨by kernel_rfl, by kernel_rfl, by kernel_rfl, Try.underlying123, (fun h => by cases h), ⟨rfl, rfl, rfl, rfl, fun F h β => by simp [t123, Rep, Reps]⟩⟩
theorem t124_ok : t124.ok Try.prog 124 := ⟨by kernel_rfl, by kernel_rfl, by kernel_rfl, Try.underlying124, (fun h => by cases h), ⟨rfl, rfl, rfl, rfl, fun F h β => by simp [t124, Rep, Reps]⟩⟩
theorem t125_ok : t125.ok Try.prog 125 := ⟨by kernel_rfl, by kernel_rfl, by kernel_rfl, Try.underlying125, (fun h => by cases h), ⟨rfl, rfl, rfl, rfl, fun F h β => by simp [t125, Rep, Reps]⟩⟩
theorem t126_ok : t126.ok Try.prog 126 := ⟨by kernel_rfl, by kernel_rfl, by kernel_rfl, ⟨_, Try.underlying126, rfl⟩, (fun h => by cases h), ⟨rfl, rfl, rfl, rfl, fun F h β => by
    show Rep F h β t126.z t126.zero
    simp only [t126, Rep, Reps]
    exact ⟨_, rfl, _, _, rfl, (by trivial), _, _, rfl, (.inl ⟨by trivial, none, 0, by trivial, by intros; rfl⟩), _, _, rfl, (.inl ⟨by trivial, none, 0, by trivial, by intros; rfl⟩), _, _, rfl, (.inl ⟨by trivial, none, 0, by trivial, by intros; rfl⟩), _, _, rfl, (.inl ⟨by trivial, none, 0, by trivial, by intros; rfl⟩), _, _, rfl, (.inl ⟨by trivial, none, 0, by trivial, by intros; rfl⟩), _, _, rfl, (.inl ⟨by trivial, none, 0, by trivial, by intros; rfl⟩), _, _, rfl, (.inl ⟨by trivial, none, 0, by trivial, by intros; rfl⟩), _, _, rfl, (by trivial), rfl⟩⟩⟩
theorem t127_ok : t127.ok Try.prog 127 := ⟨by kernel_rfl, by kernel_rfl, by kernel_rfl, ⟨_, Try.underlying127, rfl⟩, (fun h => by cases h), ⟨rfl, rfl, rfl, rfl, fun F h β => by
    show Rep F h β t127.z t127.zero
    simp only [t127, Rep, Reps]
    exact ⟨_, rfl, _, _, rfl, (by trivial), _, _, rfl, (.inl ⟨by trivial, none, 0, by trivial, by intros; rfl⟩), _, _, rfl, (.inl ⟨by trivial, none, 0, by trivial, by intros; rfl⟩), _, _, rfl, (.inl ⟨by trivial, none, 0, by trivial, by intros; rfl⟩), _, _, rfl, (.inl ⟨by trivial, none, 0, by trivial, by intros; rfl⟩), _, _, rfl, (.inl ⟨by trivial, none, 0, by trivial, by intros; rfl⟩), _, _, rfl, (.inl ⟨by trivial, none, 0, by trivial, by intros; rfl⟩), _, _, rfl, (.inl ⟨by trivial, none, 0, by trivial, by intros; rfl⟩), _, _, rfl, (by trivial), rfl⟩⟩⟩
theorem t138_ok : t138.ok Try.prog 138 := ⟨by kernel_rfl, by kernel_rfl, by kernel_rfl, Try.underlying138, (fun h => by cases h), ⟨rfl, rfl, rfl, rfl, fun F h β => by simp [t138, Rep, Reps]⟩⟩
theorem t146_ok : t146.ok Try.prog 146 := ⟨by kernel_rfl, by kernel_rfl, by kernel_rfl, ⟨_, _, _, Try.underlying146⟩, (fun h => by cases h), ⟨rfl, rfl, rfl, rfl, fun F h β => by simp [t146, Rep, Reps]⟩⟩
theorem t153_ok : t153.ok Try.prog 153 := ⟨by kernel_rfl, by kernel_rfl, by kernel_rfl, ⟨_, _, _, Try.underlying153⟩, (fun h => by cases h), ⟨rfl, rfl, rfl, rfl, fun F h β => by simp [t153, Rep, Reps]⟩⟩
theorem t161_ok : t161.ok Try.prog 161 := ⟨by kernel_rfl, by kernel_rfl, by kernel_rfl, ⟨_, Try.underlying161, rfl⟩, (fun _ => eqInts_of (by kernel_rfl) (by kernel_rfl) (by kernel_rfl)), ⟨rfl, rfl, rfl, rfl, fun F h β => by simp [t161, Rep, Reps]⟩⟩
theorem t162_ok : t162.ok Try.prog 162 := ⟨by kernel_rfl, by kernel_rfl, by kernel_rfl, ⟨_, Try.underlying162, rfl⟩, (fun _ => eqInts_of (by kernel_rfl) (by kernel_rfl) (by kernel_rfl)), ⟨rfl, rfl, rfl, rfl, fun F h β => by simp [t162, Rep, Reps]⟩⟩
theorem t164_ok : t164.ok Try.prog 164 := ⟨by kernel_rfl, by kernel_rfl, by kernel_rfl, ⟨_, Try.underlying164, rfl⟩, (fun _ => eqInts_of (by kernel_rfl) (by kernel_rfl) (by kernel_rfl)), ⟨rfl, rfl, rfl, rfl, fun F h β => by simp [t164, Rep, Reps]⟩⟩
theorem t169_ok : t169.ok Try.prog 169 := ⟨by kernel_rfl, by kernel_rfl, by kernel_rfl, ⟨_, Try.underlying169, rfl⟩, (fun _ => eqInts_of (by kernel_rfl) (by kernel_rfl) (by kernel_rfl)), ⟨rfl, rfl, rfl, rfl, fun F h β => by simp [t169, Rep, Reps]⟩⟩
theorem t170_ok : t170.ok Try.prog 170 := ⟨by kernel_rfl, by kernel_rfl, by kernel_rfl, ⟨_, Try.underlying170, rfl⟩, (fun _ => eqInts_of (by kernel_rfl) (by kernel_rfl) (by kernel_rfl)), ⟨rfl, rfl, rfl, rfl, fun F h β => by simp [t170, Rep, Reps]⟩⟩
theorem t172_ok : t172.ok Try.prog 172 := ⟨by kernel_rfl, by kernel_rfl, by kernel_rfl, ⟨_, Try.underlying172, rfl⟩, (fun _ => eqInts_of (by kernel_rfl) (by kernel_rfl) (by kernel_rfl)), ⟨rfl, rfl, rfl, rfl, fun F h β => by simp [t172, Rep, Reps]⟩⟩
theorem t174_ok : t174.ok Try.prog 174 := ⟨by kernel_rfl, by kernel_rfl, by kernel_rfl, Try.underlying174, (fun h => by cases h), ⟨rfl, rfl, rfl, rfl, fun F h β => by simp [t174, Rep, Reps]⟩⟩
theorem t191_ok : t191.ok Try.prog 191 := ⟨by kernel_rfl, by kernel_rfl, by kernel_rfl, ⟨_, Try.underlying191, rfl⟩, (fun _ => eqInts_of (by kernel_rfl) (by kernel_rfl) (by kernel_rfl)), ⟨rfl, rfl, rfl, rfl, fun F h β => by simp [t191, Rep, Reps]⟩⟩
theorem t192_ok : t192.ok Try.prog 192 := ⟨by kernel_rfl, by kernel_rfl, by kernel_rfl, ⟨_, Try.underlying192, rfl⟩, (fun _ => eqInts_of (by kernel_rfl) (by kernel_rfl) (by kernel_rfl)), ⟨rfl, rfl, rfl, rfl, fun F h β => by simp [t192, Rep, Reps]⟩⟩
theorem t194_ok : t194.ok Try.prog 194 := ⟨by kernel_rfl, by kernel_rfl, by kernel_rfl, ⟨_, Try.underlying194, rfl⟩, (fun _ => eqInts_of (by kernel_rfl) (by kernel_rfl) (by kernel_rfl)), ⟨rfl, rfl, rfl, rfl, fun F h β => by simp [t194, Rep, Reps]⟩⟩
theorem t195_ok : t195.ok Try.prog 195 := ⟨by kernel_rfl, by kernel_rfl, by kernel_rfl, ⟨_, Try.underlying195, rfl⟩, (fun _ => eqInts_of (by kernel_rfl) (by kernel_rfl) (by kernel_rfl)), ⟨rfl, rfl, rfl, rfl, fun F h β => by simp [t195, Rep, Reps]⟩⟩
theorem t197_ok : t197.ok Try.prog 197 := ⟨by kernel_rfl, by kernel_rfl, by kernel_rfl, ⟨_, Try.underlying197, rfl⟩, (fun _ => eqInts_of (by kernel_rfl) (by kernel_rfl) (by kernel_rfl)), ⟨rfl, rfl, rfl, rfl, fun F h β => by simp [t197, Rep, Reps]⟩⟩
theorem t198_ok : t198.ok Try.prog 198 := ⟨by kernel_rfl, by kernel_rfl, by kernel_rfl, ⟨_, Try.underlying198, rfl⟩, (fun _ => eqInts_of (by kernel_rfl) (by kernel_rfl) (by kernel_rfl)), ⟨rfl, rfl, rfl, rfl, fun F h β => by simp [t198, Rep, Reps]⟩⟩
theorem t200_ok : t200.ok Try.prog 200 := ⟨by kernel_rfl, by kernel_rfl, by kernel_rfl, ⟨_, Try.underlying200, rfl⟩, (fun _ => eqInts_of (by kernel_rfl) (by kernel_rfl) (by kernel_rfl)), ⟨rfl, rfl, rfl, rfl, fun F h β => by simp [t200, Rep, Reps]⟩⟩
theorem t201_ok : t201.ok Try.prog 201 := ⟨by kernel_rfl, by kernel_rfl, by kernel_rfl, ⟨_, Try.underlying201, rfl⟩, (fun _ => eqInts_of (by kernel_rfl) (by kernel_rfl) (by kernel_rfl)), ⟨rfl, rfl, rfl, rfl, fun F h β => by simp [t201, Rep, Reps]⟩⟩
theorem t210_ok : t210.ok Try.prog 210 := ⟨by kernel_rfl, by kernel_rfl, by kernel_rfl, ⟨_, _, _, Try.underlying210⟩, (fun h => by cases h), ⟨rfl, rfl, rfl, rfl, fun F h β => by simp [t210, Rep, Reps]⟩⟩
theorem t212_ok : t212.ok Try.prog 212 := ⟨by kernel_rfl, by kernel_rfl, by kernel_rfl, ⟨_, _, _, Try.underlying212⟩, (fun h => by cases h), ⟨rfl, rfl, rfl, rfl, fun F h β => by simp [t212, Rep, Reps]⟩⟩
theorem t213_ok : t213.ok Try.prog 213 := ⟨by kernel_rfl, by kernel_rfl, by kernel_rfl, ⟨_, Try.underlying213, rfl⟩, (fun h => by cases h), ⟨rfl, rfl, rfl, rfl, fun F h β => by
    show Rep F h β t213.z t213.zero
    simp only [t213, Rep, Reps]
    exact ⟨_, rfl, _, _, rfl, (.inl ⟨by trivial, none, 0, by trivial, by intros; rfl⟩), _, _, rfl, (by trivial), rfl⟩⟩⟩
theorem t214_ok : t214.ok Try.prog 214 := ⟨by kernel_rfl, by kernel_rfl, by kernel_rfl, ⟨_, Try.underlying214, rfl⟩, (fun h => by cases h), ⟨rfl, rfl, rfl, rfl, fun F h β => by
    show Rep F h β t214.z t214.zero
    simp only [t214, Rep, Reps]
    exact ⟨_, rfl, _, _, rfl, (.inl ⟨by trivial, none, 0, by trivial, by intros; rfl⟩), _, _, rfl, (by trivial), rfl⟩⟩⟩
theorem t221_ok : t221.ok Try.prog 221 := ⟨by kernel_rfl, by kernel_rfl, by kernel_rfl, Try.underlying221, (fun h => by cases h), ⟨rfl, rfl, rfl, rfl, fun F h β => by simp [t221, Rep, Reps]⟩⟩
theorem t223_ok : t223.ok Try.prog 223 := ⟨by kernel_rfl, by kernel_rfl, by kernel_rfl, Try.underlying223, (fun h => by cases h), ⟨rfl, rfl, rfl, rfl, fun F h β => by simp [t223, Rep, Reps]⟩⟩
theorem t224_ok : t224.ok Try.prog 224 := ⟨by kernel_rfl, by kernel_rfl, by kernel_rfl, Try.underlying224, (fun h => by cases h), ⟨rfl, rfl, rfl, rfl, fun F h β => by simp [t224, Rep, Reps]⟩⟩
theorem t227_ok : t227.ok Try.prog 227 := ⟨by kernel_rfl, by kernel_rfl, by kernel_rfl, ⟨_, _, _, Try.underlying227⟩, (fun h => by cases h), ⟨rfl, rfl, rfl, rfl, fun F h β => by simp [t227, Rep, Reps]⟩⟩
theorem t228_ok : t228.ok Try.prog 228 := ⟨by kernel_rfl, by kernel_rfl, by kernel_rfl, ⟨_, Try.underlying228, rfl⟩, (fun h => by cases h), ⟨rfl, rfl, rfl, rfl, fun F h β => by
    show Rep F h β t228.z t228.zero
    simp only [t228, Rep, Reps]
    exact ⟨_, rfl, _, _, rfl, (.inl ⟨by trivial, none, 0, by trivial, by intros; rfl⟩), _, _, rfl, (by trivial), rfl⟩⟩⟩
theorem t229_ok : t229.ok Try.prog 229 := ⟨by kernel_rfl, by kernel_rfl, by kernel_rfl, ⟨_, Try.underlying229, rfl⟩, (fun h => by cases h), ⟨rfl, rfl, rfl, rfl, fun F h β => by
    show Rep F h β t229.z t229.zero
    simp only [t229, Rep, Reps]
    exact ⟨_, rfl, _, _, rfl, (.inl ⟨by trivial, none, 0, by trivial, by intros; rfl⟩), _, _, rfl, (by trivial), rfl⟩⟩⟩
theorem t234_ok : t234.ok Try.prog 234 := ⟨by kernel_rfl, by kernel_rfl, by kernel_rfl, Try.underlying234, (fun h => by cases h), ⟨rfl, rfl, rfl, rfl, fun F h β => by simp [t234, Rep, Reps]⟩⟩
theorem t235_ok : t235.ok Try.prog 235 := ⟨by kernel_rfl, by kernel_rfl, by kernel_rfl, Try.underlying235, (fun h => by cases h), ⟨rfl, rfl, rfl, rfl, fun F h β => by simp [t235, Rep, Reps]⟩⟩
theorem t236_ok : t236.ok Try.prog 236 := ⟨by kernel_rfl, by kernel_rfl, by kernel_rfl, ⟨_, _, _, Try.underlying236⟩, (fun h => by cases h), ⟨rfl, rfl, rfl, rfl, fun F h β => by simp [t236, Rep, Reps]⟩⟩
theorem t238_ok : t238.ok Try.prog 238 := ⟨by kernel_rfl, by kernel_rfl, by kernel_rfl, Try.underlying238, (fun h => by cases h), ⟨rfl, rfl, rfl, rfl, fun F h β => by simp [t238, Rep, Reps]⟩⟩
theorem t240_ok : t240.ok Try.prog 240 := ⟨by kernel_rfl, by kernel_rfl, by kernel_rfl, Try.underlying240, (fun h => by cases h), ⟨rfl, rfl, rfl, rfl, fun F h β => by simp [t240, Rep, Reps]⟩⟩
theorem t241_ok : t241.ok Try.prog 241 := ⟨by kernel_rfl, by kernel_rfl, by kernel_rfl, ⟨_, Try.underlying241, rfl⟩, (fun h => by cases h), ⟨rfl, rfl, rfl, rfl, fun F h β => by
    show Rep F h β t241.z t241.zero
    simp only [t241, Rep, Reps]
    exact ⟨_, rfl, _, _, rfl, (by trivial), _, _, rfl, (.inl ⟨by trivial, none, 0, by trivial, by intros; rfl⟩), _, _, rfl, (by trivial), rfl⟩⟩⟩
theorem t242_ok : t242.ok Try.prog 242 := ⟨by kernel_rfl, by kernel_rfl, by kernel_rfl, ⟨_, Try.underlying242, rfl⟩, (fun h => by cases h), ⟨rfl, rfl, rfl, rfl, fun F h β => by
    show Rep F h β t242.z t242.zero
    simp only [t242, Rep, Reps]
    exact ⟨_, rfl, _, _, rfl, (by trivial), _, _, rfl, (.inl ⟨by trivial, none, 0, by trivial, by intros; rfl⟩), _, _, rfl, (by trivial), rfl⟩⟩⟩
theorem t243_ok : t243.ok Try.prog 243 := ⟨by kernel_rfl, by kernel_rfl, by kernel_rfl, Try.underlying243, (fun h => by cases h), ⟨rfl, rfl, rfl, rfl, fun F h β => by simp [t243, Rep, Reps]⟩⟩
theorem t244_ok : t244.ok Try.prog 244 := ⟨by kernel_rfl, by kernel_rfl, by kernel_rfl, ⟨_, Try.underlying244, rfl⟩, (fun h => by cases h), ⟨rfl, rfl, rfl, rfl, fun F h β => by
    show Rep F h β t244.z t244.zero
    simp only [t244, Rep, Reps]
    exact ⟨_, rfl, _, _, rfl, (by trivial), _, _, rfl, (.inl ⟨by trivial, none, 0, by trivial, by intros; rfl⟩), _, _, rfl, (by trivial), rfl⟩⟩⟩
theorem t245_ok : t245.ok Try.prog 245 := ⟨by kernel_rfl, by kernel_rfl, by kernel_rfl, ⟨_, Try.underlying245, rfl⟩, (fun h => by cases h), ⟨rfl, rfl, rfl, rfl, fun F h β => by
    show Rep F h β t245.z t245.zero
    simp only [t245, Rep, Reps]
    exact ⟨_, rfl, _, _, rfl, (by trivial), _, _, rfl, (.inl ⟨by trivial, none, 0, by trivial, by intros; rfl⟩), _, _, rfl, (by trivial), rfl⟩⟩⟩
theorem t249_ok : t249.ok Try.prog 249 := ⟨by kernel_rfl, by kernel_rfl, by kernel_rfl, ⟨_, Try.underlying249, rfl⟩, (fun _ => eqInts_of (by kernel_rfl) (by kernel_rfl) (by kernel_rfl)), ⟨rfl, rfl, rfl, rfl, fun F h β => by simp [t249, Rep, Reps]⟩⟩
theorem t251_ok : t251.ok Try.prog 251 := ⟨by kernel_rfl, by kernel_rfl, by kernel_rfl, ⟨_, Try.underlying251, rfl⟩, (fun _ => eqInts_of (by kernel_rfl) (by kernel_rfl) (by kernel_rfl)), ⟨rfl, rfl, rfl, rfl, fun F h β => by simp [t251, Rep, Reps]⟩⟩
theorem t253_ok : t253.ok Try.prog 253 := ⟨by kernel_rfl, by kernel_rfl, by kernel_rfl, ⟨_, Try.underlying253, rfl⟩, (fun _ => eqInts_of (by kernel_rfl) (by kernel_rfl) (by kernel_rfl)), ⟨rfl, rfl, rfl, rfl, fun F h β => by simp [t253, Rep, Reps]⟩⟩
theorem t255_ok : t255.ok Try.prog 255 := ⟨by kernel_rfl, by kernel_rfl, by kernel_rfl, ⟨_, Try.underlying255, rfl⟩, (fun _ => eqInts_of (by kernel_rfl) (by kernel_rfl) (by kernel_rfl)), ⟨rfl, rfl, rfl, rfl, fun F h β => by simp [t255, Rep, Reps]⟩⟩
theorem t257_ok : t257.ok Try.prog 257 := ⟨by kernel_rfl, by kernel_rfl, by kernel_rfl, ⟨_, Try.underlying257, rfl⟩, (fun _ => eqInts_of (by kernel_rfl) (by kernel_rfl) (by kernel_rfl)), ⟨rfl, rfl, rfl, rfl, fun F h β => by simp [t257, Rep, Reps]⟩⟩
theorem t258_ok : t258.ok Try.prog 258 := ⟨by kernel_rfl, by kernel_rfl, by kernel_rfl, ⟨_, Try.underlying258, rfl⟩, (fun _ => eqInts_of (by kernel_rfl) (by kernel_rfl) (by kernel_rfl)), ⟨rfl, rfl, rfl, rfl, fun F h β => by simp [t258, Rep, Reps]⟩⟩
theorem t265_ok : t265.ok Try.prog 265 := ⟨by kernel_rfl, by kernel_rfl, by kernel_rfl, Try.underlying265, (fun h => by cases h), ⟨rfl, rfl, rfl, rfl, fun F h β => by simp [t265, Rep, Reps]⟩⟩
theorem t270_ok : t270.ok Try.prog 270 := ⟨by kernel_rfl, by kernel_rfl, by kernel_rfl, Try.underlying270, (fun h => by cases h), ⟨rfl, rfl, rfl, rfl, fun F h β => by simp [t270, Rep, Reps]⟩⟩
theorem t274_ok : t274.ok Try.prog 274 := ⟨by kernel_rfl, by kernel_rfl, by kernel_rfl, Try.underlying274, (fun h => by cases h), ⟨rfl, rfl, rfl, rfl, fun F h β => by simp [t274, Rep, Reps]⟩⟩
theorem t275_ok : t275.ok Try.prog 275 := ⟨by kernel_rfl, by kernel_rfl, by kernel_rfl, ⟨_, Try.underlying275⟩, (fun h => by cases h), ⟨rfl, rfl, rfl, rfl, fun F h β => by simp [t275, Rep, Reps]⟩⟩
theorem t276_ok : t276.ok Try.prog 276 := ⟨by kernel_rfl, by kernel_rfl, by kernel_rfl, ⟨_, Try.underlying276⟩, (fun h => by cases h), ⟨rfl, rfl, rfl, rfl, fun F h β => by simp [t276, Rep, Reps]⟩⟩
theorem t285_ok : t285.ok Try.prog 285 := ⟨by kernel_rfl, by kernel_rfl, by kernel_rfl, Try.underlying285, (fun h => by cases h), ⟨rfl, rfl, rfl, rfl, fun F h β => by simp [t285, Rep, Reps]⟩⟩
theorem t287_ok : t287.ok Try.prog 287 := ⟨by kernel_rfl, by kernel_rfl, by kernel_rfl, ⟨_, Try.underlying287, rfl⟩, (fun h => by cases h), ⟨rfl, rfl, rfl, rfl, fun F h β => by simp [t287, Rep, Reps]⟩⟩
theorem t288_ok : t288.ok Try.prog 288 := ⟨by kernel_rfl, by kernel_rfl, by kernel_rfl, ⟨_, Try.underlying288, rfl⟩, (fun h => by cases h), ⟨rfl, rfl, rfl, rfl, fun F h β => by simp [t288, Rep, Reps]⟩⟩
theorem t290_ok : t290.ok Try.prog 290 := ⟨by kernel_rfl, by kernel_rfl, by kernel_rfl, Try.underlying290, (fun h => by cases h), ⟨rfl, rfl, rfl, rfl, fun F h β => by simp [t290, Rep, Reps]⟩⟩
theorem t297_ok : t297.ok Try.prog 297 := ⟨by kernel_rfl, by kernel_rfl, by kernel_rfl, Try.underlying297, (fun h => by cases h), ⟨rfl, rfl, rfl, rfl, fun F h β => by simp [t297, Rep, Reps]⟩⟩
theorem t299_ok : t299.ok Try.prog 299 := ⟨by kernel_rfl, by kernel_rfl, by kernel_rfl, Try.underlying299, (fun h => by cases h), ⟨rfl, rfl, rfl, rfl, fun F h β => by simp [t299, Rep, Reps]⟩⟩
theorem t304_ok : t304.ok Try.prog 304 := ⟨by kernel_rfl, by kernel_rfl, by kernel_rfl, ⟨_, Try.underlying304, rfl⟩, (fun _ => eqInts_of (by kernel_rfl) (by kernel_rfl) (by kernel_rfl)), ⟨rfl, rfl, rfl, rfl, fun F h β => by simp [t304, Rep, Reps]⟩⟩
theorem t307_ok : t307.ok Try.prog 307 := ⟨by kernel_rfl, by kernel_rfl, by kernel_rfl, Try.underlying307, (fun h => by cases h), ⟨rfl, rfl, rfl, rfl, fun F h β => by simp [t307, Rep, Reps]⟩⟩
theorem t311_ok : t311.ok Try.prog 311 := ⟨by kernel_rfl, by kernel_rfl, by kernel_rfl, Try.underlying311, (fun h => by cases h), ⟨rfl, rfl, rfl, rfl, fun F h β => by simp [t311, Rep, Reps]⟩⟩
theorem t314_ok : t314.ok Try.prog 314 := ⟨by kernel_rfl, by kernel_rfl, by kernel_rfl, Try.underlying314, (fun h => by cases h), ⟨rfl, rfl, rfl, rfl, fun F h β => by simp [t314, Rep, Reps]⟩⟩
theorem t324_ok : t324.ok Try.prog 324 := ⟨by kernel_rfl, by kernel_rfl, by kernel_rfl, ⟨_, _, _, Try.underlying324⟩, (fun h => by cases h), ⟨rfl, rfl, rfl, rfl, fun F h β => by simp [t324, Rep, Reps]⟩⟩
theorem t325_ok : t325.ok Try.prog 325 := ⟨by kernel_rfl, by kernel_rfl, by kernel_rfl, Try.underlying325, (fun h => by cases h), ⟨rfl, rfl, rfl, rfl, fun F h β => by simp [t325, Rep, Reps]⟩⟩
theorem t328_ok : t328.ok Try.prog 328 := ⟨by kernel_rfl, by kernel_rfl, by kernel_rfl, ⟨_, Try.underlying328, rfl⟩, (fun h => by cases h), ⟨rfl, rfl, rfl, rfl, fun F h β => by simp [t328, Rep, Reps]⟩⟩
theorem t334_ok : t334.ok Try.prog 334 := ⟨by kernel_rfl, by kernel_rfl, by kernel_rfl, ⟨_, Try.underlying334, rfl⟩, (fun _ => eqInts_of (by kernel_rfl) (by kernel_rfl) (by kernel_rfl)), ⟨rfl, rfl, rfl, rfl, fun F h β => by simp [t334, Rep, Reps]⟩⟩
theorem t335_ok : t335.ok Try.prog 335 := ⟨by kernel_rfl, by kernel_rfl, by kernel_rfl, ⟨_, Try.underlying335, rfl⟩, (fun _ => eqInts_of (by kernel_rfl) (by kernel_rfl) (by kernel_rfl)), ⟨rfl, rfl, rfl, rfl, fun F h β => by simp [t335, Rep, Reps]⟩⟩
def G : Ctx := [(2, t2), (3, t3), (4, t4), (5, t5), (9, t9), (12, t12), (20, t20), (21, t21), (22, t22), (34, t34), (42, t42), (43, t43), (44, t44), (45, t45), (46, t46), (50, t50), (51, t51), (52, t52), (54, t54), (59, t59), (60, t60), (61, t61), (62, t62), (63, t63), (64, t64), (68, t68), (69, t69), (70, t70), (72, t72), (81, t81), (82, t82), (86, t86), (88, t88), (93, t93), (97, t97), (104, t104), (112, t112), (113, t113), (114, t114), (115, t115), (116, t116), (117, t117), (118, t118), (121, t121), (122, t122), (123, t123), (124, t124), (125, t125), (126, t126), (127, t127), (138, t138), (146, t146), (153, t153), (161, t161), (162, t162), (164, t164), (169, t169), (170, t170), (172, t172), (174, t174), (191, t191), (192, t192), (194, t194), (195, t195), (197, t197), (198, t198), (200, t200), (201, t201), (210, t210), (212, t212), (213, t213), (214, t214), (221, t221), (223, t223), (224, t224), (227, t227), (228, t228), (229, t229), (234, t234), (235, t235), (236, t236), (238, t238), (240, t240), (241, t241), (242, t242), (243, t243), (244, t244), (245, t245), (249, t249), (251, t251), (253, t253), (255, t255), (257, t257), (258, t258), (265, t265), (270, t270), (274, t274), (275, t275), (276, t276), (285, t285), (287, t287), (288, t288), (290, t290), (297, t297), (299, t299), (304, t304), (307, t307), (311, t311), (314, t314), (324, t324), (325, t325), (328, t328), (334, t334), (335, t335)]
@[simp] theorem G_2 : G.get 2 = some t2 := rfl
@[simp] theorem G_3 : G.get 3 = some t3 := rfl
@[simp] theorem G_4 : G.get 4 = some t4 := rfl
@[simp] theorem G_5 : G.get 5 = some t5 := rfl
@[simp] theorem G_9 : G.get 9 = some t9 := rfl
@[simp] theorem G_12 : G.get 12 = some t12 := rfl
@[simp] theorem G_20 : G.get 20 = some t20 := rfl
@[simp] theorem G_21 : G.get 21 = some t21 := rfl
@[simp] theorem G_22 : G.get 22 = some t22 := rfl
@[simp] theorem G_34 : G.get 34 = some t34 := rfl
@[simp] theorem G_42 : G.get 42 = some t42 := rfl
@[simp] theorem G_43 : G.get 43 = some t43 := rfl
@[simp] theorem G_44 : G.get 44 = some t44 := rfl
@[simp] theorem G_45 : G.get 45 = some t45 := rfl
@[simp] theorem G_46 : G.get 46 = some t46 := rfl
@[simp] theorem G_50 : G.get 50 = some t50 := rfl
@[simp] theorem G_51 : G.get 51 = some t51 := rfl
@[simp] theorem G_52 : G.get 52 = some t52 := rfl
@[simp] theorem G_54 : G.get 54 = some t54 := rfl
@[simp] theorem G_59 : G.get 59 = some t59 := rfl
@[simp] theorem G_60 : G.get 60 = some t60 := rfl
@[simp] theorem G_61 : G.get 61 = some t61 := rfl
@[simp] theorem G_62 : G.get 62 = some t62 := rfl
@[simp] theorem G_63 : G.get 63 = some t63 := rfl
@[simp] theorem G_64 : G.get 64 = some t64 := rfl
@[simp] theorem G_68 : G.get 68 = some t68 := rfl
@[simp] theorem G_69 : G.get 69 = some t69 := rfl
@[simp] theorem G_70 : G.get 70 = some t70 := rfl
@[simp] theorem G_72 : G.get 72 = some t72 := rfl
@[simp] theorem G_81 : G.get 81 = some t81 := rfl
@[simp] theorem G_82 : G.get 82 = some t82 := rfl
@[simp] theorem G_86 : G.get 86 = some t86 := rfl
@[simp] theorem G_88 : G.get 88 = some t88 := rfl
@[simp] theorem G_93 : G.get 93 = some t93 := rfl
@[simp] theorem G_97 : G.get 97 = some t97 := rfl
@[simp] theorem G_104 : G.get 104 = some t104 := rfl
@[simp] theorem G_112 : G.get 112 = some t112 := rfl
@[simp] theorem G_113 : G.get 113 = some t113 := rfl
@[simp] theorem G_114 : G.get 114 = some t114 := rfl
@[simp] theorem G_115 : G.get 115 = some t115 := rfl
@[simp] theorem G_116 : G.get 116 = some t116 := rfl
@[simp] theorem G_117 : G.get 117 = some t117 := rfl
@[simp] theorem G_118 : G.get 118 = some t118 := rfl
@[simp] theorem G_121 : G.get 121 = some t121 := rfl
@[simp] theorem G_122 : G.get 122 = some t122 := rfl
@[simp] theorem G_123 : G.get 123 = some t123 := rfl
@[simp] theorem G_124 : G.get 124 = some t124 := rfl
@[simp] theorem G_125 : G.get 125 = some t125 := rfl
@[simp] theorem G_126 : G.get 126 = some t126 := rfl
@[simp] theorem G_127 : G.get 127 = some t127 := rfl
@[simp] theorem G_138 : G.get 138 = some t138 := rfl
@[simp] theorem G_146 : G.get 146 = some t146 := rfl
@[simp] theorem G_153 : G.get 153 = some t153 := rfl
@[simp] theorem G_161 : G.get 161 = some t161 := rfl
@[simp] theorem G_162 : G.get 162 = some t162 := rfl
@[simp] theorem G_164 : G.get 164 = some t164 := rfl
@[simp] theorem G_169 : G.get 169 = some t169 := rfl
@[simp] theorem G_170 : G.get 170 = some t170 := rfl
@[simp] theorem G_172 : G.get 172 = some t172 := rfl
@[simp] theorem G_174 : G.get 174 = some t174 := rfl
@[simp] theorem G_191 : G.get 191 = some t191 := rfl
@[simp] theorem G_192 : G.get 192 = some t192 := rfl
@[simp] theorem G_194 : G.get 194 = some t194 := rfl
@[simp] theorem G_195 : G.get 195 = some t195 := rfl
@[simp] theorem G_197 : G.get 197 = some t197 := rfl
@[simp] theorem G_198 : G.get 198 = some t198 := rfl
@[simp] theorem G_200 : G.get 200 = some t200 := rfl
@[simp] theorem G_201 : G.get 201 = some t201 := rfl
@[simp] theorem G_210 : G.get 210 = some t210 := rfl
@[simp] theorem G_212 : G.get 212 = some t212 := rfl
@[simp] theorem G_213 : G.get 213 = some t213 := rfl
@[simp] theorem G_214 : G.get 214 = some t214 := rfl
@[simp] theorem G_221 : G.get 221 = some t221 := rfl
@[simp] theorem G_223 : G.get 223 = some t223 := rfl
@[simp] theorem G_224 : G.get 224 = some t224 := rfl
@[simp] theorem G_227 : G.get 227 = some t227 := rfl
@[simp] theorem G_228 : G.get 228 = some t228 := rfl
@[simp] theorem G_229 : G.get 229 = some t229 := rfl
@[simp] theorem G_234 : G.get 234 = some t234 := rfl
@[simp] theorem G_235 : G.get 235 = some t235 := rfl
@[simp] theorem G_236 : G.get 236 = some t236 := rfl
@[simp] theorem G_238 : G.get 238 = some t238 := rfl
@[simp] theorem G_240 : G.get 240 = some t240 := rfl
@[simp] theorem G_241 : G.get 241 = some t241 := rfl
@[simp] theorem G_242 : G.get 242 = some t242 := rfl
@[simp] theorem G_243 : G.get 243 = some t243 := rfl
@[simp] theorem G_244 : G.get 244 = some t244 := rfl
@[simp] theorem G_245 : G.get 245 = some t245 := rfl
@[simp] theorem G_249 : G.get 249 = some t249 := rfl
@[simp] theorem G_251 : G.get 251 = some t251 := rfl
@[simp] theorem G_253 : G.get 253 = some t253 := rfl
@[simp] theorem G_255 : G.get 255 = some t255 := rfl
@[simp] theorem G_257 : G.get 257 = some t257 := rfl
@[simp] theorem G_258 : G.get 258 = some t258 := rfl
@[simp] theorem G_265 : G.get 265 = some t265 := rfl
@[simp] theorem G_270 : G.get 270 = some t270 := rfl
@[simp] theorem G_274 : G.get 274 = some t274 := rfl
@[simp] theorem G_275 : G.get 275 = some t275 := rfl
@[simp] theorem G_276 : G.get 276 = some t276 := rfl
@[simp] theorem G_285 : G.get 285 = some t285 := rfl
@[simp] theorem G_287 : G.get 287 = some t287 := rfl
@[simp] theorem G_288 : G.get 288 = some t288 := rfl
@[simp] theorem G_290 : G.get 290 = some t290 := rfl
@[simp] theorem G_297 : G.get 297 = some t297 := rfl
@[simp] theorem G_299 : G.get 299 = some t299 := rfl
@[simp] theorem G_304 : G.get 304 = some t304 := rfl
@[simp] theorem G_307 : G.get 307 = some t307 := rfl
@[simp] theorem G_311 : G.get 311 = some t311 := rfl
@[simp] theorem G_314 : G.get 314 = some t314 := rfl
@[simp] theorem G_324 : G.get 324 = some t324 := rfl
@[simp] theorem G_325 : G.get 325 = some t325 := rfl
@[simp] theorem G_328 : G.get 328 = some t328 := rfl
@[simp] theorem G_334 : G.get 334 = some t334 := rfl
@[simp] theorem G_335 : G.get 335 = some t335 := rfl
theorem G_ok : G.ok Try.prog := by
  intro p hp
  simp only [G, List.mem_cons, List.not_mem_nil, or_false] at hp
  rcases hp with rfl | rfl | rfl | rfl | rfl | rfl | rfl | rfl | rfl | rfl | rfl | rfl | rfl | rfl | rfl | rfl | rfl | rfl | rfl | rfl | rfl | rfl | rfl | rfl | rfl | rfl | rfl | rfl | rfl | rfl | rfl | rfl | rfl | rfl | rfl | rfl | rfl | rfl | rfl | rfl | rfl | rfl | rfl | rfl | rfl | rfl | rfl | rfl | rfl | rfl | rfl | rfl | rfl | rfl | rfl | rfl | rfl | rfl | rfl | rfl | rfl | rfl | rfl | rfl | rfl | rfl | rfl | rfl | rfl | rfl | rfl | rfl | rfl | rfl | rfl | rfl | rfl | rfl | rfl | rfl | rfl | rfl | rfl | rfl | rfl | rfl | rfl | rfl | rfl | rfl | rfl | rfl | rfl | rfl | rfl | rfl | rfl | rfl | rfl | rfl | rfl | rfl | rfl | rfl | rfl | rfl | rfl | rfl | rfl | rfl | rfl | rfl | rfl | rfl
  · exact t2_ok
  · exact t3_ok
  · exact t4_ok
  · exact t5_ok
  · exact t9_ok
  · exact t12_ok
  · exact t20_ok
  · exact t21_ok
  · exact t22_ok
  · exact t34_ok
  · exact t42_ok
  · exact t43_ok
  · exact t44_ok
  · exact t45_ok
  · exact t46_ok
  · exact t50_ok
  · exact t51_ok
  · exact t52_ok
  · exact t54_ok
  · exact t59_ok
  · exact t60_ok
  · exact t61_ok
  · exact t62_ok
  · exact t63_ok
  · exact t64_ok
  · exact t68_ok
  · exact t69_ok
  · exact t70_ok
  · exact t72_ok
  · exact t81_ok
  · exact t82_ok
  · exact t86_ok
  · exact t88_ok
  · exact t93_ok
  · exact t97_ok
  · exact t104_ok
  · exact t112_ok
  · exact t113_ok
  · exact t114_ok
  · exact t115_ok
  · exact t116_ok
  · exact t117_ok
  · exact t118_ok
  · exact t121_ok
  · exact t122_ok
  · exact t123_ok
  · exact t124_ok
  · exact t125_ok
  · exact t126_ok
  · exact t127_ok
  · exact t138_ok
  · exact t146_ok
  · exact t153_ok
  · exact t161_ok
  · exact t162_ok
  · exact t164_ok
  · exact t169_ok
  · exact t170_ok
  · exact t172_ok
  · exact t174_ok
  · exact t191_ok
  · exact t192_ok
  · exact t194_ok
  · exact t195_ok
  · exact t197_ok
  · exact t198_ok
  · exact t200_ok
  · exact t201_ok
  · exact t210_ok
  · exact t212_ok
  · exact t213_ok
  · exact t214_ok
  · exact t221_ok
  · exact t223_ok
  · exact t224_ok
  · exact t227_ok
  · exact t228_ok
  · exact t229_ok
  · exact t234_ok
  · exact t235_ok
  · exact t236_ok
  · exact t238_ok
  · exact t240_ok
  · exact t241_ok
  · exact t242_ok
  · exact t243_ok
  · exact t244_ok
  · exact t245_ok
  · exact t249_ok
  · exact t251_ok
  · exact t253_ok
  · exact t255_ok
  · exact t257_ok
  · exact t258_ok
  · exact t265_ok
  · exact t270_ok
  · exact t274_ok
  · exact t275_ok
  · exact t276_ok
  · exact t285_ok
  · exact t287_ok
  · exact t288_ok
  · exact t290_ok
  · exact t297_ok
  · exact t299_ok
  · exact t304_ok
  · exact t307_ok
  · exact t311_ok
  · exact t314_ok
  · exact t324_ok
  · exact t325_ok
  · exact t328_ok
  · exact t334_ok
  · exact t335_ok
theorem mix : Try.prog.follows .mixedOrders = true := by kernel_rfl
end Go.Proofs.Ytnkggfhgmdbfpaa
