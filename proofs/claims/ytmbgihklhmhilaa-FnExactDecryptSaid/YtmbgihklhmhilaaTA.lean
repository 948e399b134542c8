/- What is known of the types of this program: their sizes, zero values and parts. -/
import Derived.Test.YtmbgihklhmhilaaProg
import Derived.Test.YtmbgihklhmhilaaTY
import Derived.KernelRfl
namespace Go.Proofs.Ytmbgihklhmhilaa
open Go Go.Eng
set_option linter.unusedSimpArgs false
set_option linter.unusedVariables false
set_option maxRecDepth 20000
/-- int64 -/
def t2 : TI := ⟨1, 8, .int .i64 0, .lit (.int .i64 0), .lit (.int .i64 0), .int .i64, false⟩
@[simp] theorem t2_size : t2.size = 1 := rfl
@[simp] theorem t2_bytes : t2.bytes = 8 := rfl
@[simp] theorem t2_z : t2.z = .lit (.int .i64 0) := rfl
@[simp] theorem t2_y : t2.y = .lit (.int .i64 0) := rfl
@[simp] theorem t2_kind : t2.kind = .int .i64 := rfl
@[simp] theorem t2_cmp : t2.cmp = false := rfl
/-- int -/
def t3 : TI := ⟨1, 8, .int .i64 0, .lit (.int .i64 0), .lit (.int .i64 0), .int .i64, false⟩
@[simp] theorem t3_size : t3.size = 1 := rfl
@[simp] theorem t3_bytes : t3.bytes = 8 := rfl
@[simp] theorem t3_z : t3.z = .lit (.int .i64 0) := rfl
@[simp] theorem t3_y : t3.y = .lit (.int .i64 0) := rfl
@[simp] theorem t3_kind : t3.kind = .int .i64 := rfl
@[simp] theorem t3_cmp : t3.cmp = false := rfl
/-- bool -/
def t4 : TI := ⟨1, 1, .bool false, .lit (.bool false), .lit (.bool false), .bool, false⟩
@[simp] theorem t4_size : t4.size = 1 := rfl
@[simp] theorem t4_bytes : t4.bytes = 1 := rfl
@[simp] theorem t4_z : t4.z = .lit (.bool false) := rfl
@[simp] theorem t4_y : t4.y = .lit (.bool false) := rfl
@[simp] theorem t4_kind : t4.kind = .bool := rfl
@[simp] theorem t4_cmp : t4.cmp = false := rfl
/-- uint8 -/
def t5 : TI := ⟨1, 1, .int .u8 0, .lit (.int .u8 0), .lit (.int .u8 0), .int .u8, false⟩
@[simp] theorem t5_size : t5.size = 1 := rfl
@[simp] theorem t5_bytes : t5.bytes = 1 := rfl
@[simp] theorem t5_z : t5.z = .lit (.int .u8 0) := rfl
@[simp] theorem t5_y : t5.y = .lit (.int .u8 0) := rfl
@[simp] theorem t5_kind : t5.kind = .int .u8 := rfl
@[simp] theorem t5_cmp : t5.cmp = false := rfl
/-- string -/
def t9 : TI := ⟨1, 16, .string ⟨#[]⟩, .lit (.string ⟨#[]⟩), .lit (.string ⟨#[]⟩), .str, false⟩
@[simp] theorem t9_size : t9.size = 1 := rfl
@[simp] theorem t9_bytes : t9.bytes = 16 := rfl
@[simp] theorem t9_z : t9.z = .lit (.string ⟨#[]⟩) := rfl
@[simp] theorem t9_y : t9.y = .lit (.string ⟨#[]⟩) := rfl
@[simp] theorem t9_kind : t9.kind = .str := rfl
@[simp] theorem t9_cmp : t9.cmp = false := rfl
/-- uintptr -/
def t12 : TI := ⟨1, 8, .int .u64 0, .lit (.int .u64 0), .lit (.int .u64 0), .int .u64, false⟩
@[simp] theorem t12_size : t12.size = 1 := rfl
@[simp] theorem t12_bytes : t12.bytes = 8 := rfl
@[simp] theorem t12_z : t12.z = .lit (.int .u64 0) := rfl
@[simp] theorem t12_y : t12.y = .lit (.int .u64 0) := rfl
@[simp] theorem t12_kind : t12.kind = .int .u64 := rfl
@[simp] theorem t12_cmp : t12.cmp = false := rfl
/-- interface {} -/
def t20 : TI := ⟨1, 16, .nilIface, .lit .nilIface, .lit .nilIface, .iface, false⟩
@[simp] theorem t20_size : t20.size = 1 := rfl
@[simp] theorem t20_bytes : t20.bytes = 16 := rfl
@[simp] theorem t20_z : t20.z = .lit .nilIface := rfl
@[simp] theorem t20_y : t20.y = .lit .nilIface := rfl
@[simp] theorem t20_kind : t20.kind = .iface := rfl
@[simp] theorem t20_cmp : t20.cmp = false := rfl
/-- int32 -/
def t21 : TI := ⟨1, 4, .int .i32 0, .lit (.int .i32 0), .lit (.int .i32 0), .int .i32, false⟩
@[simp] theorem t21_size : t21.size = 1 := rfl
@[simp] theorem t21_bytes : t21.bytes = 4 := rfl
@[simp] theorem t21_z : t21.z = .lit (.int .i32 0) := rfl
@[simp] theorem t21_y : t21.y = .lit (.int .i32 0) := rfl
@[simp] theorem t21_kind : t21.kind = .int .i32 := rfl
@[simp] theorem t21_cmp : t21.cmp = false := rfl
/-- []uint8 -/
def t22 : TI := ⟨1, 24, .slice none 0 0, .sl true 0 .any [], yLU, .slice 5, false⟩
@[simp] theorem t22_size : t22.size = 1 := rfl
@[simp] theorem t22_bytes : t22.bytes = 24 := rfl
@[simp] theorem t22_z : t22.z = .sl true 0 .any [] := rfl
@[simp] theorem t22_y : t22.y = yLU := rfl
@[simp] theorem t22_kind : t22.kind = .slice 5 := rfl
@[simp] theorem t22_cmp : t22.cmp = false := rfl
/-- struct { Id int; Kind int; Colour int; Size int; Worth int } -/
def t28 : TI := ⟨5, 40, .agg #[.int .i64 0, .int .i64 0, .int .i64 0, .int .i64 0, .int .i64 0], .agg [.lit (.int .i64 0), .lit (.int .i64 0), .lit (.int .i64 0), .lit (.int .i64 0), .lit (.int .i64 0)], yTThing, .st [(0, 3), (1, 3), (2, 3), (3, 3), (4, 3)], true⟩
@[simp] theorem t28_size : t28.size = 5 := rfl
@[simp] theorem t28_bytes : t28.bytes = 40 := rfl
@[simp] theorem t28_z : t28.z = .agg [.lit (.int .i64 0), .lit (.int .i64 0), .lit (.int .i64 0), .lit (.int .i64 0), .lit (.int .i64 0)] := rfl
@[simp] theorem t28_y : t28.y = yTThing := rfl
@[simp] theorem t28_kind : t28.kind = .st [(0, 3), (1, 3), (2, 3), (3, 3), (4, 3)] := rfl
@[simp] theorem t28_cmp : t28.cmp = true := rfl
/-- laws.Thing = loop.example/g03007/laws.Thing -/
def t29 : TI := ⟨5, 40, .agg #[.int .i64 0, .int .i64 0, .int .i64 0, .int .i64 0, .int .i64 0], .agg [.lit (.int .i64 0), .lit (.int .i64 0), .lit (.int .i64 0), .lit (.int .i64 0), .lit (.int .i64 0)], yTThing, .st [(0, 3), (1, 3), (2, 3), (3, 3), (4, 3)], true⟩
@[simp] theorem t29_size : t29.size = 5 := rfl
@[simp] theorem t29_bytes : t29.bytes = 40 := rfl
@[simp] theorem t29_z : t29.z = .agg [.lit (.int .i64 0), .lit (.int .i64 0), .lit (.int .i64 0), .lit (.int .i64 0), .lit (.int .i64 0)] := rfl
@[simp] theorem t29_y : t29.y = yTThing := rfl
@[simp] theorem t29_kind : t29.kind = .st [(0, 3), (1, 3), (2, 3), (3, 3), (4, 3)] := rfl
@[simp] theorem t29_cmp : t29.cmp = true := rfl
/-- struct { Thing laws.Thing; Place int; At int; Finder int } -/
def t30 : TI := ⟨8, 64, .agg #[.int .i64 0, .int .i64 0, .int .i64 0, .int .i64 0, .int .i64 0, .int .i64 0, .int .i64 0, .int .i64 0], .agg [.lit (.int .i64 0), .lit (.int .i64 0), .lit (.int .i64 0), .lit (.int .i64 0), .lit (.int .i64 0), .lit (.int .i64 0), .lit (.int .i64 0), .lit (.int .i64 0)], yTFind, .st [(0, 29), (5, 3), (6, 3), (7, 3)], true⟩
@[simp] theorem t30_size : t30.size = 8 := rfl
@[simp] theorem t30_bytes : t30.bytes = 64 := rfl
@[simp] theorem t30_z : t30.z = .agg [.lit (.int .i64 0), .lit (.int .i64 0), .lit (.int .i64 0), .lit (.int .i64 0), .lit (.int .i64 0), .lit (.int .i64 0), .lit (.int .i64 0), .lit (.int .i64 0)] := rfl
@[simp] theorem t30_y : t30.y = yTFind := rfl
@[simp] theorem t30_kind : t30.kind = .st [(0, 29), (5, 3), (6, 3), (7, 3)] := rfl
@[simp] theorem t30_cmp : t30.cmp = true := rfl
/-- laws.Find = loop.example/g03007/laws.Find -/
def t31 : TI := ⟨8, 64, .agg #[.int .i64 0, .int .i64 0, .int .i64 0, .int .i64 0, .int .i64 0, .int .i64 0, .int .i64 0, .int .i64 0], .agg [.lit (.int .i64 0), .lit (.int .i64 0), .lit (.int .i64 0), .lit (.int .i64 0), .lit (.int .i64 0), .lit (.int .i64 0), .lit (.int .i64 0), .lit (.int .i64 0)], yTFind, .st [(0, 29), (5, 3), (6, 3), (7, 3)], true⟩
@[simp] theorem t31_size : t31.size = 8 := rfl
@[simp] theorem t31_bytes : t31.bytes = 64 := rfl
@[simp] theorem t31_z : t31.z = .agg [.lit (.int .i64 0), .lit (.int .i64 0), .lit (.int .i64 0), .lit (.int .i64 0), .lit (.int .i64 0), .lit (.int .i64 0), .lit (.int .i64 0), .lit (.int .i64 0)] := rfl
@[simp] theorem t31_y : t31.y = yTFind := rfl
@[simp] theorem t31_kind : t31.kind = .st [(0, 29), (5, 3), (6, 3), (7, 3)] := rfl
@[simp] theorem t31_cmp : t31.cmp = true := rfl
/-- []int -/
def t32 : TI := ⟨1, 24, .slice none 0 0, .sl true 0 .any [], yLI, .slice 3, false⟩
@[simp] theorem t32_size : t32.size = 1 := rfl
@[simp] theorem t32_bytes : t32.bytes = 24 := rfl
@[simp] theorem t32_z : t32.z = .sl true 0 .any [] := rfl
@[simp] theorem t32_y : t32.y = yLI := rfl
@[simp] theorem t32_kind : t32.kind = .slice 3 := rfl
@[simp] theorem t32_cmp : t32.cmp = false := rfl
/-- struct { Colours []int; Size int; Places []int; Hours int } -/
def t33 : TI := ⟨4, 64, .agg #[.slice none 0 0, .int .i64 0, .slice none 0 0, .int .i64 0], .agg [.sl true 0 .any [], .lit (.int .i64 0), .sl true 0 .any [], .lit (.int .i64 0)], yTDoubt, .st [(0, 32), (1, 3), (2, 32), (3, 3)], false⟩
@[simp] theorem t33_size : t33.size = 4 := rfl
@[simp] theorem t33_bytes : t33.bytes = 64 := rfl
@[simp] theorem t33_z : t33.z = .agg [.sl true 0 .any [], .lit (.int .i64 0), .sl true 0 .any [], .lit (.int .i64 0)] := rfl
@[simp] theorem t33_y : t33.y = yTDoubt := rfl
@[simp] theorem t33_kind : t33.kind = .st [(0, 32), (1, 3), (2, 32), (3, 3)] := rfl
@[simp] theorem t33_cmp : t33.cmp = false := rfl
/-- laws.Doubt = loop.example/g03007/laws.Doubt -/
def t34 : TI := ⟨4, 64, .agg #[.slice none 0 0, .int .i64 0, .slice none 0 0, .int .i64 0], .agg [.sl true 0 .any [], .lit (.int .i64 0), .sl true 0 .any [], .lit (.int .i64 0)], yTDoubt, .st [(0, 32), (1, 3), (2, 32), (3, 3)], false⟩
@[simp] theorem t34_size : t34.size = 4 := rfl
@[simp] theorem t34_bytes : t34.bytes = 64 := rfl
@[simp] theorem t34_z : t34.z = .agg [.sl true 0 .any [], .lit (.int .i64 0), .sl true 0 .any [], .lit (.int .i64 0)] := rfl
@[simp] theorem t34_y : t34.y = yTDoubt := rfl
@[simp] theorem t34_kind : t34.kind = .st [(0, 32), (1, 3), (2, 32), (3, 3)] := rfl
@[simp] theorem t34_cmp : t34.cmp = false := rfl
/-- struct { From int; Until int } -/
def t36 : TI := ⟨2, 16, .agg #[.int .i64 0, .int .i64 0], .agg [.lit (.int .i64 0), .lit (.int .i64 0)], yTSpan, .st [(0, 3), (1, 3)], true⟩
@[simp] theorem t36_size : t36.size = 2 := rfl
@[simp] theorem t36_bytes : t36.bytes = 16 := rfl
@[simp] theorem t36_z : t36.z = .agg [.lit (.int .i64 0), .lit (.int .i64 0)] := rfl
@[simp] theorem t36_y : t36.y = yTSpan := rfl
@[simp] theorem t36_kind : t36.kind = .st [(0, 3), (1, 3)] := rfl
@[simp] theorem t36_cmp : t36.cmp = true := rfl
/-- impl.Span = loop.example/g03007/impl.Span -/
def t37 : TI := ⟨2, 16, .agg #[.int .i64 0, .int .i64 0], .agg [.lit (.int .i64 0), .lit (.int .i64 0)], yTSpan, .st [(0, 3), (1, 3)], true⟩
@[simp] theorem t37_size : t37.size = 2 := rfl
@[simp] theorem t37_bytes : t37.bytes = 16 := rfl
@[simp] theorem t37_z : t37.z = .agg [.lit (.int .i64 0), .lit (.int .i64 0)] := rfl
@[simp] theorem t37_y : t37.y = yTSpan := rfl
@[simp] theorem t37_kind : t37.kind = .st [(0, 3), (1, 3)] := rfl
@[simp] theorem t37_cmp : t37.cmp = true := rfl
/-- struct { Id int; Kind int; Colours []int; SizeLow int; SizeHigh int; Places []int; Span impl.Span } -/
def t38 : TI := ⟨8, 96, .agg #[.int .i64 0, .int .i64 0, .slice none 0 0, .int .i64 0, .int .i64 0, .slice none 0 0, .int .i64 0, .int .i64 0], .agg [.lit (.int .i64 0), .lit (.int .i64 0), .sl true 0 .any [], .lit (.int .i64 0), .lit (.int .i64 0), .sl true 0 .any [], .lit (.int .i64 0), .lit (.int .i64 0)], yTReport, .st [(0, 3), (1, 3), (2, 32), (3, 3), (4, 3), (5, 32), (6, 37)], false⟩
@[simp] theorem t38_size : t38.size = 8 := rfl
@[simp] theorem t38_bytes : t38.bytes = 96 := rfl
@[simp] theorem t38_z : t38.z = .agg [.lit (.int .i64 0), .lit (.int .i64 0), .sl true 0 .any [], .lit (.int .i64 0), .lit (.int .i64 0), .sl true 0 .any [], .lit (.int .i64 0), .lit (.int .i64 0)] := rfl
@[simp] theorem t38_y : t38.y = yTReport := rfl
@[simp] theorem t38_kind : t38.kind = .st [(0, 3), (1, 3), (2, 32), (3, 3), (4, 3), (5, 32), (6, 37)] := rfl
@[simp] theorem t38_cmp : t38.cmp = false := rfl
/-- impl.Report = loop.example/g03007/impl.Report -/
def t39 : TI := ⟨8, 96, .agg #[.int .i64 0, .int .i64 0, .slice none 0 0, .int .i64 0, .int .i64 0, .slice none 0 0, .int .i64 0, .int .i64 0], .agg [.lit (.int .i64 0), .lit (.int .i64 0), .sl true 0 .any [], .lit (.int .i64 0), .lit (.int .i64 0), .sl true 0 .any [], .lit (.int .i64 0), .lit (.int .i64 0)], yTReport, .st [(0, 3), (1, 3), (2, 32), (3, 3), (4, 3), (5, 32), (6, 37)], false⟩
@[simp] theorem t39_size : t39.size = 8 := rfl
@[simp] theorem t39_bytes : t39.bytes = 96 := rfl
@[simp] theorem t39_z : t39.z = .agg [.lit (.int .i64 0), .lit (.int .i64 0), .sl true 0 .any [], .lit (.int .i64 0), .lit (.int .i64 0), .sl true 0 .any [], .lit (.int .i64 0), .lit (.int .i64 0)] := rfl
@[simp] theorem t39_y : t39.y = yTReport := rfl
@[simp] theorem t39_kind : t39.kind = .st [(0, 3), (1, 3), (2, 32), (3, 3), (4, 3), (5, 32), (6, 37)] := rfl
@[simp] theorem t39_cmp : t39.cmp = false := rfl
/-- impl.Thing = loop.example/g03007/impl.Thing -/
def t42 : TI := ⟨5, 40, .agg #[.int .i64 0, .int .i64 0, .int .i64 0, .int .i64 0, .int .i64 0], .agg [.lit (.int .i64 0), .lit (.int .i64 0), .lit (.int .i64 0), .lit (.int .i64 0), .lit (.int .i64 0)], yTThing, .st [(0, 3), (1, 3), (2, 3), (3, 3), (4, 3)], true⟩
@[simp] theorem t42_size : t42.size = 5 := rfl
@[simp] theorem t42_bytes : t42.bytes = 40 := rfl
@[simp] theorem t42_z : t42.z = .agg [.lit (.int .i64 0), .lit (.int .i64 0), .lit (.int .i64 0), .lit (.int .i64 0), .lit (.int .i64 0)] := rfl
@[simp] theorem t42_y : t42.y = yTThing := rfl
@[simp] theorem t42_kind : t42.kind = .st [(0, 3), (1, 3), (2, 3), (3, 3), (4, 3)] := rfl
@[simp] theorem t42_cmp : t42.cmp = true := rfl
/-- struct { Thing impl.Thing; Place int; At int; Finder int } -/
def t43 : TI := ⟨8, 64, .agg #[.int .i64 0, .int .i64 0, .int .i64 0, .int .i64 0, .int .i64 0, .int .i64 0, .int .i64 0, .int .i64 0], .agg [.lit (.int .i64 0), .lit (.int .i64 0), .lit (.int .i64 0), .lit (.int .i64 0), .lit (.int .i64 0), .lit (.int .i64 0), .lit (.int .i64 0), .lit (.int .i64 0)], yTFind, .st [(0, 42), (5, 3), (6, 3), (7, 3)], true⟩
@[simp] theorem t43_size : t43.size = 8 := rfl
@[simp] theorem t43_bytes : t43.bytes = 64 := rfl
@[simp] theorem t43_z : t43.z = .agg [.lit (.int .i64 0), .lit (.int .i64 0), .lit (.int .i64 0), .lit (.int .i64 0), .lit (.int .i64 0), .lit (.int .i64 0), .lit (.int .i64 0), .lit (.int .i64 0)] := rfl
@[simp] theorem t43_y : t43.y = yTFind := rfl
@[simp] theorem t43_kind : t43.kind = .st [(0, 42), (5, 3), (6, 3), (7, 3)] := rfl
@[simp] theorem t43_cmp : t43.cmp = true := rfl
/-- impl.Find = loop.example/g03007/impl.Find -/
def t44 : TI := ⟨8, 64, .agg #[.int .i64 0, .int .i64 0, .int .i64 0, .int .i64 0, .int .i64 0, .int .i64 0, .int .i64 0, .int .i64 0], .agg [.lit (.int .i64 0), .lit (.int .i64 0), .lit (.int .i64 0), .lit (.int .i64 0), .lit (.int .i64 0), .lit (.int .i64 0), .lit (.int .i64 0), .lit (.int .i64 0)], yTFind, .st [(0, 42), (5, 3), (6, 3), (7, 3)], true⟩
@[simp] theorem t44_size : t44.size = 8 := rfl
@[simp] theorem t44_bytes : t44.bytes = 64 := rfl
@[simp] theorem t44_z : t44.z = .agg [.lit (.int .i64 0), .lit (.int .i64 0), .lit (.int .i64 0), .lit (.int .i64 0), .lit (.int .i64 0), .lit (.int .i64 0), .lit (.int .i64 0), .lit (.int .i64 0)] := rfl
@[simp] theorem t44_y : t44.y = yTFind := rfl
@[simp] theorem t44_kind : t44.kind = .st [(0, 42), (5, 3), (6, 3), (7, 3)] := rfl
@[simp] theorem t44_cmp : t44.cmp = true := rfl
/-- impl.Doubt = loop.example/g03007/impl.Doubt -/
def t46 : TI := ⟨4, 64, .agg #[.slice none 0 0, .int .i64 0, .slice none 0 0, .int .i64 0], .agg [.sl true 0 .any [], .lit (.int .i64 0), .sl true 0 .any [], .lit (.int .i64 0)], yTDoubt, .st [(0, 32), (1, 3), (2, 32), (3, 3)], false⟩
@[simp] theorem t46_size : t46.size = 4 := rfl
@[simp] theorem t46_bytes : t46.bytes = 64 := rfl
@[simp] theorem t46_z : t46.z = .agg [.sl true 0 .any [], .lit (.int .i64 0), .sl true 0 .any [], .lit (.int .i64 0)] := rfl
@[simp] theorem t46_y : t46.y = yTDoubt := rfl
@[simp] theorem t46_kind : t46.kind = .st [(0, 32), (1, 3), (2, 32), (3, 3)] := rfl
@[simp] theorem t46_cmp : t46.cmp = false := rfl
/-- []laws.Slot -/
def t56 : TI := ⟨1, 24, .slice none 0 0, .sl true 0 .any [], yLTSlot, .slice 168, false⟩
@[simp] theorem t56_size : t56.size = 1 := rfl
@[simp] theorem t56_bytes : t56.bytes = 24 := rfl
@[simp] theorem t56_z : t56.z = .sl true 0 .any [] := rfl
@[simp] theorem t56_y : t56.y = yLTSlot := rfl
@[simp] theorem t56_kind : t56.kind = .slice 168 := rfl
@[simp] theorem t56_cmp : t56.cmp = false := rfl
/-- []laws.Thing -/
def t57 : TI := ⟨1, 24, .slice none 0 0, .sl true 0 .any [], yLTThing, .slice 29, false⟩
@[simp] theorem t57_size : t57.size = 1 := rfl
@[simp] theorem t57_bytes : t57.bytes = 24 := rfl
@[simp] theorem t57_z : t57.z = .sl true 0 .any [] := rfl
@[simp] theorem t57_y : t57.y = yLTThing := rfl
@[simp] theorem t57_kind : t57.kind = .slice 29 := rfl
@[simp] theorem t57_cmp : t57.cmp = false := rfl
/-- []impl.Slot -/
def t60 : TI := ⟨1, 24, .slice none 0 0, .sl true 0 .any [], yLTSlot, .slice 166, false⟩
@[simp] theorem t60_size : t60.size = 1 := rfl
@[simp] theorem t60_bytes : t60.bytes = 24 := rfl
@[simp] theorem t60_z : t60.z = .sl true 0 .any [] := rfl
@[simp] theorem t60_y : t60.y = yLTSlot := rfl
@[simp] theorem t60_kind : t60.kind = .slice 166 := rfl
@[simp] theorem t60_cmp : t60.cmp = false := rfl
/-- []impl.Thing -/
def t64 : TI := ⟨1, 24, .slice none 0 0, .sl true 0 .any [], yLTThing, .slice 42, false⟩
@[simp] theorem t64_size : t64.size = 1 := rfl
@[simp] theorem t64_bytes : t64.bytes = 24 := rfl
@[simp] theorem t64_z : t64.z = .sl true 0 .any [] := rfl
@[simp] theorem t64_y : t64.y = yLTThing := rfl
@[simp] theorem t64_kind : t64.kind = .slice 42 := rfl
@[simp] theorem t64_cmp : t64.cmp = false := rfl
/-- []laws.Hand -/
def t75 : TI := ⟨1, 24, .slice none 0 0, .sl true 0 .any [], yLTHand, .slice 181, false⟩
@[simp] theorem t75_size : t75.size = 1 := rfl
@[simp] theorem t75_bytes : t75.bytes = 24 := rfl
@[simp] theorem t75_z : t75.z = .sl true 0 .any [] := rfl
@[simp] theorem t75_y : t75.y = yLTHand := rfl
@[simp] theorem t75_kind : t75.kind = .slice 181 := rfl
@[simp] theorem t75_cmp : t75.cmp = false := rfl
/-- []impl.Hand -/
def t78 : TI := ⟨1, 24, .slice none 0 0, .sl true 0 .any [], yLTHand, .slice 179, false⟩
@[simp] theorem t78_size : t78.size = 1 := rfl
@[simp] theorem t78_bytes : t78.bytes = 24 := rfl
@[simp] theorem t78_z : t78.z = .sl true 0 .any [] := rfl
@[simp] theorem t78_y : t78.y = yLTHand := rfl
@[simp] theorem t78_kind : t78.kind = .slice 179 := rfl
@[simp] theorem t78_cmp : t78.cmp = false := rfl
/-- []laws.Find -/
def t83 : TI := ⟨1, 24, .slice none 0 0, .sl true 0 .any [], yLTFind, .slice 31, false⟩
@[simp] theorem t83_size : t83.size = 1 := rfl
@[simp] theorem t83_bytes : t83.bytes = 24 := rfl
@[simp] theorem t83_z : t83.z = .sl true 0 .any [] := rfl
@[simp] theorem t83_y : t83.y = yLTFind := rfl
@[simp] theorem t83_kind : t83.kind = .slice 31 := rfl
@[simp] theorem t83_cmp : t83.cmp = false := rfl
/-- []impl.Find -/
def t86 : TI := ⟨1, 24, .slice none 0 0, .sl true 0 .any [], yLTFind, .slice 44, false⟩
@[simp] theorem t86_size : t86.size = 1 := rfl
@[simp] theorem t86_bytes : t86.bytes = 24 := rfl
@[simp] theorem t86_z : t86.z = .sl true 0 .any [] := rfl
@[simp] theorem t86_y : t86.y = yLTFind := rfl
@[simp] theorem t86_kind : t86.kind = .slice 44 := rfl
@[simp] theorem t86_cmp : t86.cmp = false := rfl
/-- laws.Span = loop.example/g03007/laws.Span -/
def t91 : TI := ⟨2, 16, .agg #[.int .i64 0, .int .i64 0], .agg [.lit (.int .i64 0), .lit (.int .i64 0)], yTSpan, .st [(0, 3), (1, 3)], true⟩
@[simp] theorem t91_size : t91.size = 2 := rfl
@[simp] theorem t91_bytes : t91.bytes = 16 := rfl
@[simp] theorem t91_z : t91.z = .agg [.lit (.int .i64 0), .lit (.int .i64 0)] := rfl
@[simp] theorem t91_y : t91.y = yTSpan := rfl
@[simp] theorem t91_kind : t91.kind = .st [(0, 3), (1, 3)] := rfl
@[simp] theorem t91_cmp : t91.cmp = true := rfl
/-- struct { Id int; Kind int; Colours []int; SizeLow int; SizeHigh int; Places []int; Span laws.Span } -/
def t92 : TI := ⟨8, 96, .agg #[.int .i64 0, .int .i64 0, .slice none 0 0, .int .i64 0, .int .i64 0, .slice none 0 0, .int .i64 0, .int .i64 0], .agg [.lit (.int .i64 0), .lit (.int .i64 0), .sl true 0 .any [], .lit (.int .i64 0), .lit (.int .i64 0), .sl true 0 .any [], .lit (.int .i64 0), .lit (.int .i64 0)], yTReport, .st [(0, 3), (1, 3), (2, 32), (3, 3), (4, 3), (5, 32), (6, 91)], false⟩
@[simp] theorem t92_size : t92.size = 8 := rfl
@[simp] theorem t92_bytes : t92.bytes = 96 := rfl
@[simp] theorem t92_z : t92.z = .agg [.lit (.int .i64 0), .lit (.int .i64 0), .sl true 0 .any [], .lit (.int .i64 0), .lit (.int .i64 0), .sl true 0 .any [], .lit (.int .i64 0), .lit (.int .i64 0)] := rfl
@[simp] theorem t92_y : t92.y = yTReport := rfl
@[simp] theorem t92_kind : t92.kind = .st [(0, 3), (1, 3), (2, 32), (3, 3), (4, 3), (5, 32), (6, 91)] := rfl
@[simp] theorem t92_cmp : t92.cmp = false := rfl
/-- laws.Report = loop.example/g03007/laws.Report -/
def t93 : TI := ⟨8, 96, .agg #[.int .i64 0, .int .i64 0, .slice none 0 0, .int .i64 0, .int .i64 0, .slice none 0 0, .int .i64 0, .int .i64 0], .agg [.lit (.int .i64 0), .lit (.int .i64 0), .sl true 0 .any [], .lit (.int .i64 0), .lit (.int .i64 0), .sl true 0 .any [], .lit (.int .i64 0), .lit (.int .i64 0)], yTReport, .st [(0, 3), (1, 3), (2, 32), (3, 3), (4, 3), (5, 32), (6, 91)], false⟩
@[simp] theorem t93_size : t93.size = 8 := rfl
@[simp] theorem t93_bytes : t93.bytes = 96 := rfl
@[simp] theorem t93_z : t93.z = .agg [.lit (.int .i64 0), .lit (.int .i64 0), .sl true 0 .any [], .lit (.int .i64 0), .lit (.int .i64 0), .sl true 0 .any [], .lit (.int .i64 0), .lit (.int .i64 0)] := rfl
@[simp] theorem t93_y : t93.y = yTReport := rfl
@[simp] theorem t93_kind : t93.kind = .st [(0, 3), (1, 3), (2, 32), (3, 3), (4, 3), (5, 32), (6, 91)] := rfl
@[simp] theorem t93_cmp : t93.cmp = false := rfl
/-- [][]int -/
def t101 : TI := ⟨1, 24, .slice none 0 0, .sl true 0 .any [], yLLI, .slice 32, false⟩
@[simp] theorem t101_size : t101.size = 1 := rfl
@[simp] theorem t101_bytes : t101.bytes = 24 := rfl
@[simp] theorem t101_z : t101.z = .sl true 0 .any [] := rfl
@[simp] theorem t101_y : t101.y = yLLI := rfl
@[simp] theorem t101_kind : t101.kind = .slice 32 := rfl
@[simp] theorem t101_cmp : t101.cmp = false := rfl
/-- []laws.Inner -/
def t107 : TI := ⟨1, 24, .slice none 0 0, .sl true 0 .any [], yLTInner, .slice 203, false⟩
@[simp] theorem t107_size : t107.size = 1 := rfl
@[simp] theorem t107_bytes : t107.bytes = 24 := rfl
@[simp] theorem t107_z : t107.z = .sl true 0 .any [] := rfl
@[simp] theorem t107_y : t107.y = yLTInner := rfl
@[simp] theorem t107_kind : t107.kind = .slice 203 := rfl
@[simp] theorem t107_cmp : t107.cmp = false := rfl
/-- []impl.Inner -/
def t110 : TI := ⟨1, 24, .slice none 0 0, .sl true 0 .any [], yLTInner, .slice 201, false⟩
@[simp] theorem t110_size : t110.size = 1 := rfl
@[simp] theorem t110_bytes : t110.bytes = 24 := rfl
@[simp] theorem t110_z : t110.z = .sl true 0 .any [] := rfl
@[simp] theorem t110_y : t110.y = yLTInner := rfl
@[simp] theorem t110_kind : t110.kind = .slice 201 := rfl
@[simp] theorem t110_cmp : t110.cmp = false := rfl
/-- []laws.Ticket -/
def t121 : TI := ⟨1, 24, .slice none 0 0, .sl true 0 .any [], yLTTicket, .slice 217, false⟩
@[simp] theorem t121_size : t121.size = 1 := rfl
@[simp] theorem t121_bytes : t121.bytes = 24 := rfl
@[simp] theorem t121_z : t121.z = .sl true 0 .any [] := rfl
@[simp] theorem t121_y : t121.y = yLTTicket := rfl
@[simp] theorem t121_kind : t121.kind = .slice 217 := rfl
@[simp] theorem t121_cmp : t121.cmp = false := rfl
/-- []impl.Ticket -/
def t124 : TI := ⟨1, 24, .slice none 0 0, .sl true 0 .any [], yLTTicket, .slice 215, false⟩
@[simp] theorem t124_size : t124.size = 1 := rfl
@[simp] theorem t124_bytes : t124.bytes = 24 := rfl
@[simp] theorem t124_z : t124.z = .sl true 0 .any [] := rfl
@[simp] theorem t124_y : t124.y = yLTTicket := rfl
@[simp] theorem t124_kind : t124.kind = .slice 215 := rfl
@[simp] theorem t124_cmp : t124.cmp = false := rfl
/-- []laws.Entry -/
def t132 : TI := ⟨1, 24, .slice none 0 0, .sl true 0 .any [], yLTEntry, .slice 228, false⟩
@[simp] theorem t132_size : t132.size = 1 := rfl
@[simp] theorem t132_bytes : t132.bytes = 24 := rfl
@[simp] theorem t132_z : t132.z = .sl true 0 .any [] := rfl
@[simp] theorem t132_y : t132.y = yLTEntry := rfl
@[simp] theorem t132_kind : t132.kind = .slice 228 := rfl
@[simp] theorem t132_cmp : t132.cmp = false := rfl
/-- []impl.Entry -/
def t135 : TI := ⟨1, 24, .slice none 0 0, .sl true 0 .any [], yLTEntry, .slice 226, false⟩
@[simp] theorem t135_size : t135.size = 1 := rfl
@[simp] theorem t135_bytes : t135.bytes = 24 := rfl
@[simp] theorem t135_z : t135.z = .sl true 0 .any [] := rfl
@[simp] theorem t135_y : t135.y = yLTEntry := rfl
@[simp] theorem t135_kind : t135.kind = .slice 226 := rfl
@[simp] theorem t135_cmp : t135.cmp = false := rfl
/-- func(impl.Find) bool -/
def t146 : TI := ⟨1, 8, .nilFunc, .lit .nilFunc, .lit .nilFunc, .func, false⟩
@[simp] theorem t146_size : t146.size = 1 := rfl
@[simp] theorem t146_bytes : t146.bytes = 8 := rfl
@[simp] theorem t146_z : t146.z = .lit .nilFunc := rfl
@[simp] theorem t146_y : t146.y = .lit .nilFunc := rfl
@[simp] theorem t146_kind : t146.kind = .func := rfl
@[simp] theorem t146_cmp : t146.cmp = false := rfl
/-- impl.reportOption = loop.example/g03007/impl.reportOption -/
def t153 : TI := ⟨1, 8, .nilFunc, .lit .nilFunc, .lit .nilFunc, .func, false⟩
@[simp] theorem t153_size : t153.size = 1 := rfl
@[simp] theorem t153_bytes : t153.bytes = 8 := rfl
@[simp] theorem t153_z : t153.z = .lit .nilFunc := rfl
@[simp] theorem t153_y : t153.y = .lit .nilFunc := rfl
@[simp] theorem t153_kind : t153.kind = .func := rfl
@[simp] theorem t153_cmp : t153.cmp = false := rfl
/-- struct { Id int; Size int; Thing int } -/
def t165 : TI := ⟨3, 24, .agg #[.int .i64 0, .int .i64 0, .int .i64 0], .agg [.lit (.int .i64 0), .lit (.int .i64 0), .lit (.int .i64 0)], yTSlot, .st [(0, 3), (1, 3), (2, 3)], true⟩
@[simp] theorem t165_size : t165.size = 3 := rfl
@[simp] theorem t165_bytes : t165.bytes = 24 := rfl
@[simp] theorem t165_z : t165.z = .agg [.lit (.int .i64 0), .lit (.int .i64 0), .lit (.int .i64 0)] := rfl
@[simp] theorem t165_y : t165.y = yTSlot := rfl
@[simp] theorem t165_kind : t165.kind = .st [(0, 3), (1, 3), (2, 3)] := rfl
@[simp] theorem t165_cmp : t165.cmp = true := rfl
/-- impl.Slot = loop.example/g03007/impl.Slot -/
def t166 : TI := ⟨3, 24, .agg #[.int .i64 0, .int .i64 0, .int .i64 0], .agg [.lit (.int .i64 0), .lit (.int .i64 0), .lit (.int .i64 0)], yTSlot, .st [(0, 3), (1, 3), (2, 3)], true⟩
@[simp] theorem t166_size : t166.size = 3 := rfl
@[simp] theorem t166_bytes : t166.bytes = 24 := rfl
@[simp] theorem t166_z : t166.z = .agg [.lit (.int .i64 0), .lit (.int .i64 0), .lit (.int .i64 0)] := rfl
@[simp] theorem t166_y : t166.y = yTSlot := rfl
@[simp] theorem t166_kind : t166.kind = .st [(0, 3), (1, 3), (2, 3)] := rfl
@[simp] theorem t166_cmp : t166.cmp = true := rfl
/-- laws.Slot = loop.example/g03007/laws.Slot -/
def t168 : TI := ⟨3, 24, .agg #[.int .i64 0, .int .i64 0, .int .i64 0], .agg [.lit (.int .i64 0), .lit (.int .i64 0), .lit (.int .i64 0)], yTSlot, .st [(0, 3), (1, 3), (2, 3)], true⟩
@[simp] theorem t168_size : t168.size = 3 := rfl
@[simp] theorem t168_bytes : t168.bytes = 24 := rfl
@[simp] theorem t168_z : t168.z = .agg [.lit (.int .i64 0), .lit (.int .i64 0), .lit (.int .i64 0)] := rfl
@[simp] theorem t168_y : t168.y = yTSlot := rfl
@[simp] theorem t168_kind : t168.kind = .st [(0, 3), (1, 3), (2, 3)] := rfl
@[simp] theorem t168_cmp : t168.cmp = true := rfl
/-- struct { Thing int; Holder int; Who int; At int; Seal int } -/
def t178 : TI := ⟨5, 40, .agg #[.int .i64 0, .int .i64 0, .int .i64 0, .int .i64 0, .int .i64 0], .agg [.lit (.int .i64 0), .lit (.int .i64 0), .lit (.int .i64 0), .lit (.int .i64 0), .lit (.int .i64 0)], yTHand, .st [(0, 3), (1, 3), (2, 3), (3, 3), (4, 3)], true⟩
@[simp] theorem t178_size : t178.size = 5 := rfl
@[simp] theorem t178_bytes : t178.bytes = 40 := rfl
@[simp] theorem t178_z : t178.z = .agg [.lit (.int .i64 0), .lit (.int .i64 0), .lit (.int .i64 0), .lit (.int .i64 0), .lit (.int .i64 0)] := rfl
@[simp] theorem t178_y : t178.y = yTHand := rfl
@[simp] theorem t178_kind : t178.kind = .st [(0, 3), (1, 3), (2, 3), (3, 3), (4, 3)] := rfl
@[simp] theorem t178_cmp : t178.cmp = true := rfl
/-- impl.Hand = loop.example/g03007/impl.Hand -/
def t179 : TI := ⟨5, 40, .agg #[.int .i64 0, .int .i64 0, .int .i64 0, .int .i64 0, .int .i64 0], .agg [.lit (.int .i64 0), .lit (.int .i64 0), .lit (.int .i64 0), .lit (.int .i64 0), .lit (.int .i64 0)], yTHand, .st [(0, 3), (1, 3), (2, 3), (3, 3), (4, 3)], true⟩
@[simp] theorem t179_size : t179.size = 5 := rfl
@[simp] theorem t179_bytes : t179.bytes = 40 := rfl
@[simp] theorem t179_z : t179.z = .agg [.lit (.int .i64 0), .lit (.int .i64 0), .lit (.int .i64 0), .lit (.int .i64 0), .lit (.int .i64 0)] := rfl
@[simp] theorem t179_y : t179.y = yTHand := rfl
@[simp] theorem t179_kind : t179.kind = .st [(0, 3), (1, 3), (2, 3), (3, 3), (4, 3)] := rfl
@[simp] theorem t179_cmp : t179.cmp = true := rfl
/-- laws.Hand = loop.example/g03007/laws.Hand -/
def t181 : TI := ⟨5, 40, .agg #[.int .i64 0, .int .i64 0, .int .i64 0, .int .i64 0, .int .i64 0], .agg [.lit (.int .i64 0), .lit (.int .i64 0), .lit (.int .i64 0), .lit (.int .i64 0), .lit (.int .i64 0)], yTHand, .st [(0, 3), (1, 3), (2, 3), (3, 3), (4, 3)], true⟩
@[simp] theorem t181_size : t181.size = 5 := rfl
@[simp] theorem t181_bytes : t181.bytes = 40 := rfl
@[simp] theorem t181_z : t181.z = .agg [.lit (.int .i64 0), .lit (.int .i64 0), .lit (.int .i64 0), .lit (.int .i64 0), .lit (.int .i64 0)] := rfl
@[simp] theorem t181_y : t181.y = yTHand := rfl
@[simp] theorem t181_kind : t181.kind = .st [(0, 3), (1, 3), (2, 3), (3, 3), (4, 3)] := rfl
@[simp] theorem t181_cmp : t181.cmp = true := rfl
/-- map[int]*impl.link[loop.example/g03007/impl.Hand] -/
def t182 : TI := ⟨1, 8, .map none, .fm 0 [] .any [], .any, .map 3 185, false⟩
@[simp] theorem t182_size : t182.size = 1 := rfl
@[simp] theorem t182_bytes : t182.bytes = 8 := rfl
@[simp] theorem t182_z : t182.z = .fm 0 [] .any [] := rfl
@[simp] theorem t182_y : t182.y = .any := rfl
@[simp] theorem t182_kind : t182.kind = .map 3 185 := rfl
@[simp] theorem t182_cmp : t182.cmp = false := rfl
/-- impl.handsByThing = loop.example/g03007/impl.handsByThing -/
def t183 : TI := ⟨1, 8, .map none, .fm 0 [] .any [], .any, .map 3 185, false⟩
@[simp] theorem t183_size : t183.size = 1 := rfl
@[simp] theorem t183_bytes : t183.bytes = 8 := rfl
@[simp] theorem t183_z : t183.z = .fm 0 [] .any [] := rfl
@[simp] theorem t183_y : t183.y = .any := rfl
@[simp] theorem t183_kind : t183.kind = .map 3 185 := rfl
@[simp] theorem t183_cmp : t183.cmp = false := rfl
/-- *impl.link[loop.example/g03007/impl.Hand] -/
def t185 : TI := ⟨1, 8, .pointer none, .lit (.pointer none), .lit (.pointer none), .ptr 187, false⟩
@[simp] theorem t185_size : t185.size = 1 := rfl
@[simp] theorem t185_bytes : t185.bytes = 8 := rfl
@[simp] theorem t185_z : t185.z = .lit (.pointer none) := rfl
@[simp] theorem t185_y : t185.y = .lit (.pointer none) := rfl
@[simp] theorem t185_kind : t185.kind = .ptr 187 := rfl
@[simp] theorem t185_cmp : t185.cmp = false := rfl
/-- struct { item impl.Hand; before *impl.link[loop.example/g03007/impl.Hand] } -/
def t186 : TI := ⟨6, 48, .agg #[.int .i64 0, .int .i64 0, .int .i64 0, .int .i64 0, .int .i64 0, .pointer none], .agg [.lit (.int .i64 0), .lit (.int .i64 0), .lit (.int .i64 0), .lit (.int .i64 0), .lit (.int .i64 0), .lit (.pointer none)], .any, .st [(0, 179), (5, 185)], false⟩
@[simp] theorem t186_size : t186.size = 6 := rfl
@[simp] theorem t186_bytes : t186.bytes = 48 := rfl
@[simp] theorem t186_z : t186.z = .agg [.lit (.int .i64 0), .lit (.int .i64 0), .lit (.int .i64 0), .lit (.int .i64 0), .lit (.int .i64 0), .lit (.pointer none)] := rfl
@[simp] theorem t186_y : t186.y = .any := rfl
@[simp] theorem t186_kind : t186.kind = .st [(0, 179), (5, 185)] := rfl
@[simp] theorem t186_cmp : t186.cmp = false := rfl
/-- impl.link[loop.example/g03007/impl.Hand] = loop.example/g03007/impl.link[loop.example/g03007/impl.Hand] -/
def t187 : TI := ⟨6, 48, .agg #[.int .i64 0, .int .i64 0, .int .i64 0, .int .i64 0, .int .i64 0, .pointer none], .agg [.lit (.int .i64 0), .lit (.int .i64 0), .lit (.int .i64 0), .lit (.int .i64 0), .lit (.int .i64 0), .lit (.pointer none)], .any, .st [(0, 179), (5, 185)], false⟩
@[simp] theorem t187_size : t187.size = 6 := rfl
@[simp] theorem t187_bytes : t187.bytes = 48 := rfl
@[simp] theorem t187_z : t187.z = .agg [.lit (.int .i64 0), .lit (.int .i64 0), .lit (.int .i64 0), .lit (.int .i64 0), .lit (.int .i64 0), .lit (.pointer none)] := rfl
@[simp] theorem t187_y : t187.y = .any := rfl
@[simp] theorem t187_kind : t187.kind = .st [(0, 179), (5, 185)] := rfl
@[simp] theorem t187_cmp : t187.cmp = false := rfl
/-- map[int]bool -/
def t191 : TI := ⟨1, 8, .map none, .fm 0 [] .any [], .any, .map 3 4, false⟩
@[simp] theorem t191_size : t191.size = 1 := rfl
@[simp] theorem t191_bytes : t191.bytes = 8 := rfl
@[simp] theorem t191_z : t191.z = .fm 0 [] .any [] := rfl
@[simp] theorem t191_y : t191.y = .any := rfl
@[simp] theorem t191_kind : t191.kind = .map 3 4 := rfl
@[simp] theorem t191_cmp : t191.cmp = false := rfl
/-- impl.numberSet = loop.example/g03007/impl.numberSet -/
def t192 : TI := ⟨1, 8, .map none, .fm 0 [] .any [], .any, .map 3 4, false⟩
@[simp] theorem t192_size : t192.size = 1 := rfl
@[simp] theorem t192_bytes : t192.bytes = 8 := rfl
@[simp] theorem t192_z : t192.z = .fm 0 [] .any [] := rfl
@[simp] theorem t192_y : t192.y = .any := rfl
@[simp] theorem t192_kind : t192.kind = .map 3 4 := rfl
@[simp] theorem t192_cmp : t192.cmp = false := rfl
/-- struct { Outer int; Thing int } -/
def t200 : TI := ⟨2, 16, .agg #[.int .i64 0, .int .i64 0], .agg [.lit (.int .i64 0), .lit (.int .i64 0)], yTInner, .st [(0, 3), (1, 3)], true⟩
@[simp] theorem t200_size : t200.size = 2 := rfl
@[simp] theorem t200_bytes : t200.bytes = 16 := rfl
@[simp] theorem t200_z : t200.z = .agg [.lit (.int .i64 0), .lit (.int .i64 0)] := rfl
@[simp] theorem t200_y : t200.y = yTInner := rfl
@[simp] theorem t200_kind : t200.kind = .st [(0, 3), (1, 3)] := rfl
@[simp] theorem t200_cmp : t200.cmp = true := rfl
/-- impl.Inner = loop.example/g03007/impl.Inner -/
def t201 : TI := ⟨2, 16, .agg #[.int .i64 0, .int .i64 0], .agg [.lit (.int .i64 0), .lit (.int .i64 0)], yTInner, .st [(0, 3), (1, 3)], true⟩
@[simp] theorem t201_size : t201.size = 2 := rfl
@[simp] theorem t201_bytes : t201.bytes = 16 := rfl
@[simp] theorem t201_z : t201.z = .agg [.lit (.int .i64 0), .lit (.int .i64 0)] := rfl
@[simp] theorem t201_y : t201.y = yTInner := rfl
@[simp] theorem t201_kind : t201.kind = .st [(0, 3), (1, 3)] := rfl
@[simp] theorem t201_cmp : t201.cmp = true := rfl
/-- laws.Inner = loop.example/g03007/laws.Inner -/
def t203 : TI := ⟨2, 16, .agg #[.int .i64 0, .int .i64 0], .agg [.lit (.int .i64 0), .lit (.int .i64 0)], yTInner, .st [(0, 3), (1, 3)], true⟩
@[simp] theorem t203_size : t203.size = 2 := rfl
@[simp] theorem t203_bytes : t203.bytes = 16 := rfl
@[simp] theorem t203_z : t203.z = .agg [.lit (.int .i64 0), .lit (.int .i64 0)] := rfl
@[simp] theorem t203_y : t203.y = yTInner := rfl
@[simp] theorem t203_kind : t203.kind = .st [(0, 3), (1, 3)] := rfl
@[simp] theorem t203_cmp : t203.cmp = true := rfl
/-- map[int]*impl.node -/
def t204 : TI := ⟨1, 8, .map none, .fm 0 [] .any [], .any, .map 3 209, false⟩
@[simp] theorem t204_size : t204.size = 1 := rfl
@[simp] theorem t204_bytes : t204.bytes = 8 := rfl
@[simp] theorem t204_z : t204.z = .fm 0 [] .any [] := rfl
@[simp] theorem t204_y : t204.y = .any := rfl
@[simp] theorem t204_kind : t204.kind = .map 3 209 := rfl
@[simp] theorem t204_cmp : t204.cmp = false := rfl
/-- impl.tree = loop.example/g03007/impl.tree -/
def t205 : TI := ⟨1, 8, .map none, .fm 0 [] .any [], .any, .map 3 209, false⟩
@[simp] theorem t205_size : t205.size = 1 := rfl
@[simp] theorem t205_bytes : t205.bytes = 8 := rfl
@[simp] theorem t205_z : t205.z = .fm 0 [] .any [] := rfl
@[simp] theorem t205_y : t205.y = .any := rfl
@[simp] theorem t205_kind : t205.kind = .map 3 209 := rfl
@[simp] theorem t205_cmp : t205.cmp = false := rfl
/-- *impl.node -/
def t209 : TI := ⟨1, 8, .pointer none, .lit (.pointer none), .lit (.pointer none), .ptr 278, false⟩
@[simp] theorem t209_size : t209.size = 1 := rfl
@[simp] theorem t209_bytes : t209.bytes = 8 := rfl
@[simp] theorem t209_z : t209.z = .lit (.pointer none) := rfl
@[simp] theorem t209_y : t209.y = .lit (.pointer none) := rfl
@[simp] theorem t209_kind : t209.kind = .ptr 278 := rfl
@[simp] theorem t209_cmp : t209.cmp = false := rfl
/-- struct { Id int; At int; Hour int } -/
def t214 : TI := ⟨3, 24, .agg #[.int .i64 0, .int .i64 0, .int .i64 0], .agg [.lit (.int .i64 0), .lit (.int .i64 0), .lit (.int .i64 0)], yTTicket, .st [(0, 3), (1, 3), (2, 3)], true⟩
@[simp] theorem t214_size : t214.size = 3 := rfl
@[simp] theorem t214_bytes : t214.bytes = 24 := rfl
@[simp] theorem t214_z : t214.z = .agg [.lit (.int .i64 0), .lit (.int .i64 0), .lit (.int .i64 0)] := rfl
@[simp] theorem t214_y : t214.y = yTTicket := rfl
@[simp] theorem t214_kind : t214.kind = .st [(0, 3), (1, 3), (2, 3)] := rfl
@[simp] theorem t214_cmp : t214.cmp = true := rfl
/-- impl.Ticket = loop.example/g03007/impl.Ticket -/
def t215 : TI := ⟨3, 24, .agg #[.int .i64 0, .int .i64 0, .int .i64 0], .agg [.lit (.int .i64 0), .lit (.int .i64 0), .lit (.int .i64 0)], yTTicket, .st [(0, 3), (1, 3), (2, 3)], true⟩
@[simp] theorem t215_size : t215.size = 3 := rfl
@[simp] theorem t215_bytes : t215.bytes = 24 := rfl
@[simp] theorem t215_z : t215.z = .agg [.lit (.int .i64 0), .lit (.int .i64 0), .lit (.int .i64 0)] := rfl
@[simp] theorem t215_y : t215.y = yTTicket := rfl
@[simp] theorem t215_kind : t215.kind = .st [(0, 3), (1, 3), (2, 3)] := rfl
@[simp] theorem t215_cmp : t215.cmp = true := rfl
/-- laws.Ticket = loop.example/g03007/laws.Ticket -/
def t217 : TI := ⟨3, 24, .agg #[.int .i64 0, .int .i64 0, .int .i64 0], .agg [.lit (.int .i64 0), .lit (.int .i64 0), .lit (.int .i64 0)], yTTicket, .st [(0, 3), (1, 3), (2, 3)], true⟩
@[simp] theorem t217_size : t217.size = 3 := rfl
@[simp] theorem t217_bytes : t217.bytes = 24 := rfl
@[simp] theorem t217_z : t217.z = .agg [.lit (.int .i64 0), .lit (.int .i64 0), .lit (.int .i64 0)] := rfl
@[simp] theorem t217_y : t217.y = yTTicket := rfl
@[simp] theorem t217_kind : t217.kind = .st [(0, 3), (1, 3), (2, 3)] := rfl
@[simp] theorem t217_cmp : t217.cmp = true := rfl
/-- *impl.queue -/
def t219 : TI := ⟨1, 8, .pointer none, .lit (.pointer none), .lit (.pointer none), .ptr 287, false⟩
@[simp] theorem t219_size : t219.size = 1 := rfl
@[simp] theorem t219_bytes : t219.bytes = 8 := rfl
@[simp] theorem t219_z : t219.z = .lit (.pointer none) := rfl
@[simp] theorem t219_y : t219.y = .lit (.pointer none) := rfl
@[simp] theorem t219_kind : t219.kind = .ptr 287 := rfl
@[simp] theorem t219_cmp : t219.cmp = false := rfl
/-- struct { From int; To int; Cents int; At int } -/
def t225 : TI := ⟨4, 32, .agg #[.int .i64 0, .int .i64 0, .int .i64 0, .int .i64 0], .agg [.lit (.int .i64 0), .lit (.int .i64 0), .lit (.int .i64 0), .lit (.int .i64 0)], yTEntry, .st [(0, 3), (1, 3), (2, 3), (3, 3)], true⟩
@[simp] theorem t225_size : t225.size = 4 := rfl
@[simp] theorem t225_bytes : t225.bytes = 32 := rfl
@[simp] theorem t225_z : t225.z = .agg [.lit (.int .i64 0), .lit (.int .i64 0), .lit (.int .i64 0), .lit (.int .i64 0)] := rfl
@[simp] theorem t225_y : t225.y = yTEntry := rfl
@[simp] theorem t225_kind : t225.kind = .st [(0, 3), (1, 3), (2, 3), (3, 3)] := rfl
@[simp] theorem t225_cmp : t225.cmp = true := rfl
/-- impl.Entry = loop.example/g03007/impl.Entry -/
def t226 : TI := ⟨4, 32, .agg #[.int .i64 0, .int .i64 0, .int .i64 0, .int .i64 0], .agg [.lit (.int .i64 0), .lit (.int .i64 0), .lit (.int .i64 0), .lit (.int .i64 0)], yTEntry, .st [(0, 3), (1, 3), (2, 3), (3, 3)], true⟩
@[simp] theorem t226_size : t226.size = 4 := rfl
@[simp] theorem t226_bytes : t226.bytes = 32 := rfl
@[simp] theorem t226_z : t226.z = .agg [.lit (.int .i64 0), .lit (.int .i64 0), .lit (.int .i64 0), .lit (.int .i64 0)] := rfl
@[simp] theorem t226_y : t226.y = yTEntry := rfl
@[simp] theorem t226_kind : t226.kind = .st [(0, 3), (1, 3), (2, 3), (3, 3)] := rfl
@[simp] theorem t226_cmp : t226.cmp = true := rfl
/-- laws.Entry = loop.example/g03007/laws.Entry -/
def t228 : TI := ⟨4, 32, .agg #[.int .i64 0, .int .i64 0, .int .i64 0, .int .i64 0], .agg [.lit (.int .i64 0), .lit (.int .i64 0), .lit (.int .i64 0), .lit (.int .i64 0)], yTEntry, .st [(0, 3), (1, 3), (2, 3), (3, 3)], true⟩
@[simp] theorem t228_size : t228.size = 4 := rfl
@[simp] theorem t228_bytes : t228.bytes = 32 := rfl
@[simp] theorem t228_z : t228.z = .agg [.lit (.int .i64 0), .lit (.int .i64 0), .lit (.int .i64 0), .lit (.int .i64 0)] := rfl
@[simp] theorem t228_y : t228.y = yTEntry := rfl
@[simp] theorem t228_kind : t228.kind = .st [(0, 3), (1, 3), (2, 3), (3, 3)] := rfl
@[simp] theorem t228_cmp : t228.cmp = true := rfl
/-- [2]int -/
def t229 : TI := ⟨2, 16, .agg #[.int .i64 0, .int .i64 0], .agg [.lit (.int .i64 0), .lit (.int .i64 0)], .any, .arr 2 3, false⟩
@[simp] theorem t229_size : t229.size = 2 := rfl
@[simp] theorem t229_bytes : t229.bytes = 16 := rfl
@[simp] theorem t229_z : t229.z = .agg [.lit (.int .i64 0), .lit (.int .i64 0)] := rfl
@[simp] theorem t229_y : t229.y = .any := rfl
@[simp] theorem t229_kind : t229.kind = .arr 2 3 := rfl
@[simp] theorem t229_cmp : t229.cmp = false := rfl
/-- struct { number int; count int } -/
def t232 : TI := ⟨2, 16, .agg #[.int .i64 0, .int .i64 0], .agg [.lit (.int .i64 0), .lit (.int .i64 0)], yTPeak, .st [(0, 3), (1, 3)], true⟩
@[simp] theorem t232_size : t232.size = 2 := rfl
@[simp] theorem t232_bytes : t232.bytes = 16 := rfl
@[simp] theorem t232_z : t232.z = .agg [.lit (.int .i64 0), .lit (.int .i64 0)] := rfl
@[simp] theorem t232_y : t232.y = yTPeak := rfl
@[simp] theorem t232_kind : t232.kind = .st [(0, 3), (1, 3)] := rfl
@[simp] theorem t232_cmp : t232.cmp = true := rfl
/-- impl.peak = loop.example/g03007/impl.peak -/
def t233 : TI := ⟨2, 16, .agg #[.int .i64 0, .int .i64 0], .agg [.lit (.int .i64 0), .lit (.int .i64 0)], yTPeak, .st [(0, 3), (1, 3)], true⟩
@[simp] theorem t233_size : t233.size = 2 := rfl
@[simp] theorem t233_bytes : t233.bytes = 16 := rfl
@[simp] theorem t233_z : t233.z = .agg [.lit (.int .i64 0), .lit (.int .i64 0)] := rfl
@[simp] theorem t233_y : t233.y = yTPeak := rfl
@[simp] theorem t233_kind : t233.kind = .st [(0, 3), (1, 3)] := rfl
@[simp] theorem t233_cmp : t233.cmp = true := rfl
/-- [4]func(impl.Find) bool -/
def t240 : TI := ⟨4, 32, .agg #[.nilFunc, .nilFunc, .nilFunc, .nilFunc], .agg [.lit .nilFunc, .lit .nilFunc, .lit .nilFunc, .lit .nilFunc], .any, .arr 4 146, false⟩
@[simp] theorem t240_size : t240.size = 4 := rfl
@[simp] theorem t240_bytes : t240.bytes = 32 := rfl
@[simp] theorem t240_z : t240.z = .agg [.lit .nilFunc, .lit .nilFunc, .lit .nilFunc, .lit .nilFunc] := rfl
@[simp] theorem t240_y : t240.y = .any := rfl
@[simp] theorem t240_kind : t240.kind = .arr 4 146 := rfl
@[simp] theorem t240_cmp : t240.cmp = false := rfl
/-- []impl.reportOption -/
def t242 : TI := ⟨1, 24, .slice none 0 0, .sl true 0 .any [], .any, .slice 153, false⟩
@[simp] theorem t242_size : t242.size = 1 := rfl
@[simp] theorem t242_bytes : t242.bytes = 24 := rfl
@[simp] theorem t242_z : t242.z = .sl true 0 .any [] := rfl
@[simp] theorem t242_y : t242.y = .any := rfl
@[simp] theorem t242_kind : t242.kind = .slice 153 := rfl
@[simp] theorem t242_cmp : t242.cmp = false := rfl
/-- *impl.Report -/
def t243 : TI := ⟨1, 8, .pointer none, .lit (.pointer none), .lit (.pointer none), .ptr 39, false⟩
@[simp] theorem t243_size : t243.size = 1 := rfl
@[simp] theorem t243_bytes : t243.bytes = 8 := rfl
@[simp] theorem t243_z : t243.z = .lit (.pointer none) := rfl
@[simp] theorem t243_y : t243.y = .lit (.pointer none) := rfl
@[simp] theorem t243_kind : t243.kind = .ptr 39 := rfl
@[simp] theorem t243_cmp : t243.cmp = false := rfl
/-- func(impl.Slot) int -/
def t247 : TI := ⟨1, 8, .nilFunc, .lit .nilFunc, .lit .nilFunc, .func, false⟩
@[simp] theorem t247_size : t247.size = 1 := rfl
@[simp] theorem t247_bytes : t247.bytes = 8 := rfl
@[simp] theorem t247_z : t247.z = .lit .nilFunc := rfl
@[simp] theorem t247_y : t247.y = .lit .nilFunc := rfl
@[simp] theorem t247_kind : t247.kind = .func := rfl
@[simp] theorem t247_cmp : t247.cmp = false := rfl
/-- struct { items []impl.Slot; numberOf func(impl.Slot) int } -/
def t248 : TI := ⟨2, 32, .agg #[.slice none 0 0, .nilFunc], .agg [.sl true 0 .any [], .lit .nilFunc], .any, .st [(0, 60), (1, 247)], false⟩
@[simp] theorem t248_size : t248.size = 2 := rfl
@[simp] theorem t248_bytes : t248.bytes = 32 := rfl
@[simp] theorem t248_z : t248.z = .agg [.sl true 0 .any [], .lit .nilFunc] := rfl
@[simp] theorem t248_y : t248.y = .any := rfl
@[simp] theorem t248_kind : t248.kind = .st [(0, 60), (1, 247)] := rfl
@[simp] theorem t248_cmp : t248.cmp = false := rfl
/-- impl.sortedList[loop.example/g03007/impl.Slot] = loop.example/g03007/impl.sortedList[loop.example/g03007/impl.Slot] -/
def t249 : TI := ⟨2, 32, .agg #[.slice none 0 0, .nilFunc], .agg [.sl true 0 .any [], .lit .nilFunc], .any, .st [(0, 60), (1, 247)], false⟩
@[simp] theorem t249_size : t249.size = 2 := rfl
@[simp] theorem t249_bytes : t249.bytes = 32 := rfl
@[simp] theorem t249_z : t249.z = .agg [.sl true 0 .any [], .lit .nilFunc] := rfl
@[simp] theorem t249_y : t249.y = .any := rfl
@[simp] theorem t249_kind : t249.kind = .st [(0, 60), (1, 247)] := rfl
@[simp] theorem t249_cmp : t249.cmp = false := rfl
/-- uint -/
def t257 : TI := ⟨1, 8, .int .u64 0, .lit (.int .u64 0), .lit (.int .u64 0), .int .u64, false⟩
@[simp] theorem t257_size : t257.size = 1 := rfl
@[simp] theorem t257_bytes : t257.bytes = 8 := rfl
@[simp] theorem t257_z : t257.z = .lit (.int .u64 0) := rfl
@[simp] theorem t257_y : t257.y = .lit (.int .u64 0) := rfl
@[simp] theorem t257_kind : t257.kind = .int .u64 := rfl
@[simp] theorem t257_cmp : t257.cmp = false := rfl
/-- func(impl.Find) int -/
def t262 : TI := ⟨1, 8, .nilFunc, .lit .nilFunc, .lit .nilFunc, .func, false⟩
@[simp] theorem t262_size : t262.size = 1 := rfl
@[simp] theorem t262_bytes : t262.bytes = 8 := rfl
@[simp] theorem t262_z : t262.z = .lit .nilFunc := rfl
@[simp] theorem t262_y : t262.y = .lit .nilFunc := rfl
@[simp] theorem t262_kind : t262.kind = .func := rfl
@[simp] theorem t262_cmp : t262.cmp = false := rfl
/-- struct { items []impl.Find; numberOf func(impl.Find) int } -/
def t263 : TI := ⟨2, 32, .agg #[.slice none 0 0, .nilFunc], .agg [.sl true 0 .any [], .lit .nilFunc], .any, .st [(0, 86), (1, 262)], false⟩
@[simp] theorem t263_size : t263.size = 2 := rfl
@[simp] theorem t263_bytes : t263.bytes = 32 := rfl
@[simp] theorem t263_z : t263.z = .agg [.sl true 0 .any [], .lit .nilFunc] := rfl
@[simp] theorem t263_y : t263.y = .any := rfl
@[simp] theorem t263_kind : t263.kind = .st [(0, 86), (1, 262)] := rfl
@[simp] theorem t263_cmp : t263.cmp = false := rfl
/-- impl.sortedList[loop.example/g03007/impl.Find] = loop.example/g03007/impl.sortedList[loop.example/g03007/impl.Find] -/
def t264 : TI := ⟨2, 32, .agg #[.slice none 0 0, .nilFunc], .agg [.sl true 0 .any [], .lit .nilFunc], .any, .st [(0, 86), (1, 262)], false⟩
@[simp] theorem t264_size : t264.size = 2 := rfl
@[simp] theorem t264_bytes : t264.bytes = 32 := rfl
@[simp] theorem t264_z : t264.z = .agg [.sl true 0 .any [], .lit .nilFunc] := rfl
@[simp] theorem t264_y : t264.y = .any := rfl
@[simp] theorem t264_kind : t264.kind = .st [(0, 86), (1, 262)] := rfl
@[simp] theorem t264_cmp : t264.cmp = false := rfl
/-- struct { thing int; outer *impl.node } -/
def t277 : TI := ⟨2, 16, .agg #[.int .i64 0, .pointer none], .agg [.lit (.int .i64 0), .lit (.pointer none)], .any, .st [(0, 3), (1, 209)], false⟩
@[simp] theorem t277_size : t277.size = 2 := rfl
@[simp] theorem t277_bytes : t277.bytes = 16 := rfl
@[simp] theorem t277_z : t277.z = .agg [.lit (.int .i64 0), .lit (.pointer none)] := rfl
@[simp] theorem t277_y : t277.y = .any := rfl
@[simp] theorem t277_kind : t277.kind = .st [(0, 3), (1, 209)] := rfl
@[simp] theorem t277_cmp : t277.cmp = false := rfl
/-- impl.node = loop.example/g03007/impl.node -/
def t278 : TI := ⟨2, 16, .agg #[.int .i64 0, .pointer none], .agg [.lit (.int .i64 0), .lit (.pointer none)], .any, .st [(0, 3), (1, 209)], false⟩
@[simp] theorem t278_size : t278.size = 2 := rfl
@[simp] theorem t278_bytes : t278.bytes = 16 := rfl
@[simp] theorem t278_z : t278.z = .agg [.lit (.int .i64 0), .lit (.pointer none)] := rfl
@[simp] theorem t278_y : t278.y = .any := rfl
@[simp] theorem t278_kind : t278.kind = .st [(0, 3), (1, 209)] := rfl
@[simp] theorem t278_cmp : t278.cmp = false := rfl
/-- func(impl.Ticket) int -/
def t280 : TI := ⟨1, 8, .nilFunc, .lit .nilFunc, .lit .nilFunc, .func, false⟩
@[simp] theorem t280_size : t280.size = 1 := rfl
@[simp] theorem t280_bytes : t280.bytes = 8 := rfl
@[simp] theorem t280_z : t280.z = .lit .nilFunc := rfl
@[simp] theorem t280_y : t280.y = .lit .nilFunc := rfl
@[simp] theorem t280_kind : t280.kind = .func := rfl
@[simp] theorem t280_cmp : t280.cmp = false := rfl
/-- struct { items []impl.Ticket; numberOf func(impl.Ticket) int } -/
def t281 : TI := ⟨2, 32, .agg #[.slice none 0 0, .nilFunc], .agg [.sl true 0 .any [], .lit .nilFunc], .any, .st [(0, 124), (1, 280)], false⟩
@[simp] theorem t281_size : t281.size = 2 := rfl
@[simp] theorem t281_bytes : t281.bytes = 32 := rfl
@[simp] theorem t281_z : t281.z = .agg [.sl true 0 .any [], .lit .nilFunc] := rfl
@[simp] theorem t281_y : t281.y = .any := rfl
@[simp] theorem t281_kind : t281.kind = .st [(0, 124), (1, 280)] := rfl
@[simp] theorem t281_cmp : t281.cmp = false := rfl
/-- impl.sortedList[loop.example/g03007/impl.Ticket] = loop.example/g03007/impl.sortedList[loop.example/g03007/impl.Ticket] -/
def t282 : TI := ⟨2, 32, .agg #[.slice none 0 0, .nilFunc], .agg [.sl true 0 .any [], .lit .nilFunc], .any, .st [(0, 124), (1, 280)], false⟩
@[simp] theorem t282_size : t282.size = 2 := rfl
@[simp] theorem t282_bytes : t282.bytes = 32 := rfl
@[simp] theorem t282_z : t282.z = .agg [.sl true 0 .any [], .lit .nilFunc] := rfl
@[simp] theorem t282_y : t282.y = .any := rfl
@[simp] theorem t282_kind : t282.kind = .st [(0, 124), (1, 280)] := rfl
@[simp] theorem t282_cmp : t282.cmp = false := rfl
/-- []*impl.queue -/
def t285 : TI := ⟨1, 24, .slice none 0 0, .sl true 0 .any [], .any, .slice 219, false⟩
@[simp] theorem t285_size : t285.size = 1 := rfl
@[simp] theorem t285_bytes : t285.bytes = 24 := rfl
@[simp] theorem t285_z : t285.z = .sl true 0 .any [] := rfl
@[simp] theorem t285_y : t285.y = .any := rfl
@[simp] theorem t285_kind : t285.kind = .slice 219 := rfl
@[simp] theorem t285_cmp : t285.cmp = false := rfl
/-- struct { waiting []impl.Ticket } -/
def t286 : TI := ⟨1, 24, .agg #[.slice none 0 0], .agg [.sl true 0 .any []], yTQueue, .st [(0, 124)], false⟩
@[simp] theorem t286_size : t286.size = 1 := rfl
@[simp] theorem t286_bytes : t286.bytes = 24 := rfl
@[simp] theorem t286_z : t286.z = .agg [.sl true 0 .any []] := rfl
@[simp] theorem t286_y : t286.y = yTQueue := rfl
@[simp] theorem t286_kind : t286.kind = .st [(0, 124)] := rfl
@[simp] theorem t286_cmp : t286.cmp = false := rfl
/-- impl.queue = loop.example/g03007/impl.queue -/
def t287 : TI := ⟨1, 24, .agg #[.slice none 0 0], .agg [.sl true 0 .any []], yTQueue, .st [(0, 124)], false⟩
@[simp] theorem t287_size : t287.size = 1 := rfl
@[simp] theorem t287_bytes : t287.bytes = 24 := rfl
@[simp] theorem t287_z : t287.z = .agg [.sl true 0 .any []] := rfl
@[simp] theorem t287_y : t287.y = yTQueue := rfl
@[simp] theorem t287_kind : t287.kind = .st [(0, 124)] := rfl
@[simp] theorem t287_cmp : t287.cmp = false := rfl
/-- *impl.peak -/
def t292 : TI := ⟨1, 8, .pointer none, .lit (.pointer none), .lit (.pointer none), .ptr 233, false⟩
@[simp] theorem t292_size : t292.size = 1 := rfl
@[simp] theorem t292_bytes : t292.bytes = 8 := rfl
@[simp] theorem t292_z : t292.z = .lit (.pointer none) := rfl
@[simp] theorem t292_y : t292.y = .lit (.pointer none) := rfl
@[simp] theorem t292_kind : t292.kind = .ptr 233 := rfl
@[simp] theorem t292_cmp : t292.cmp = false := rfl
/-- *impl.sizeHeap -/
def t295 : TI := ⟨1, 8, .pointer none, .lit (.pointer none), .lit (.pointer none), .ptr 297, false⟩
@[simp] theorem t295_size : t295.size = 1 := rfl
@[simp] theorem t295_bytes : t295.bytes = 8 := rfl
@[simp] theorem t295_z : t295.z = .lit (.pointer none) := rfl
@[simp] theorem t295_y : t295.y = .lit (.pointer none) := rfl
@[simp] theorem t295_kind : t295.kind = .ptr 297 := rfl
@[simp] theorem t295_cmp : t295.cmp = false := rfl
/-- []impl.freeSlot -/
def t296 : TI := ⟨1, 24, .slice none 0 0, .sl true 0 .any [], yLTFreeSlot, .slice 300, false⟩
@[simp] theorem t296_size : t296.size = 1 := rfl
@[simp] theorem t296_bytes : t296.bytes = 24 := rfl
@[simp] theorem t296_z : t296.z = .sl true 0 .any [] := rfl
@[simp] theorem t296_y : t296.y = yLTFreeSlot := rfl
@[simp] theorem t296_kind : t296.kind = .slice 300 := rfl
@[simp] theorem t296_cmp : t296.cmp = false := rfl
/-- impl.sizeHeap = loop.example/g03007/impl.sizeHeap -/
def t297 : TI := ⟨1, 24, .slice none 0 0, .sl true 0 .any [], yLTFreeSlot, .slice 300, false⟩
@[simp] theorem t297_size : t297.size = 1 := rfl
@[simp] theorem t297_bytes : t297.bytes = 24 := rfl
@[simp] theorem t297_z : t297.z = .sl true 0 .any [] := rfl
@[simp] theorem t297_y : t297.y = yLTFreeSlot := rfl
@[simp] theorem t297_kind : t297.kind = .slice 300 := rfl
@[simp] theorem t297_cmp : t297.cmp = false := rfl
/-- struct { size int; index int } -/
def t299 : TI := ⟨2, 16, .agg #[.int .i64 0, .int .i64 0], .agg [.lit (.int .i64 0), .lit (.int .i64 0)], yTFreeSlot, .st [(0, 3), (1, 3)], true⟩
@[simp] theorem t299_size : t299.size = 2 := rfl
@[simp] theorem t299_bytes : t299.bytes = 16 := rfl
@[simp] theorem t299_z : t299.z = .agg [.lit (.int .i64 0), .lit (.int .i64 0)] := rfl
@[simp] theorem t299_y : t299.y = yTFreeSlot := rfl
@[simp] theorem t299_kind : t299.kind = .st [(0, 3), (1, 3)] := rfl
@[simp] theorem t299_cmp : t299.cmp = true := rfl
/-- impl.freeSlot = loop.example/g03007/impl.freeSlot -/
def t300 : TI := ⟨2, 16, .agg #[.int .i64 0, .int .i64 0], .agg [.lit (.int .i64 0), .lit (.int .i64 0)], yTFreeSlot, .st [(0, 3), (1, 3)], true⟩
@[simp] theorem t300_size : t300.size = 2 := rfl
@[simp] theorem t300_bytes : t300.bytes = 16 := rfl
@[simp] theorem t300_z : t300.z = .agg [.lit (.int .i64 0), .lit (.int .i64 0)] := rfl
@[simp] theorem t300_y : t300.y = yTFreeSlot := rfl
@[simp] theorem t300_kind : t300.kind = .st [(0, 3), (1, 3)] := rfl
@[simp] theorem t300_cmp : t300.cmp = true := rfl
/-- impl.content = loop.example/g03007/impl.content -/
def t304 : TI := ⟨1, 8, .int .i64 0, .lit (.int .i64 0), .lit (.int .i64 0), .int .i64, false⟩
@[simp] theorem t304_size : t304.size = 1 := rfl
@[simp] theorem t304_bytes : t304.bytes = 8 := rfl
@[simp] theorem t304_z : t304.z = .lit (.int .i64 0) := rfl
@[simp] theorem t304_y : t304.y = .lit (.int .i64 0) := rfl
@[simp] theorem t304_kind : t304.kind = .int .i64 := rfl
@[simp] theorem t304_cmp : t304.cmp = false := rfl
/-- slices.sortedHint -/
def t306 : TI := ⟨1, 8, .int .i64 0, .lit (.int .i64 0), .lit (.int .i64 0), .int .i64, false⟩
@[simp] theorem t306_size : t306.size = 1 := rfl
@[simp] theorem t306_bytes : t306.bytes = 8 := rfl
@[simp] theorem t306_z : t306.z = .lit (.int .i64 0) := rfl
@[simp] theorem t306_y : t306.y = .lit (.int .i64 0) := rfl
@[simp] theorem t306_kind : t306.kind = .int .i64 := rfl
@[simp] theorem t306_cmp : t306.cmp = false := rfl
/-- uint32 -/
def t313 : TI := ⟨1, 4, .int .u32 0, .lit (.int .u32 0), .lit (.int .u32 0), .int .u32, false⟩
@[simp] theorem t313_size : t313.size = 1 := rfl
@[simp] theorem t313_bytes : t313.bytes = 4 := rfl
@[simp] theorem t313_z : t313.z = .lit (.int .u32 0) := rfl
@[simp] theorem t313_y : t313.y = .lit (.int .u32 0) := rfl
@[simp] theorem t313_kind : t313.kind = .int .u32 := rfl
@[simp] theorem t313_cmp : t313.cmp = false := rfl
/-- uint64 -/
def t315 : TI := ⟨1, 8, .int .u64 0, .lit (.int .u64 0), .lit (.int .u64 0), .int .u64, false⟩
@[simp] theorem t315_size : t315.size = 1 := rfl
@[simp] theorem t315_bytes : t315.bytes = 8 := rfl
@[simp] theorem t315_z : t315.z = .lit (.int .u64 0) := rfl
@[simp] theorem t315_y : t315.y = .lit (.int .u64 0) := rfl
@[simp] theorem t315_kind : t315.kind = .int .u64 := rfl
@[simp] theorem t315_cmp : t315.cmp = false := rfl
/-- interface { Len() int; Less(int, int) bool; Pop() interface {}; Push(interface {}); Swap(int, int) } -/
def t325 : TI := ⟨1, 16, .nilIface, .lit .nilIface, .lit .nilIface, .iface, false⟩
@[simp] theorem t325_size : t325.size = 1 := rfl
@[simp] theorem t325_bytes : t325.bytes = 16 := rfl
@[simp] theorem t325_z : t325.z = .lit .nilIface := rfl
@[simp] theorem t325_y : t325.y = .lit .nilIface := rfl
@[simp] theorem t325_kind : t325.kind = .iface := rfl
@[simp] theorem t325_cmp : t325.cmp = false := rfl
/-- heap.Interface = container/heap.Interface -/
def t326 : TI := ⟨1, 16, .nilIface, .lit .nilIface, .lit .nilIface, .iface, false⟩
@[simp] theorem t326_size : t326.size = 1 := rfl
@[simp] theorem t326_bytes : t326.bytes = 16 := rfl
@[simp] theorem t326_z : t326.z = .lit .nilIface := rfl
@[simp] theorem t326_y : t326.y = .lit .nilIface := rfl
@[simp] theorem t326_kind : t326.kind = .iface := rfl
@[simp] theorem t326_cmp : t326.cmp = false := rfl
/-- slices.xorshift -/
def t331 : TI := ⟨1, 8, .int .u64 0, .lit (.int .u64 0), .lit (.int .u64 0), .int .u64, false⟩
@[simp] theorem t331_size : t331.size = 1 := rfl
@[simp] theorem t331_bytes : t331.bytes = 8 := rfl
@[simp] theorem t331_z : t331.z = .lit (.int .u64 0) := rfl
@[simp] theorem t331_y : t331.y = .lit (.int .u64 0) := rfl
@[simp] theorem t331_kind : t331.kind = .int .u64 := rfl
@[simp] theorem t331_cmp : t331.cmp = false := rfl
/-- *int -/
def t335 : TI := ⟨1, 8, .pointer none, .lit (.pointer none), .lit (.pointer none), .ptr 3, false⟩
@[simp] theorem t335_size : t335.size = 1 := rfl
@[simp] theorem t335_bytes : t335.bytes = 8 := rfl
@[simp] theorem t335_z : t335.z = .lit (.pointer none) := rfl
@[simp] theorem t335_y : t335.y = .lit (.pointer none) := rfl
@[simp] theorem t335_kind : t335.kind = .ptr 3 := rfl
@[simp] theorem t335_cmp : t335.cmp = false := rfl
/-- map[int]int -/
def t338 : TI := ⟨1, 8, .map none, .fm 0 [] .any [], .any, .map 3 3, false⟩
@[simp] theorem t338_size : t338.size = 1 := rfl
@[simp] theorem t338_bytes : t338.bytes = 8 := rfl
@[simp] theorem t338_z : t338.z = .fm 0 [] .any [] := rfl
@[simp] theorem t338_y : t338.y = .any := rfl
@[simp] theorem t338_kind : t338.kind = .map 3 3 := rfl
@[simp] theorem t338_cmp : t338.cmp = false := rfl
/-- *slices.xorshift -/
def t340 : TI := ⟨1, 8, .pointer none, .lit (.pointer none), .lit (.pointer none), .ptr 331, false⟩
@[simp] theorem t340_size : t340.size = 1 := rfl
@[simp] theorem t340_bytes : t340.bytes = 8 := rfl
@[simp] theorem t340_z : t340.z = .lit (.pointer none) := rfl
@[simp] theorem t340_y : t340.y = .lit (.pointer none) := rfl
@[simp] theorem t340_kind : t340.kind = .ptr 331 := rfl
@[simp] theorem t340_cmp : t340.cmp = false := rfl
/-- func(unsafe.Pointer, unsafe.Pointer) bool -/
def t353 : TI := ⟨1, 8, .nilFunc, .lit .nilFunc, .lit .nilFunc, .func, false⟩
@[simp] theorem t353_size : t353.size = 1 := rfl
@[simp] theorem t353_bytes : t353.bytes = 8 := rfl
@[simp] theorem t353_z : t353.z = .lit .nilFunc := rfl
@[simp] theorem t353_y : t353.y = .lit .nilFunc := rfl
@[simp] theorem t353_kind : t353.kind = .func := rfl
@[simp] theorem t353_cmp : t353.cmp = false := rfl
/-- *uint8 -/
def t354 : TI := ⟨1, 8, .pointer none, .lit (.pointer none), .lit (.pointer none), .ptr 5, false⟩
@[simp] theorem t354_size : t354.size = 1 := rfl
@[simp] theorem t354_bytes : t354.bytes = 8 := rfl
@[simp] theorem t354_z : t354.z = .lit (.pointer none) := rfl
@[simp] theorem t354_y : t354.y = .lit (.pointer none) := rfl
@[simp] theorem t354_kind : t354.kind = .ptr 5 := rfl
@[simp] theorem t354_cmp : t354.cmp = false := rfl
/-- struct { Size_ uintptr; PtrBytes uintptr; Hash uint32; TFlag abi.TFlag; Align_ uint8; FieldAlign_ uint8; Kind_ abi.Kind; Equal func(unsafe.Pointer, unsafe.Pointer) bool; GCData *uint8; Str abi.NameOff; PtrToThis abi.TypeOff } -/
def t357 : TI := ⟨11, 48, .agg #[.int .u64 0, .int .u64 0, .int .u32 0, .int .u8 0, .int .u8 0, .int .u8 0, .int .u8 0, .nilFunc, .pointer none, .int .i32 0, .int .i32 0], .agg [.lit (.int .u64 0), .lit (.int .u64 0), .lit (.int .u32 0), .lit (.int .u8 0), .lit (.int .u8 0), .lit (.int .u8 0), .lit (.int .u8 0), .lit .nilFunc, .lit (.pointer none), .lit (.int .i32 0), .lit (.int .i32 0)], .any, .st [(0, 12), (1, 12), (2, 313), (3, 351), (4, 5), (5, 5), (6, 352), (7, 353), (8, 354), (9, 355), (10, 356)], false⟩
@[simp] theorem t357_size : t357.size = 11 := rfl
@[simp] theorem t357_bytes : t357.bytes = 48 := rfl
@[simp] theorem t357_z : t357.z = .agg [.lit (.int .u64 0), .lit (.int .u64 0), .lit (.int .u32 0), .lit (.int .u8 0), .lit (.int .u8 0), .lit (.int .u8 0), .lit (.int .u8 0), .lit .nilFunc, .lit (.pointer none), .lit (.int .i32 0), .lit (.int .i32 0)] := rfl
@[simp] theorem t357_y : t357.y = .any := rfl
@[simp] theorem t357_kind : t357.kind = .st [(0, 12), (1, 12), (2, 313), (3, 351), (4, 5), (5, 5), (6, 352), (7, 353), (8, 354), (9, 355), (10, 356)] := rfl
@[simp] theorem t357_cmp : t357.cmp = false := rfl
/-- struct { kind int; colour int; size int; place int } -/
def t362 : TI := ⟨4, 32, .agg #[.int .i64 0, .int .i64 0, .int .i64 0, .int .i64 0], .agg [.lit (.int .i64 0), .lit (.int .i64 0), .lit (.int .i64 0), .lit (.int .i64 0)], .any, .st [(0, 3), (1, 3), (2, 3), (3, 3)], true⟩
@[simp] theorem t362_size : t362.size = 4 := rfl
@[simp] theorem t362_bytes : t362.bytes = 32 := rfl
@[simp] theorem t362_z : t362.z = .agg [.lit (.int .i64 0), .lit (.int .i64 0), .lit (.int .i64 0), .lit (.int .i64 0)] := rfl
@[simp] theorem t362_y : t362.y = .any := rfl
@[simp] theorem t362_kind : t362.kind = .st [(0, 3), (1, 3), (2, 3), (3, 3)] := rfl
@[simp] theorem t362_cmp : t362.cmp = true := rfl
theorem t2_ok : t2.ok Try.prog 2 := ⟨by kernel_rfl, by kernel_rfl, by kernel_rfl, Try.underlying2, (fun h => by cases h), ⟨rfl, rfl, rfl, rfl, fun F h β => by simp [t2, Rep, Reps]⟩⟩
theorem t3_ok : t3.ok Try.prog 3 := ⟨by kernel_rfl, by kernel_rfl, by kernel_rfl, Try.underlying3, (fun h => by cases h), ⟨rfl, rfl, rfl, rfl, fun F h β => by simp [t3, Rep, Reps]⟩⟩
theorem t4_ok : t4.ok Try.prog 4 := ⟨by kernel_rfl, by kernel_rfl, by kernel_rfl, Try.underlying4, (fun h => by cases h), ⟨rfl, rfl, rfl, rfl, fun F h β => by simp [t4, Rep, Reps]⟩⟩
theorem t5_ok : t5.ok Try.prog 5 := ⟨by kernel_rfl, by kernel_rfl, by kernel_rfl, Try.underlying5, (fun h => by cases h), ⟨rfl, rfl, rfl, rfl, fun F h β => by simp [t5, Rep, Reps]⟩⟩
theorem t9_ok : t9.ok Try.prog 9 := ⟨by kernel_rfl, by kernel_rfl, by kernel_rfl, Try.underlying9, (fun h => by cases h), ⟨rfl, rfl, rfl, rfl, fun F h β => by simp [t9, Rep, Reps]⟩⟩
theorem t12_ok : t12.ok Try.prog 12 := ⟨by kernel_rfl, by kernel_rfl, by kernel_rfl, Try.underlying12, (fun h => by cases h), ⟨rfl, rfl, rfl, rfl, fun F h β => by simp [t12, Rep, Reps]⟩⟩
theorem t20_ok : t20.ok Try.prog 20 := ⟨by kernel_rfl, by kernel_rfl, by kernel_rfl, ⟨_, Try.underlying20⟩, (fun h => by cases h), ⟨rfl, rfl, rfl, rfl, fun F h β => by simp [t20, Rep, Reps]⟩⟩
theorem t21_ok : t21.ok Try.prog 21 := ⟨by kernel_rfl, by kernel_rfl, by kernel_rfl, Try.underlying21, (fun h => by cases h), ⟨rfl, rfl, rfl, rfl, fun F h β => by simp [t21, Rep, Reps]⟩⟩
theorem t22_ok : t22.ok Try.prog 22 := ⟨by kernel_rfl, by kernel_rfl, by kernel_rfl, Try.underlying22, (fun h => by cases h), ⟨rfl, rfl, rfl, rfl, fun F h β => by simp [t22, Rep, Reps]⟩⟩
theorem t28_ok : t28.ok Try.prog 28 := ⟨by kernel_rfl, by kernel_rfl, by kernel_rfl, ⟨_, Try.underlying28, rfl⟩, (fun _ => eqInts_of (by kernel_rfl) (by kernel_rfl) (by kernel_rfl)), ⟨rfl, rfl, rfl, rfl, fun F h β => by simp [t28, Rep, Reps]⟩⟩
theorem t29_ok : t29.ok Try.prog 29 := ⟨by kernel_rfl, by kernel_rfl, by kernel_rfl, ⟨_, Try.underlying29, rfl⟩, (fun _ => eqInts_of (by kernel_rfl) (by kernel_rfl) (by kernel_rfl)), ⟨rfl, rfl, rfl, rfl, fun F h β => by simp [t29, Rep, Reps]⟩⟩
theorem t30_ok : t30.ok Try.prog 30 := ⟨by kernel_rfl, by kernel_rfl, by kernel_rfl, ⟨_, Try.underlying30, rfl⟩, (fun _ => eqInts_of (by kernel_rfl) (by kernel_rfl) (by kernel_rfl)), ⟨rfl, rfl, rfl, rfl, fun F h β => by simp [t30, Rep, Reps]⟩⟩
theorem t31_ok : t31.ok Try.prog 31 := ⟨by kernel_rfl, by kernel_rfl, by kernel_rfl, ⟨_, Try.underlying31, rfl⟩, (fun _ => eqInts_of (by kernel_rfl) (by kernel_rfl) (by kernel_rfl)), ⟨rfl, rfl, rfl, rfl, fun F h β => by simp [t31, Rep, Reps]⟩⟩
theorem t32_ok : t32.ok Try.prog 32 := ⟨by kernel_rfl, by kernel_rfl, by kernel_rfl, Try.underlying32, (fun h => by cases h), ⟨rfl, rfl, rfl, rfl, fun F h β => by simp [t32, Rep, Reps]⟩⟩
theorem t33_ok : t33.ok Try.prog 33 := ⟨by kernel_rfl, by kernel_rfl, by kernel_rfl, ⟨_, Try.underlying33, rfl⟩, (fun h => by cases h), ⟨rfl, rfl, rfl, rfl, fun F h β => by
    show Rep F h β t33.z t33.zero
    simp only [t33, Rep, Reps]
    exact ⟨_, rfl, _, _, rfl, (.inl ⟨by trivial, none, 0, by trivial, by intros; rfl⟩), _, _, rfl, (by trivial), _, _, rfl, (.inl ⟨by trivial, none, 0, by trivial, by intros; rfl⟩), _, _, rfl, (by trivial), rfl⟩⟩⟩
theorem t34_ok : t34.ok Try.prog 34 := ⟨by kernel_rfl, by kernel_rfl, by kernel_rfl, ⟨_, Try.underlying34, rfl⟩, (fun h => by cases h), ⟨rfl, rfl, rfl, rfl, fun F h β => by
    show Rep F h β t34.z t34.zero
    simp only [t34, Rep, Reps]
    exact ⟨_, rfl, _, _, rfl, (.inl ⟨by trivial, none, 0, by trivial, by intros; rfl⟩), _, _, rfl, (by trivial), _, _, rfl, (.inl ⟨by trivial, none, 0, by trivial, by intros; rfl⟩), _, _, rfl, (by trivial), rfl⟩⟩⟩
theorem t36_ok : t36.ok Try.prog 36 := ⟨by kernel_rfl, by kernel_rfl, by kernel_rfl, ⟨_, Try.underlying36, rfl⟩, (fun _ => eqInts_of (by kernel_rfl) (by kernel_rfl) (by kernel_rfl)), ⟨rfl, rfl, rfl, rfl, fun F h β => by simp [t36, Rep, Reps]⟩⟩
theorem t37_ok : t37.ok Try.prog 37 := ⟨by kernel_rfl, by kernel_rfl, by kernel_rfl, ⟨_, Try.underlying37, rfl⟩, (fun _ => eqInts_of (by kernel_rfl) (by kernel_rfl) (by kernel_rfl)), ⟨rfl, rfl, rfl, rfl, fun F h β => by simp [t37, Rep, Reps]⟩⟩
theorem t38_ok : t38.ok Try.prog 38 := ⟨by kernel_rfl, by kernel_rfl, by kernel_rfl, ⟨_, Try.underlying38, rfl⟩, (fun h => by cases h), ⟨rfl, rfl, rfl, rfl, fun F h β => by
    show Rep F h β t38.z t38.zero
    simp only [t38, Rep, Reps]
    exact ⟨_, rfl, _, _, rfl, (by trivial), _, _, rfl, (by trivial), _, _, rfl, (.inl ⟨by trivial, none, 0, by trivial, by intros; rfl⟩), _, _, rfl, (by trivial), _, _, rfl, (by trivial), _, _, rfl, (.inl ⟨by trivial, none, 0, by trivial, by intros; rfl⟩), _, _, rfl, (by trivial), _, _, rfl, (by trivial), rfl⟩⟩⟩
theorem t39_ok : t39.ok Try.prog 39 := ⟨by kernel_rfl, by kernel_rfl, by kernel_rfl, ⟨_, Try.underlying39, rfl⟩, (fun h => by cases h), ⟨rfl, rfl, rfl, rfl, fun F h β => by
    show Rep F h β t39.z t39.zero
    simp only [t39, Rep, Reps]
    exact ⟨_, rfl, _, _, rfl, (by trivial), _, _, rfl, (by trivial), _, _, rfl, (.inl ⟨by trivial, none, 0, by trivial, by intros; rfl⟩), _, _, rfl, (by trivial), _, _, rfl, (by trivial), _, _, rfl, (.inl ⟨by trivial, none, 0, by trivial, by intros; rfl⟩), _, _, rfl, (by trivial), _, _, rfl, (by trivial), rfl⟩⟩⟩
theorem t42_ok : t42.ok Try.prog 42 := ⟨by kernel_rfl, by kernel_rfl, by kernel_rfl, ⟨_, Try.underlying42, rfl⟩, (fun _ => eqInts_of (by kernel_rfl) (by kernel_rfl) (by kernel_rfl)), ⟨rfl, rfl, rfl, rfl, fun F h β => by simp [t42, Rep, Reps]⟩⟩
theorem t43_ok : t43.ok Try.prog 43 := ⟨by kernel_rfl, by kernel_rfl, by kernel_rfl, ⟨_, Try.underlying43, rfl⟩, (fun _ => eqInts_of (by kernel_rfl) (by kernel_rfl) (by kernel_rfl)), ⟨rfl, rfl, rfl, rfl, fun F h β => by simp [t43, Rep, Reps]⟩⟩
theorem t44_ok : t44.ok Try.prog 44 := ⟨by kernel_rfl, by kernel_rfl, by kernel_rfl, ⟨_, Try.underlying44, rfl⟩, (fun _ => eqInts_of (by kernel_rfl) (by kernel_rfl) (by kernel_rfl)), ⟨rfl, rfl, rfl, rfl, fun F h β => by simp [t44, Rep, Reps]⟩⟩
theorem t46_ok : t46.ok Try.prog 46 := ⟨by kernel_rfl, by kernel_rfl, by kernel_rfl, ⟨_, Try.underlying46, rfl⟩, (fun h => by cases h), ⟨rfl, rfl, rfl, rfl, fun F h β => by
    show Rep F h β t46.z t46.zero
    simp only [t46, Rep, Reps]
    exact ⟨_, rfl, _, _, rfl, (.inl ⟨by trivial, none, 0, by trivial, by intros; rfl⟩), _, _, rfl, (by trivial), _, _, rfl, (.inl ⟨by trivial, none, 0, by trivial, by intros; rfl⟩), _, _, rfl, (by trivial), rfl⟩⟩⟩
theorem t56_ok : t56.ok Try.prog 56 := ⟨by kernel_rfl, by kernel_rfl, by kernel_rfl, Try.underlying56, (fun h => by cases h), ⟨rfl, rfl, rfl, rfl, fun F h β => by simp [t56, Rep, Reps]⟩⟩
theorem t57_ok : t57.ok Try.prog 57 := ⟨by kernel_rfl, by kernel_rfl, by kernel_rfl, Try.underlying57, (fun h => by cases h), ⟨rfl, rfl, rfl, rfl, fun F h β => by simp [t57, Rep, Reps]⟩⟩
theorem t60_ok : t60.ok Try.prog 60 := ⟨by kernel_rfl, by kernel_rfl, by kernel_rfl, Try.underlying60, (fun h => by cases h), ⟨rfl, rfl, rfl, rfl, fun F h β => by simp [t60, Rep, Reps]⟩⟩
theorem t64_ok : t64.ok Try.prog 64 := ⟨by kernel_rfl, by kernel_rfl, by kernel_rfl, Try.underlying64, (fun h => by cases h), ⟨rfl, rfl, rfl, rfl, fun F h β => by simp [t64, Rep, Reps]⟩⟩
theorem t75_ok : t75.ok Try.prog 75 := ⟨by kernel_rfl, by kernel_rfl, by kernel_rfl, Try.underlying75, (fun h => by cases h), ⟨rfl, rfl, rfl, rfl, fun F h β => by simp [t75, Rep, Reps]⟩⟩
theorem t78_ok : t78.ok Try.prog 78 := ⟨by kernel_rfl, by kernel_rfl, by kernel_rfl, Try.underlying78, (fun h => by cases h), ⟨rfl, rfl, rfl, rfl, fun F h β => by simp [t78, Rep, Reps]⟩⟩
theorem t83_ok : t83.ok Try.prog 83 := ⟨by kernel_rfl, by kernel_rfl, by kernel_rfl, Try.underlying83, (fun h => by cases h), ⟨rfl, rfl, rfl, rfl, fun F h β => by simp [t83, Rep, Reps]⟩⟩
theorem t86_ok : t86.ok Try.prog 86 := ⟨by kernel_rfl, by kernel_rfl, by kernel_rfl, Try.underlying86, (fun h => by cases h), ⟨rfl, rfl, rfl, rfl, fun F h β => by simp [t86, Rep, Reps]⟩⟩
theorem t91_ok : t91.ok Try.prog 91 := ⟨by kernel_rfl, by kernel_rfl, by kernel_rfl, ⟨_, Try.underlying91, rfl⟩, (fun _ => eqInts_of (by kernel_rfl) (by kernel_rfl) (by kernel_rfl)), ⟨rfl, rfl, rfl, rfl, fun F h β => by simp [t91, Rep, Reps]⟩⟩
theorem t92_ok : t92.ok Try.prog 92 := ⟨by kernel_rfl, by kernel_rfl, by kernel_rfl, ⟨_, Try.underlying92, rfl⟩, (fun h => by cases h), ⟨rfl, rfl, rfl, rfl, fun F h β => by
    show Rep F h β t92.z t92.zero
    simp only [t92, Rep, Reps]
    exact ⟨_, rfl, _, _, rfl, (by trivial), _, _, rfl, (by trivial), _, _, rfl, (.inl ⟨by trivial, none, 0, by trivial, by intros; rfl⟩), _, _, rfl, (by trivial), _, _, rfl, (by trivial), _, _, rfl, (.inl ⟨by trivial, none, 0, by trivial, by intros; rfl⟩), _, _, rfl, (by trivial), _, _, rfl, (by trivial), rfl⟩⟩⟩
theorem t93_ok : t93.ok Try.prog 93 := ⟨by kernel_rfl, by kernel_rfl, by kernel_rfl, ⟨_, Try.underlying93, rfl⟩, (fun h => by cases h), ⟨rfl, rfl, rfl, rfl, fun F h β => by
    show Rep F h β t93.z t93.zero
    simp only [t93, Rep, Reps]
    exact ⟨_, rfl, _, _, rfl, (by trivial), _, _, rfl, (by trivial), _, _, rfl, (.inl ⟨by trivial, none, 0, by trivial, by intros; rfl⟩), _, _, rfl, (by trivial), _, _, rfl, (by trivial), _, _, rfl, (.inl ⟨by trivial, none, 0, by trivial, by intros; rfl⟩), _, _, rfl, (by trivial), _, _, rfl, (by trivial), rfl⟩⟩⟩
theorem t101_ok : t101.ok Try.prog 101 := ⟨by kernel_rfl, by kernel_rfl, by kernel_rfl, Try.underlying101, (fun h => by cases h), ⟨rfl, rfl, rfl, rfl, fun F h β => by simp [t101, Rep, Reps]⟩⟩
theorem t107_ok : t107.ok Try.prog 107 := ⟨by kernel_rfl, by kernel_rfl, by kernel_rfl, Try.underlying107, (fun h => by cases h), ⟨rfl, rfl, rfl, rfl, fun F h β => by simp [t107, Rep, Reps]⟩⟩
theorem t110_ok : t110.ok Try.prog 110 := ⟨by kernel_rfl, by kernel_rfl, by kernel_rfl, Try.underlying110, (fun h => by cases h), ⟨rfl, rfl, rfl, rfl, fun F h β => by simp [t110, Rep, Reps]⟩⟩
theorem t121_ok : t121.ok Try.prog 121 := ⟨by kernel_rfl, by kernel_rfl, by kernel_rfl, Try.underlying121, (fun h => by cases h), ⟨rfl, rfl, rfl, rfl, fun F h β => by simp [t121, Rep, Reps]⟩⟩
theorem t124_ok : t124.ok Try.prog 124 := ⟨by kernel_rfl, by kernel_rfl, by kernel_rfl, Try.underlying124, (fun h => by cases h), ⟨rfl, rfl, rfl, rfl, fun F h β => by simp [t124, Rep, Reps]⟩⟩
theorem t132_ok : t132.ok Try.prog 132 := ⟨by kernel_rfl, by kernel_rfl, by kernel_rfl, Try.underlying132, (fun h => by cases h), ⟨rfl, rfl, rfl, rfl, fun F h β => by simp [t132, Rep, Reps]⟩⟩
theorem t135_ok : t135.ok Try.prog 135 := ⟨by kernel_rfl, by kernel_rfl, by kernel_rfl, Try.underlying135, (fun h => by cases h), ⟨rfl, rfl, rfl, rfl, fun F h β => by simp [t135, Rep, Reps]⟩⟩
theorem t146_ok : t146.ok Try.prog 146 := ⟨by kernel_rfl, by kernel_rfl, by kernel_rfl, ⟨_, _, _, Try.underlying146⟩, (fun h => by cases h), ⟨rfl, rfl, rfl, rfl, fun F h β => by simp [t146, Rep, Reps]⟩⟩
theorem t153_ok : t153.ok Try.prog 153 := ⟨by kernel_rfl, by kernel_rfl, by kernel_rfl, ⟨_, _, _, Try.underlying153⟩, (fun h => by cases h), ⟨rfl, rfl, rfl, rfl, fun F h β => by simp [t153, Rep, Reps]⟩⟩
theorem t165_ok : t165.ok Try.prog 165 := ⟨by kernel_rfl, by kernel_rfl, by kernel_rfl, ⟨_, Try.underlying165, rfl⟩, (fun _ => eqInts_of (by kernel_rfl) (by kernel_rfl) (by kernel_rfl)), ⟨rfl, rfl, rfl, rfl, fun F h β => by simp [t165, Rep, Reps]⟩⟩
theorem t166_ok : t166.ok Try.prog 166 := ⟨by kernel_rfl, by kernel_rfl, by kernel_rfl, ⟨_, Try.underlying166, rfl⟩, (fun _ => eqInts_of (by kernel_rfl) (by kernel_rfl) (by kernel_rfl)), ⟨rfl, rfl, rfl, rfl, fun F h β => by simp [t166, Rep, Reps]⟩⟩
theorem t168_ok : t168.ok Try.prog 168 := ⟨by kernel_rfl, by kernel_rfl, by kernel_rfl, ⟨_, Try.underlying168, rfl⟩, (fun _ => eqInts_of (by kernel_rfl) (by kernel_rfl) (by kernel_rfl)), ⟨rfl, rfl, rfl, rfl, fun F h β => by simp [t168, Rep, Reps]⟩⟩
theorem t178_ok : t178.ok Try.prog 178 := ⟨by kernel_rfl, by kernel_rfl, by kernel_rfl, ⟨_, Try.underlying178, rfl⟩, (fun _ => eqInts_of (by kernel_rfl) (by kernel_rfl) (by kernel_rfl)), ⟨rfl, rfl, rfl, rfl, fun F h β => by simp [t178, Rep, Reps]⟩⟩
theorem t179_ok : t179.ok Try.prog 179 := ⟨by kernel_rfl, by kernel_rfl, by kernel_rfl, ⟨_, Try.underlying179, rfl⟩, (fun _ => eqInts_of (by kernel_rfl) (by kernel_rfl) (by kernel_rfl)), ⟨rfl, rfl, rfl, rfl, fun F h β => by simp [t179, Rep, Reps]⟩⟩
theorem t181_ok : t181.ok Try.prog 181 := ⟨by kernel_rfl, by kernel_rfl, by kernel_rfl, ⟨_, Try.underlying181, rfl⟩, (fun _ => eqInts_of (by kernel_rfl) (by kernel_rfl) (by kernel_rfl)), ⟨rfl, rfl, rfl, rfl, fun F h β => by simp [t181, Rep, Reps]⟩⟩
theorem t182_ok : t182.ok Try.prog 182 := ⟨by kernel_rfl, by kernel_rfl, by kernel_rfl, Try.underlying182, (fun h => by cases h), ⟨rfl, rfl, rfl, rfl, fun F h β => by simp [t182, Rep, Reps]⟩⟩
theorem t183_ok : t183.ok Try.prog 183 := ⟨by kernel_rfl, by kernel_rfl, by kernel_rfl, Try.underlying183, (fun h => by cases h), ⟨rfl, rfl, rfl, rfl, fun F h β => by simp [t183, Rep, Reps]⟩⟩
theorem t185_ok : t185.ok Try.prog 185 := ⟨by kernel_rfl, by kernel_rfl, by kernel_rfl, Try.underlying185, (fun h => by cases h), ⟨rfl, rfl, rfl, rfl, fun F h β => by simp [t185, Rep, Reps]⟩⟩
theorem t186_ok : t186.ok Try.prog 186 := ⟨by kernel_rfl, by kernel_rfl, by kernel_rfl, ⟨_, Try.underlying186, rfl⟩, (fun h => by cases h), ⟨rfl, rfl, rfl, rfl, fun F h β => by simp [t186, Rep, Reps]⟩⟩
theorem t187_ok : t187.ok Try.prog 187 := ⟨by kernel_rfl, by kernel_rfl, by kernel_rfl, ⟨_, Try.underlying187, rfl⟩, (fun h => by cases h), ⟨rfl, rfl, rfl, rfl, fun F h β => by simp [t187, Rep, Reps]⟩⟩
theorem t191_ok : t191.ok Try.prog 191 := ⟨by kernel_rfl, by kernel_rfl, by kernel_rfl, Try.underlying191, (fun h => by cases h), ⟨rfl, rfl, rfl, rfl, fun F h β => by simp [t191, Rep, Reps]⟩⟩
theorem t192_ok : t192.ok Try.prog 192 := ⟨by kernel_rfl, by kernel_rfl, by kernel_rfl, Try.underlying192, (fun h => by cases h), ⟨rfl, rfl, rfl, rfl, fun F h β => by simp [t192, Rep, Reps]⟩⟩
theorem t200_ok : t200.ok Try.prog 200 := ⟨by kernel_rfl, by kernel_rfl, by kernel_rfl, ⟨_, Try.underlying200, rfl⟩, (fun _ => eqInts_of (by kernel_rfl) (by kernel_rfl) (by kernel_rfl)), ⟨rfl, rfl, rfl, rfl, fun F h β => by simp [t200, Rep, Reps]⟩⟩
theorem t201_ok : t201.ok Try.prog 201 := ⟨by kernel_rfl, by kernel_rfl, by kernel_rfl, ⟨_, Try.underlying201, rfl⟩, (fun _ => eqInts_of (by kernel_rfl) (by kernel_rfl) (by kernel_rfl)), ⟨rfl, rfl, rfl, rfl, fun F h β => by simp [t201, Rep, Reps]⟩⟩
theorem t203_ok : t203.ok Try.prog 203 := ⟨by kernel_rfl, by kernel_rfl, by kernel_rfl, ⟨_, Try.underlying203, rfl⟩, (fun _ => eqInts_of (by kernel_rfl) (by kernel_rfl) (by kernel_rfl)), ⟨rfl, rfl, rfl, rfl, fun F h β => by simp [t203, Rep, Reps]⟩⟩
theorem t204_ok : t204.ok Try.prog 204 := ⟨by kernel_rfl, by kernel_rfl, by kernel_rfl, Try.underlying204, (fun h => by cases h), ⟨rfl, rfl, rfl, rfl, fun F h β => by simp [t204, Rep, Reps]⟩⟩
theorem t205_ok : t205.ok Try.prog 205 := ⟨by kernel_rfl, by kernel_rfl, by kernel_rfl, Try.underlying205, (fun h => by cases h), ⟨rfl, rfl, rfl, rfl, fun F h β => by simp [t205, Rep, Reps]⟩⟩
theorem t209_ok : t209.ok Try.prog 209 := ⟨by kernel_rfl, by kernel_rfl, by kernel_rfl, Try.underlying209, (fun h => by cases h), ⟨rfl, rfl, rfl, rfl, fun F h β => by simp [t209, Rep, Reps]⟩⟩
theorem t214_ok : t214.ok Try.prog 214 := ⟨by kernel_rfl, by kernel_rfl, by kernel_rfl, ⟨_, Try.underlying214, rfl⟩, (fun _ => eqInts_of (by kernel_rfl) (by kernel_rfl) (by kernel_rfl)), ⟨rfl, rfl, rfl, rfl, fun F h β => by simp [t214, Rep, Reps]⟩⟩
theorem t215_ok : t215.ok Try.prog 215 := ⟨by kernel_rfl, by kernel_rfl, by kernel_rfl, ⟨_, Try.underlying215, rfl⟩, (fun _ => eqInts_of (by kernel_rfl) (by kernel_rfl) (by kernel_rfl)), ⟨rfl, rfl, rfl, rfl, fun F h β => by simp [t215, Rep, Reps]⟩⟩
theorem t217_ok : t217.ok Try.prog 217 := ⟨by kernel_rfl, by kernel_rfl, by kernel_rfl, ⟨_, Try.underlying217, rfl⟩, (fun _ => eqInts_of (by kernel_rfl) (by kernel_rfl) (by kernel_rfl)), ⟨rfl, rfl, rfl, rfl, fun F h β => by simp [t217, Rep, Reps]⟩⟩
theorem t219_ok : t219.ok Try.prog 219 := ⟨by kernel_rfl, by kernel_rfl, by kernel_rfl, Try.underlying219, (fun h => by cases h), ⟨rfl, rfl, rfl, rfl, fun F h β => by simp [t219, Rep, Reps]⟩⟩
theorem t225_ok : t225.ok Try.prog 225 := ⟨by kernel_rfl, by kernel_rfl, by kernel_rfl, ⟨_, Try.underlying225, rfl⟩, (fun _ => eqInts_of (by kernel_rfl) (by kernel_rfl) (by kernel_rfl)), ⟨rfl, rfl, rfl, rfl, fun F h β => by simp [t225, Rep, Reps]⟩⟩
theorem t226_ok : t226.ok Try.prog 226 := ⟨by kernel_rfl, by kernel_rfl, by kernel_rfl, ⟨_, Try.underlying226, rfl⟩, (fun _ => eqInts_of (by kernel_rfl) (by kernel_rfl) (by kernel_rfl)), ⟨rfl, rfl, rfl, rfl, fun F h β => by simp [t226, Rep, Reps]⟩⟩
theorem t228_ok : t228.ok Try.prog 228 := ⟨by kernel_rfl, by kernel_rfl, by kernel_rfl, ⟨_, Try.underlying228, rfl⟩, (fun _ => eqInts_of (by kernel_rfl) (by kernel_rfl) (by kernel_rfl)), ⟨rfl, rfl, rfl, rfl, fun F h β => by simp [t228, Rep, Reps]⟩⟩
theorem t229_ok : t229.ok Try.prog 229 := ⟨by kernel_rfl, by kernel_rfl, by kernel_rfl, Try.underlying229, (fun h => by cases h), ⟨rfl, rfl, rfl, rfl, fun F h β => by simp [t229, Rep, Reps]⟩⟩
theorem t232_ok : t232.ok Try.prog 232 := ⟨by kernel_rfl, by kernel_rfl, by kernel_rfl, ⟨_, Try.underlying232, rfl⟩, (fun _ => eqInts_of (by kernel_rfl) (by kernel_rfl) (by kernel_rfl)), ⟨rfl, rfl, rfl, rfl, fun F h β => by simp [t232, Rep, Reps]⟩⟩
theorem t233_ok : t233.ok Try.prog 233 := ⟨by kernel_rfl, by kernel_rfl, by kernel_rfl, ⟨_, Try.underlying233, rfl⟩, (fun _ => eqInts_of (by kernel_rfl) (by kernel_rfl) (by kernel_rfl)), ⟨rfl, rfl, rfl, rfl, fun F h β => by simp [t233, Rep, Reps]⟩⟩
theorem t240_ok : t240.ok Try.prog 240 := ⟨by kernel_rfl, by kernel_rfl, by kernel_rfl, Try.underlying240, (fun h => by cases h), ⟨rfl, rfl, rfl, rfl, fun F h β => by simp [t240, Rep, Reps]⟩⟩
theorem t242_ok : t242.ok Try.prog 242 := ⟨by kernel_rfl, by kernel_rfl, by kernel_rfl, Try.underlying242, (fun h => by cases h), ⟨rfl, rfl, rfl, rfl, fun F h β => by simp [t242, Rep, Reps]⟩⟩
theorem t243_ok : t243.ok Try.prog 243 := ⟨by kernel_rfl, by kernel_rfl, by kernel_rfl, Try.underlying243, (fun h => by cases h), ⟨rfl, rfl, rfl, rfl, fun F h β => by simp [t243, Rep, Reps]⟩⟩
theorem t247_ok : t247.ok Try.prog 247 := ⟨by kernel_rfl, by kernel_rfl, by kernel_rfl, ⟨_, _, _, Try.underlying247⟩, (fun h => by cases h), ⟨rfl, rfl, rfl, rfl, fun F h β => by simp [t247, Rep, Reps]⟩⟩
theorem t248_ok : t248.ok Try.prog 248 := ⟨by kernel_rfl, by kernel_rfl, by kernel_rfl, ⟨_, Try.underlying248, rfl⟩, (fun h => by cases h), ⟨rfl, rfl, rfl, rfl, fun F h β => by
    show Rep F h β t248.z t248.zero
    simp only [t248, Rep, Reps]
    exact ⟨_, rfl, _, _, rfl, (.inl ⟨by trivial, none, 0, by trivial, by intros; rfl⟩), _, _, rfl, (by trivial), rfl⟩⟩⟩
theorem t249_ok : t249.ok Try.prog 249 := ⟨by kernel_rfl, by kernel_rfl, by kernel_rfl, ⟨_, Try.underlying249, rfl⟩, (fun h => by cases h), ⟨rfl, rfl, rfl, rfl, fun F h β => by
    show Rep F h β t249.z t249.zero
    simp only [t249, Rep, Reps]
    exact ⟨_, rfl, _, _, rfl, (.inl ⟨by trivial, none, 0, by trivial, by intros; rfl⟩), _, _, rfl, (by trivial), rfl⟩⟩⟩
theorem t257_ok : t257.ok Try.prog 257 := ⟨by kernel_rfl, by kernel_rfl, by kernel_rfl, Try.underlying257, (fun h => by cases h), ⟨rfl, rfl, rfl, rfl, fun F h β => by simp [t257, Rep, Reps]⟩⟩
theorem t262_ok : t262.ok Try.prog 262 := ⟨by kernel_rfl, by kernel_rfl, by kernel_rfl, ⟨_, _, _, Try.underlying262⟩, (fun h => by cases h), ⟨rfl, rfl, rfl, rfl, fun F h β => by simp [t262, Rep, Reps]⟩⟩
theorem t263_ok : t263.ok Try.prog 263 := ⟨by kernel_rfl, by kernel_rfl, by kernel_rfl, ⟨_, Try.underlying263, rfl⟩, (fun h => by cases h), ⟨rfl, rfl, rfl, rfl, fun F h β => by
    show Rep F h β t263.z t263.zero
    simp only [t263, Rep, Reps]
    exact ⟨_, rfl, _, _, rfl, (.inl ⟨by trivial, none, 0, by trivial, by intros; rfl⟩), _, _, rfl, (by trivial), rfl⟩⟩⟩
theorem t264_ok : t264.ok Try.prog 264 := ⟨by kernel_rfl, by kernel_rfl, by kernel_rfl, ⟨_, Try.underlying264, rfl⟩, (fun h => by cases h), ⟨rfl, rfl, rfl, rfl, fun F h β => by
    show Rep F h β t264.z t264.zero
    simp only [t264, Rep, Reps]
    exact ⟨_, rfl, _, _, rfl, (.inl ⟨by trivial, none, 0, by trivial, by intros; rfl⟩), _, _, rfl, (by trivial), rfl⟩⟩⟩
theorem t277_ok : t277.ok Try.prog 277 := ⟨by kernel_rfl, by kernel_rfl, by kernel_rfl, ⟨_, Try.underlying277, rfl⟩, (fun h => by cases h), ⟨rfl, rfl, rfl, rfl, fun F h β => by simp [t277, Rep, Reps]⟩⟩
theorem t278_ok : t278.ok Try.prog 278 := ⟨by kernel_rfl, by kernel_rfl, by kernel_rfl, ⟨_, Try.underlying278, rfl⟩, (fun h => by cases h), ⟨rfl, rfl, rfl, rfl, fun F h β => by simp [t278, Rep, Reps]⟩⟩
theorem t280_ok : t280.ok Try.prog 280 := ⟨by kernel_rfl, by kernel_rfl, by kernel_rfl, ⟨_, _, _, Try.underlying280⟩, (fun h => by cases h), ⟨rfl, rfl, rfl, rfl, fun F h β => by simp [t280, Rep, Reps]⟩⟩
theorem t281_ok : t281.ok Try.prog 281 := ⟨by kernel_rfl, by kernel_rfl, by kernel_rfl, ⟨_, Try.underlying281, rfl⟩, (fun h => by cases h), ⟨rfl, rfl, rfl, rfl, fun F h β => by
    show Rep F h β t281.z t281.zero
    simp only [t281, Rep, Reps]
    exact ⟨_, rfl, _, _, rfl, (.inl ⟨by trivial, none, 0, by trivial, by intros; rfl⟩), _, _, rfl, (by trivial), rfl⟩⟩⟩
theorem t282_ok : t282.ok Try.prog 282 := ⟨by kernel_rfl, by kernel_rfl, by kernel_rfl, ⟨_, Try.underlying282, rfl⟩, (fun h => by cases h), ⟨rfl, rfl, rfl, rfl, fun F h β => by
    show Rep F h β t282.z t282.zero
    simp only [t282, Rep, Reps]
    exact ⟨_, rfl, _, _, rfl, (.inl ⟨by trivial, none, 0, by trivial, by intros; rfl⟩), _, _, rfl, (by trivial), rfl⟩⟩⟩
theorem t285_ok : t285.ok Try.prog 285 := ⟨by kernel_rfl, by kernel_rfl, by kernel_rfl, Try.underlying285, (fun h => by cases h), ⟨rfl, rfl, rfl, rfl, fun F h β => by simp [t285, Rep, Reps]⟩⟩
theorem t286_ok : t286.ok Try.prog 286 := ⟨by kernel_rfl, by kernel_rfl, by kernel_rfl, ⟨_, Try.underlying286, rfl⟩, (fun h => by cases h), ⟨rfl, rfl, rfl, rfl, fun F h β => by
    show Rep F h β t286.z t286.zero
    simp only [t286, Rep, Reps]
    exact ⟨_, rfl, _, _, rfl, (.inl ⟨by trivial, none, 0, by trivial, by intros; rfl⟩), rfl⟩⟩⟩
theorem t287_ok : t287.ok Try.prog 287 := ⟨by kernel_rfl, by kernel_rfl, by kernel_rfl, ⟨_, Try.underlying287, rfl⟩, (fun h => by cases h), ⟨rfl, rfl, rfl, rfl, fun F h β => by
    show Rep F h β t287.z t287.zero
    simp only [t287, Rep, Reps]
    exact ⟨_, rfl, _, _, rfl, (.inl ⟨by trivial, none, 0, by trivial, by intros; rfl⟩), rfl⟩⟩⟩
theorem t292_ok : t292.ok Try.prog 292 := ⟨by kernel_rfl, by kernel_rfl, by kernel_rfl, Try.underlying292, (fun h => by cases h), ⟨rfl, rfl, rfl, rfl, fun F h β => by simp [t292, Rep, Reps]⟩⟩
theorem t295_ok : t295.ok Try.prog 295 := ⟨by kernel_rfl, by kernel_rfl, by kernel_rfl, Try.underlying295, (fun h => by cases h), ⟨rfl, rfl, rfl, rfl, fun F h β => by simp [t295, Rep, Reps]⟩⟩
theorem t296_ok : t296.ok Try.prog 296 := ⟨by kernel_rfl, by kernel_rfl, by kernel_rfl, Try.underlying296, (fun h => by cases h), ⟨rfl, rfl, rfl, rfl, fun F h β => by simp [t296, Rep, Reps]⟩⟩
theorem t297_ok : t297.ok Try.prog 297 := ⟨by kernel_rfl, by kernel_rfl, by kernel_rfl, Try.underlying297, (fun h => by cases h), ⟨rfl, rfl, rfl, rfl, fun F h β => by simp [t297, Rep, Reps]⟩⟩
theorem t299_ok : t299.ok Try.prog 299 := ⟨by kernel_rfl, by kernel_rfl, by kernel_rfl, ⟨_, Try.underlying299, rfl⟩, (fun _ => eqInts_of (by kernel_rfl) (by kernel_rfl) (by kernel_rfl)), ⟨rfl, rfl, rfl, rfl, fun F h β => by simp [t299, Rep, Reps]⟩⟩
theorem t300_ok : t300.ok Try.prog 300 := ⟨by kernel_rfl, by kernel_rfl, by kernel_rfl, ⟨_, Try.underlying300, rfl⟩, (fun _ => eqInts_of (by kernel_rfl) (by kernel_rfl) (by kernel_rfl)), ⟨rfl, rfl, rfl, rfl, fun F h β => by simp [t300, Rep, Reps]⟩⟩
theorem t304_ok : t304.ok Try.prog 304 := ⟨by kernel_rfl, by kernel_rfl, by kernel_rfl, Try.underlying304, (fun h => by cases h), ⟨rfl, rfl, rfl, rfl, fun F h β => by simp [t304, Rep, Reps]⟩⟩
theorem t306_ok : t306.ok Try.prog 306 := ⟨by kernel_rfl, by kernel_rfl, by kernel_rfl, Try.underlying306, (fun h => by cases h), ⟨rfl, rfl, rfl, rfl, fun F h β => by simp [t306, Rep, Reps]⟩⟩
theorem t313_ok : t313.ok Try.prog 313 := ⟨by kernel_rfl, by kernel_rfl, by kernel_rfl, Try.underlying313, (fun h => by cases h), ⟨rfl, rfl, rfl, rfl, fun F h β => by simp [t313, Rep, Reps]⟩⟩
theorem t315_ok : t315.ok Try.prog 315 := ⟨by kernel_rfl, by kernel_rfl, by kernel_rfl, Try.underlying315, (fun h => by cases h), ⟨rfl, rfl, rfl, rfl, fun F h β => by simp [t315, Rep, Reps]⟩⟩
theorem t325_ok : t325.ok Try.prog 325 := ⟨by kernel_rfl, by kernel_rfl, by kernel_rfl, ⟨_, Try.underlying325⟩, (fun h => by cases h), ⟨rfl, rfl, rfl, rfl, fun F h β => by simp [t325, Rep, Reps]⟩⟩
theorem t326_ok : t326.ok Try.prog 326 := ⟨by kernel_rfl, by kernel_rfl, by kernel_rfl, ⟨_, Try.underlying326⟩, (fun h => by cases h), ⟨rfl, rfl, rfl, rfl, fun F h β => by simp [t326, Rep, Reps]⟩⟩
theorem t331_ok : t331.ok Try.prog 331 := ⟨by kernel_rfl, by kernel_rfl, by kernel_rfl, Try.underlying331, (fun h => by cases h), ⟨rfl, rfl, rfl, rfl, fun F h β => by simp [t331, Rep, Reps]⟩⟩
theorem t335_ok : t335.ok Try.prog 335 := ⟨by kernel_rfl, by kernel_rfl, by kernel_rfl, Try.underlying335, (fun h => by cases h), ⟨rfl, rfl, rfl, rfl, fun F h β => by simp [t335, Rep, Reps]⟩⟩
theorem t338_ok : t338.ok Try.prog 338 := ⟨by kernel_rfl, by kernel_rfl, by kernel_rfl, Try.underlying338, (fun h => by cases h), ⟨rfl, rfl, rfl, rfl, fun F h β => by simp [t338, Rep, Reps]⟩⟩
theorem t340_ok : t340.ok Try.prog 340 := ⟨by kernel_rfl, by kernel_rfl, by kernel_rfl, Try.underlying340, (fun h => by cases h), ⟨rfl, rfl, rfl, rfl, fun F h β => by simp [t340, Rep, Reps]⟩⟩
theorem t353_ok : t353.ok Try.prog 353 := ⟨by kernel_rfl, by kernel_rfl, by kernel_rfl, ⟨_, _, _, Try.underlying353⟩, (fun h => by cases h), ⟨rfl, rfl, rfl, rfl, fun F h β => by simp [t353, Rep, Reps]⟩⟩
theorem t354_ok : t354.ok Try.prog 354 := ⟨by kernel_rfl, by kernel_rfl, by kernel_rfl, Try.underlying354, (fun h => by cases h), ⟨rfl, rfl, rfl, rfl, fun F h β => by simp [t354, Rep, Reps]⟩⟩
theorem t357_ok : t357.ok Try.prog 357 := ⟨by kernel_rfl, by kernel_rfl, by kernel_rfl, ⟨_, Try.underlying357, rfl⟩, (fun h => by cases h), ⟨rfl, rfl, rfl, rfl, fun F h β => by simp [t357, Rep, Reps]⟩⟩
theorem t362_ok : t362.ok Try.prog 362 := ⟨by kernel_rfl, by kernel_rfl, by kernel_rfl, ⟨_, Try.underlying362, rfl⟩, (fun _ => eqInts_of (by kernel_rfl) (by kernel_rfl) (by kernel_rfl)), ⟨rfl, rfl, rfl, rfl, fun F h β => by simp [t362, Rep, Reps]⟩⟩
def G : Ctx := [(2, t2), (3, t3), (4, t4), (5, t5), (9, t9), (12, t12), (20, t20), (21, t21), (22, t22), (28, t28), (29, t29), (30, t30), (31, t31), (32, t32), (33, t33), (34, t34), (36, t36), (37, t37), (38, t38), (39, t39), (42, t42), (43, t43), (44, t44), (46, t46), (56, t56), (57, t57), (60, t60), (64, t64), (75, t75), (78, t78), (83, t83), (86, t86), (91, t91), (92, t92), (93, t93), (101, t101), (107, t107), (110, t110), (121, t121), (124, t124), (132, t132), (135, t135), (146, t146), (153, t153), (165, t165), (166, t166), (168, t168), (178, t178), (179, t179), (181, t181), (182, t182), (183, t183), (185, t185), (186, t186), (187, t187), (191, t191), (192, t192), (200, t200), (201, t201), (203, t203), (204, t204), (205, t205), (209, t209), (214, t214), (215, t215), (217, t217), (219, t219), (225, t225), (226, t226), (228, t228), (229, t229), (232, t232), (233, t233), (240, t240), (242, t242), (243, t243), (247, t247), (248, t248), (249, t249), (257, t257), (262, t262), (263, t263), (264, t264), (277, t277), (278, t278), (280, t280), (281, t281), (282, t282), (285, t285), (286, t286), (287, t287), (292, t292), (295, t295), (296, t296), (297, t297), (299, t299), (300, t300), (304, t304), (306, t306), (313, t313), (315, t315), (325, t325), (326, t326), (331, t331), (335, t335), (338, t338), (340, t340), (353, t353), (354, t354), (357, t357), (362, t362)]
@[simp] theorem G_2 : G.get 2 = some t2 := rfl
@[simp] theorem G_3 : G.get 3 = some t3 := rfl
@[simp] theorem G_4 : G.get 4 = some t4 := rfl
@[simp] theorem G_5 : G.get 5 = some t5 := rfl
@[simp] theorem G_9 : G.get 9 = some t9 := rfl
@[simp] theorem G_12 : G.get 12 = some t12 := rfl
@[simp] theorem G_20 : G.get 20 = some t20 := rfl
@[simp] theorem G_21 : G.get 21 = some t21 := rfl
@[simp] theorem G_22 : G.get 22 = some t22 := rfl
@[simp] theorem G_28 : G.get 28 = some t28 := rfl
@[simp] theorem G_29 : G.get 29 = some t29 := rfl
@[simp] theorem G_30 : G.get 30 = some t30 := rfl
@[simp] theorem G_31 : G.get 31 = some t31 := rfl
@[simp] theorem G_32 : G.get 32 = some t32 := rfl
@[simp] theorem G_33 : G.get 33 = some t33 := rfl
@[simp] theorem G_34 : G.get 34 = some t34 := rfl
@[simp] theorem G_36 : G.get 36 = some t36 := rfl
@[simp] theorem G_37 : G.get 37 = some t37 := rfl
@[simp] theorem G_38 : G.get 38 = some t38 := rfl
@[simp] theorem G_39 : G.get 39 = some t39 := rfl
@[simp] theorem G_42 : G.get 42 = some t42 := rfl
@[simp] theorem G_43 : G.get 43 = some t43 := rfl
@[simp] theorem G_44 : G.get 44 = some t44 := rfl
@[simp] theorem G_46 : G.get 46 = some t46 := rfl
@[simp] theorem G_56 : G.get 56 = some t56 := rfl
@[simp] theorem G_57 : G.get 57 = some t57 := rfl
@[simp] theorem G_60 : G.get 60 = some t60 := rfl
@[simp] theorem G_64 : G.get 64 = some t64 := rfl
@[simp] theorem G_75 : G.get 75 = some t75 := rfl
@[simp] theorem G_78 : G.get 78 = some t78 := rfl
@[simp] theorem G_83 : G.get 83 = some t83 := rfl
@[simp] theorem G_86 : G.get 86 = some t86 := rfl
@[simp] theorem G_91 : G.get 91 = some t91 := rfl
@[simp] theorem G_92 : G.get 92 = some t92 := rfl
@[simp] theorem G_93 : G.get 93 = some t93 := rfl
@[simp] theorem G_101 : G.get 101 = some t101 := rfl
@[simp] theorem G_107 : G.get 107 = some t107 := rfl
@[simp] theorem G_110 : G.get 110 = some t110 := rfl
@[simp] theorem G_121 : G.get 121 = some t121 := rfl
@[simp] theorem G_124 : G.get 124 = some t124 := rfl
@[simp] theorem G_132 : G.get 132 = some t132 := rfl
@[simp] theorem G_135 : G.get 135 = some t135 := rfl
@[simp] theorem G_146 : G.get 146 = some t146 := rfl
@[simp] theorem G_153 : G.get 153 = some t153 := rfl
@[simp] theorem G_165 : G.get 165 = some t165 := rfl
@[simp] theorem G_166 : G.get 166 = some t166 := rfl
@[simp] theorem G_168 : G.get 168 = some t168 := rfl
@[simp] theorem G_178 : G.get 178 = some t178 := rfl
@[simp] theorem G_179 : G.get 179 = some t179 := rfl
@[simp] theorem G_181 : G.get 181 = some t181 := rfl
@[simp] theorem G_182 : G.get 182 = some t182 := rfl
@[simp] theorem G_183 : G.get 183 = some t183 := rfl
@[simp] theorem G_185 : G.get 185 = some t185 := rfl
@[simp] theorem G_186 : G.get 186 = some t186 := rfl
@[simp] theorem G_187 : G.get 187 = some t187 := rfl
@[simp] theorem G_191 : G.get 191 = some t191 := rfl
@[simp] theorem G_192 : G.get 192 = some t192 := rfl
@[simp] theorem G_200 : G.get 200 = some t200 := rfl
@[simp] theorem G_201 : G.get 201 = some t201 := rfl
@[simp] theorem G_203 : G.get 203 = some t203 := rfl
@[simp] theorem G_204 : G.get 204 = some t204 := rfl
@[simp] theorem G_205 : G.get 205 = some t205 := rfl
@[simp] theorem G_209 : G.get 209 = some t209 := rfl
@[simp] theorem G_214 : G.get 214 = some t214 := rfl
@[simp] theorem G_215 : G.get 215 = some t215 := rfl
@[simp] theorem G_217 : G.get 217 = some t217 := rfl
@[simp] theorem G_219 : G.get 219 = some t219 := rfl
@[simp] theorem G_225 : G.get 225 = some t225 := rfl
@[simp] theorem G_226 : G.get 226 = some t226 := rfl
@[simp] theorem G_228 : G.get 228 = some t228 := rfl
@[simp] theorem G_229 : G.get 229 = some t229 := rfl
@[simp] theorem G_232 : G.get 232 = some t232 := rfl
@[simp] theorem G_233 : G.get 233 = some t233 := rfl
@[simp] theorem G_240 : G.get 240 = some t240 := rfl
@[simp] theorem G_242 : G.get 242 = some t242 := rfl
@[simp] theorem G_243 : G.get 243 = some t243 := rfl
@[simp] theorem G_247 : G.get 247 = some t247 := rfl
@[simp] theorem G_248 : G.get 248 = some t248 := rfl
@[simp] theorem G_249 : G.get 249 = some t249 := rfl
@[simp] theorem G_257 : G.get 257 = some t257 := rfl
@[simp] theorem G_262 : G.get 262 = some t262 := rfl
@[simp] theorem G_263 : G.get 263 = some t263 := rfl
@[simp] theorem G_264 : G.get 264 = some t264 := rfl
@[simp] theorem G_277 : G.get 277 = some t277 := rfl
@[simp] theorem G_278 : G.get 278 = some t278 := rfl
@[simp] theorem G_280 : G.get 280 = some t280 := rfl
@[simp] theorem G_281 : G.get 281 = some t281 := rfl
@[simp] theorem G_282 : G.get 282 = some t282 := rfl
@[simp] theorem G_285 : G.get 285 = some t285 := rfl
@[simp] theorem G_286 : G.get 286 = some t286 := rfl
@[simp] theorem G_287 : G.get 287 = some t287 := rfl
@[simp] theorem G_292 : G.get 292 = some t292 := rfl
@[simp] theorem G_295 : G.get 295 = some t295 := rfl
@[simp] theorem G_296 : G.get 296 = some t296 := rfl
@[simp] theorem G_297 : G.get 297 = some t297 := rfl
@[simp] theorem G_299 : G.get 299 = some t299 := rfl
@[simp] theorem G_300 : G.get 300 = some t300 := rfl
@[simp] theorem G_304 : G.get 304 = some t304 := rfl
@[simp] theorem G_306 : G.get 306 = some t306 := rfl
@[simp] theorem G_313 : G.get 313 = some t313 := rfl
@[simp] theorem G_315 : G.get 315 = some t315 := rfl
@[simp] theorem G_325 : G.get 325 = some t325 := rfl
@[simp] theorem G_326 : G.get 326 = some t326 := rfl
@[simp] theorem G_331 : G.get 331 = some t331 := rfl
@[simp] theorem G_335 : G.get 335 = some t335 := rfl
@[simp] theorem G_338 : G.get 338 = some t338 := rfl
@[simp] theorem G_340 : G.get 340 = some t340 := rfl
@[simp] theorem G_353 : G.get 353 = some t353 := rfl
@[simp] theorem G_354 : G.get 354 = some t354 := rfl
@[simp] theorem G_357 : G.get 357 = some t357 := rfl
@[simp] theorem G_362 : G.get 362 = some t362 := rfl
theorem G_ok : G.ok Try.prog := by
  intro p hp
  simp only [G, List.mem_cons, List.not_mem_nil, or_false] at hp
  rcases hp with rfl | rfl | rfl | rfl | rfl | rfl | rfl | rfl | rfl | rfl | rfl | rfl | rfl | rfl | rfl | rfl | rfl | rfl | rfl | rfl | rfl | rfl | rfl | rfl | rfl | rfl | rfl | rfl | rfl | rfl | rfl | rfl | rfl | rfl | rfl | rfl | rfl | rfl | rfl | rfl | rfl | rfl | rfl | rfl | rfl | rfl | rfl | rfl | rfl | rfl | rfl | rfl | rfl | rfl | rfl | rfl | rfl | rfl | rfl | rfl | rfl | rfl | rfl | rfl | rfl | rfl | rfl | rfl | rfl | rfl | rfl | rfl | rfl | rfl | rfl | rfl | rfl | rfl | rfl | rfl | rfl | rfl | rfl | rfl | rfl | rfl | rfl | rfl | rfl | rfl | rfl | rfl | rfl | rfl | rfl | rfl | rfl | rfl | rfl | rfl | rfl | rfl | rfl | rfl | rfl | rfl | rfl | rfl | rfl | rfl | rfl
  · exact t2_ok
  · exact t3_ok
  · exact t4_ok
  · exact t5_ok
  · exact t9_ok
  · exact t12_ok
  · exact t20_ok
  · exact t21_ok
  · exact t22_ok
  · exact t28_ok
  · exact t29_ok
  · exact t30_ok
  · exact t31_ok
  · exact t32_ok
  · exact t33_ok
  · exact t34_ok
  · exact t36_ok
  · exact t37_ok
  · exact t38_ok
  · exact t39_ok
  · exact t42_ok
  · exact t43_ok
  · exact t44_ok
  · exact t46_ok
  · exact t56_ok
  · exact t57_ok
  · exact t60_ok
  · exact t64_ok
  · exact t75_ok
  · exact t78_ok
  · exact t83_ok
  · exact t86_ok
  · exact t91_ok
  · exact t92_ok
  · exact t93_ok
  · exact t101_ok
  · exact t107_ok
  · exact t110_ok
  · exact t121_ok
  · exact t124_ok
  · exact t132_ok
  · exact t135_ok
  · exact t146_ok
  · exact t153_ok
  · exact t165_ok
  · exact t166_ok
  · exact t168_ok
  · exact t178_ok
  · exact t179_ok
  · exact t181_ok
  · exact t182_ok
  · exact t183_ok
  · exact t185_ok
  · exact t186_ok
  · exact t187_ok
  · exact t191_ok
  · exact t192_ok
  · exact t200_ok
  · exact t201_ok
  · exact t203_ok
  · exact t204_ok
  · exact t205_ok
  · exact t209_ok
  · exact t214_ok
  · exact t215_ok
  · exact t217_ok
  · exact t219_ok
  · exact t225_ok
  · exact t226_ok
  · exact t228_ok
  · exact t229_ok
  · exact t232_ok
  · exact t233_ok
  · exact t240_ok
  · exact t242_ok
  · exact t243_ok
  · exact t247_ok
  · exact t248_ok
  · exact t249_ok
  · exact t257_ok
  · exact t262_ok
  · exact t263_ok
  · exact t264_ok
  · exact t277_ok
  · exact t278_ok
  · exact t280_ok
  · exact t281_ok
  · exact t282_ok
  · exact t285_ok
  · exact t286_ok
  · exact t287_ok
  · exact t292_ok
  · exact t295_ok
  · exact t296_ok
  · exact t297_ok
  · exact t299_ok
  · exact t300_ok
  · exact t304_ok
  · exact t306_ok
  · exact t313_ok
  · exact t315_ok
  · exact t325_ok
  · exact t326_ok
  · exact t331_ok
  · exact t335_ok
  · exact t338_ok
  · exact t340_ok
  · exact t353_ok
  · exact t354_ok
  · exact t357_ok
  · exact t362_ok
theorem mix : Try.prog.follows .mixedOrders = true := by kernel_rfl
end Go.Proofs.Ytmbgihklhmhilaa
