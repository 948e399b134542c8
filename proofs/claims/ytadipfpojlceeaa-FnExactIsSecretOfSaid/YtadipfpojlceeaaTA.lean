/- What is known of the types of this program: their sizes, zero values and parts. -/
import Derived.Test.YtadipfpojlceeaaProg
import Derived.Test.YtadipfpojlceeaaTY
import Derived.KernelRfl
namespace Go.Proofs.Ytadipfpojlceeaa
open Go Go.Eng
set_option linter.unusedSimpArgs false
set_option linter.unusedVariables false
/-- int64 -/
def t2 : TI := ⟨1, 8, .int .i64 0, .lit (.int .i64 0), .lit (.int .i64 0), .int .i64, false⟩
@[simp] theorem t2_size : t2.size = 1 := rfl
@[simp] theorem t2_bytes : t2.bytes = 8 := rfl
@[simp] theorem t2_z : t2.z = .lit (.int .i64 0) := rfl
@[simp] theorem t2_y : t2.y = .lit (.int .i64 0) := rfl
@[simp] theorem t2_kind : t2.kind = .int .i64 := rfl
@[simp] theorem t2_cmp : t2.cmp = false := rfl
/-- int -/
def t3 : TI := ⟨1, 8, .int .i64 0, .lit (.int .i64 0), .lit (.int .i64 0), .int .i64, false⟩
@[simp] theorem t3_size : t3.size = 1 := rfl
@[simp] theorem t3_bytes : t3.bytes = 8 := rfl
@[simp] theorem t3_z : t3.z = .lit (.int .i64 0) := rfl
@[simp] theorem t3_y : t3.y = .lit (.int .i64 0) := rfl
@[simp] theorem t3_kind : t3.kind = .int .i64 := rfl
@[simp] theorem t3_cmp : t3.cmp = false := rfl
/-- bool -/
def t4 : TI := ⟨1, 1, .bool false, .lit (.bool false), .lit (.bool false), .bool, false⟩
@[simp] theorem t4_size : t4.size = 1 := rfl
@[simp] theorem t4_bytes : t4.bytes = 1 := rfl
@[simp] theorem t4_z : t4.z = .lit (.bool false) := rfl
@[simp] theorem t4_y : t4.y = .lit (.bool false) := rfl
@[simp] theorem t4_kind : t4.kind = .bool := rfl
@[simp] theorem t4_cmp : t4.cmp = false := rfl
/-- uint8 -/
def t5 : TI := ⟨1, 1, .int .u8 0, .lit (.int .u8 0), .lit (.int .u8 0), .int .u8, false⟩
@[simp] theorem t5_size : t5.size = 1 := rfl
@[simp] theorem t5_bytes : t5.bytes = 1 := rfl
@[simp] theorem t5_z : t5.z = .lit (.int .u8 0) := rfl
@[simp] theorem t5_y : t5.y = .lit (.int .u8 0) := rfl
@[simp] theorem t5_kind : t5.kind = .int .u8 := rfl
@[simp] theorem t5_cmp : t5.cmp = false := rfl
/-- string -/
def t9 : TI := ⟨1, 16, .string ⟨#[]⟩, .lit (.string ⟨#[]⟩), .lit (.string ⟨#[]⟩), .str, false⟩
@[simp] theorem t9_size : t9.size = 1 := rfl
@[simp] theorem t9_bytes : t9.bytes = 16 := rfl
@[simp] theorem t9_z : t9.z = .lit (.string ⟨#[]⟩) := rfl
@[simp] theorem t9_y : t9.y = .lit (.string ⟨#[]⟩) := rfl
@[simp] theorem t9_kind : t9.kind = .str := rfl
@[simp] theorem t9_cmp : t9.cmp = false := rfl
/-- uintptr -/
def t12 : TI := ⟨1, 8, .int .u64 0, .lit (.int .u64 0), .lit (.int .u64 0), .int .u64, false⟩
@[simp] theorem t12_size : t12.size = 1 := rfl
@[simp] theorem t12_bytes : t12.bytes = 8 := rfl
@[simp] theorem t12_z : t12.z = .lit (.int .u64 0) := rfl
@[simp] theorem t12_y : t12.y = .lit (.int .u64 0) := rfl
@[simp] theorem t12_kind : t12.kind = .int .u64 := rfl
@[simp] theorem t12_cmp : t12.cmp = false := rfl
/-- interface {} -/
def t20 : TI := ⟨1, 16, .nilIface, .lit .nilIface, .lit .nilIface, .iface, false⟩
@[simp] theorem t20_size : t20.size = 1 := rfl
@[simp] theorem t20_bytes : t20.bytes = 16 := rfl
@[simp] theorem t20_z : t20.z = .lit .nilIface := rfl
@[simp] theorem t20_y : t20.y = .lit .nilIface := rfl
@[simp] theorem t20_kind : t20.kind = .iface := rfl
@[simp] theorem t20_cmp : t20.cmp = false := rfl
/-- int32 -/
def t21 : TI := ⟨1, 4, .int .i32 0, .lit (.int .i32 0), .lit (.int .i32 0), .int .i32, false⟩
@[simp] theorem t21_size : t21.size = 1 := rfl
@[simp] theorem t21_bytes : t21.bytes = 4 := rfl
@[simp] theorem t21_z : t21.z = .lit (.int .i32 0) := rfl
@[simp] theorem t21_y : t21.y = .lit (.int .i32 0) := rfl
@[simp] theorem t21_kind : t21.kind = .int .i32 := rfl
@[simp] theorem t21_cmp : t21.cmp = false := rfl
/-- struct { Id int; Kind int; Colour int; Size int; Worth int } -/
def t22 : TI := ⟨5, 40, .agg #[.int .i64 0, .int .i64 0, .int .i64 0, .int .i64 0, .int .i64 0], .agg [.lit (.int .i64 0), .lit (.int .i64 0), .lit (.int .i64 0), .lit (.int .i64 0), .lit (.int .i64 0)], yTThing, .st [(0, 3), (1, 3), (2, 3), (3, 3), (4, 3)], true⟩
@[simp] theorem t22_size : t22.size = 5 := rfl
@[simp] theorem t22_bytes : t22.bytes = 40 := rfl
@[simp] theorem t22_z : t22.z = .agg [.lit (.int .i64 0), .lit (.int .i64 0), .lit (.int .i64 0), .lit (.int .i64 0), .lit (.int .i64 0)] := rfl
@[simp] theorem t22_y : t22.y = yTThing := rfl
@[simp] theorem t22_kind : t22.kind = .st [(0, 3), (1, 3), (2, 3), (3, 3), (4, 3)] := rfl
@[simp] theorem t22_cmp : t22.cmp = true := rfl
/-- laws.Thing = loop.example/g03007/laws.Thing -/
def t23 : TI := ⟨5, 40, .agg #[.int .i64 0, .int .i64 0, .int .i64 0, .int .i64 0, .int .i64 0], .agg [.lit (.int .i64 0), .lit (.int .i64 0), .lit (.int .i64 0), .lit (.int .i64 0), .lit (.int .i64 0)], yTThing, .st [(0, 3), (1, 3), (2, 3), (3, 3), (4, 3)], true⟩
@[simp] theorem t23_size : t23.size = 5 := rfl
@[simp] theorem t23_bytes : t23.bytes = 40 := rfl
@[simp] theorem t23_z : t23.z = .agg [.lit (.int .i64 0), .lit (.int .i64 0), .lit (.int .i64 0), .lit (.int .i64 0), .lit (.int .i64 0)] := rfl
@[simp] theorem t23_y : t23.y = yTThing := rfl
@[simp] theorem t23_kind : t23.kind = .st [(0, 3), (1, 3), (2, 3), (3, 3), (4, 3)] := rfl
@[simp] theorem t23_cmp : t23.cmp = true := rfl
/-- impl.Thing = loop.example/g03007/impl.Thing -/
def t25 : TI := ⟨5, 40, .agg #[.int .i64 0, .int .i64 0, .int .i64 0, .int .i64 0, .int .i64 0], .agg [.lit (.int .i64 0), .lit (.int .i64 0), .lit (.int .i64 0), .lit (.int .i64 0), .lit (.int .i64 0)], yTThing, .st [(0, 3), (1, 3), (2, 3), (3, 3), (4, 3)], true⟩
@[simp] theorem t25_size : t25.size = 5 := rfl
@[simp] theorem t25_bytes : t25.bytes = 40 := rfl
@[simp] theorem t25_z : t25.z = .agg [.lit (.int .i64 0), .lit (.int .i64 0), .lit (.int .i64 0), .lit (.int .i64 0), .lit (.int .i64 0)] := rfl
@[simp] theorem t25_y : t25.y = yTThing := rfl
@[simp] theorem t25_kind : t25.kind = .st [(0, 3), (1, 3), (2, 3), (3, 3), (4, 3)] := rfl
@[simp] theorem t25_cmp : t25.cmp = true := rfl
/-- []int -/
def t28 : TI := ⟨1, 24, .slice none 0 0, .sl true 0 .any [], yLI, .slice 3, false⟩
@[simp] theorem t28_size : t28.size = 1 := rfl
@[simp] theorem t28_bytes : t28.bytes = 24 := rfl
@[simp] theorem t28_z : t28.z = .sl true 0 .any [] := rfl
@[simp] theorem t28_y : t28.y = yLI := rfl
@[simp] theorem t28_kind : t28.kind = .slice 3 := rfl
@[simp] theorem t28_cmp : t28.cmp = false := rfl
/-- struct { From int; To int; Things []int; At int } -/
def t32 : TI := ⟨4, 48, .agg #[.int .i64 0, .int .i64 0, .slice none 0 0, .int .i64 0], .agg [.lit (.int .i64 0), .lit (.int .i64 0), .sl true 0 .any [], .lit (.int .i64 0)], yTParcel, .st [(0, 3), (1, 3), (2, 28), (3, 3)], false⟩
@[simp] theorem t32_size : t32.size = 4 := rfl
@[simp] theorem t32_bytes : t32.bytes = 48 := rfl
@[simp] theorem t32_z : t32.z = .agg [.lit (.int .i64 0), .lit (.int .i64 0), .sl true 0 .any [], .lit (.int .i64 0)] := rfl
@[simp] theorem t32_y : t32.y = yTParcel := rfl
@[simp] theorem t32_kind : t32.kind = .st [(0, 3), (1, 3), (2, 28), (3, 3)] := rfl
@[simp] theorem t32_cmp : t32.cmp = false := rfl
/-- laws.Parcel = loop.example/g03007/laws.Parcel -/
def t33 : TI := ⟨4, 48, .agg #[.int .i64 0, .int .i64 0, .slice none 0 0, .int .i64 0], .agg [.lit (.int .i64 0), .lit (.int .i64 0), .sl true 0 .any [], .lit (.int .i64 0)], yTParcel, .st [(0, 3), (1, 3), (2, 28), (3, 3)], false⟩
@[simp] theorem t33_size : t33.size = 4 := rfl
@[simp] theorem t33_bytes : t33.bytes = 48 := rfl
@[simp] theorem t33_z : t33.z = .agg [.lit (.int .i64 0), .lit (.int .i64 0), .sl true 0 .any [], .lit (.int .i64 0)] := rfl
@[simp] theorem t33_y : t33.y = yTParcel := rfl
@[simp] theorem t33_kind : t33.kind = .st [(0, 3), (1, 3), (2, 28), (3, 3)] := rfl
@[simp] theorem t33_cmp : t33.cmp = false := rfl
/-- impl.Parcel = loop.example/g03007/impl.Parcel -/
def t36 : TI := ⟨4, 48, .agg #[.int .i64 0, .int .i64 0, .slice none 0 0, .int .i64 0], .agg [.lit (.int .i64 0), .lit (.int .i64 0), .sl true 0 .any [], .lit (.int .i64 0)], yTParcel, .st [(0, 3), (1, 3), (2, 28), (3, 3)], false⟩
@[simp] theorem t36_size : t36.size = 4 := rfl
@[simp] theorem t36_bytes : t36.bytes = 48 := rfl
@[simp] theorem t36_z : t36.z = .agg [.lit (.int .i64 0), .lit (.int .i64 0), .sl true 0 .any [], .lit (.int .i64 0)] := rfl
@[simp] theorem t36_y : t36.y = yTParcel := rfl
@[simp] theorem t36_kind : t36.kind = .st [(0, 3), (1, 3), (2, 28), (3, 3)] := rfl
@[simp] theorem t36_cmp : t36.cmp = false := rfl
/-- struct { Thing laws.Thing; Place int; At int; Finder int } -/
def t40 : TI := ⟨8, 64, .agg #[.int .i64 0, .int .i64 0, .int .i64 0, .int .i64 0, .int .i64 0, .int .i64 0, .int .i64 0, .int .i64 0], .agg [.lit (.int .i64 0), .lit (.int .i64 0), .lit (.int .i64 0), .lit (.int .i64 0), .lit (.int .i64 0), .lit (.int .i64 0), .lit (.int .i64 0), .lit (.int .i64 0)], yTFind, .st [(0, 23), (5, 3), (6, 3), (7, 3)], true⟩
@[simp] theorem t40_size : t40.size = 8 := rfl
@[simp] theorem t40_bytes : t40.bytes = 64 := rfl
@[simp] theorem t40_z : t40.z = .agg [.lit (.int .i64 0), .lit (.int .i64 0), .lit (.int .i64 0), .lit (.int .i64 0), .lit (.int .i64 0), .lit (.int .i64 0), .lit (.int .i64 0), .lit (.int .i64 0)] := rfl
@[simp] theorem t40_y : t40.y = yTFind := rfl
@[simp] theorem t40_kind : t40.kind = .st [(0, 23), (5, 3), (6, 3), (7, 3)] := rfl
@[simp] theorem t40_cmp : t40.cmp = true := rfl
/-- laws.Find = loop.example/g03007/laws.Find -/
def t41 : TI := ⟨8, 64, .agg #[.int .i64 0, .int .i64 0, .int .i64 0, .int .i64 0, .int .i64 0, .int .i64 0, .int .i64 0, .int .i64 0], .agg [.lit (.int .i64 0), .lit (.int .i64 0), .lit (.int .i64 0), .lit (.int .i64 0), .lit (.int .i64 0), .lit (.int .i64 0), .lit (.int .i64 0), .lit (.int .i64 0)], yTFind, .st [(0, 23), (5, 3), (6, 3), (7, 3)], true⟩
@[simp] theorem t41_size : t41.size = 8 := rfl
@[simp] theorem t41_bytes : t41.bytes = 64 := rfl
@[simp] theorem t41_z : t41.z = .agg [.lit (.int .i64 0), .lit (.int .i64 0), .lit (.int .i64 0), .lit (.int .i64 0), .lit (.int .i64 0), .lit (.int .i64 0), .lit (.int .i64 0), .lit (.int .i64 0)] := rfl
@[simp] theorem t41_y : t41.y = yTFind := rfl
@[simp] theorem t41_kind : t41.kind = .st [(0, 23), (5, 3), (6, 3), (7, 3)] := rfl
@[simp] theorem t41_cmp : t41.cmp = true := rfl
/-- func(impl.Find, impl.Find) bool -/
def t42 : TI := ⟨1, 8, .nilFunc, .lit .nilFunc, .lit .nilFunc, .func, false⟩
@[simp] theorem t42_size : t42.size = 1 := rfl
@[simp] theorem t42_bytes : t42.bytes = 8 := rfl
@[simp] theorem t42_z : t42.z = .lit .nilFunc := rfl
@[simp] theorem t42_y : t42.y = .lit .nilFunc := rfl
@[simp] theorem t42_kind : t42.kind = .func := rfl
@[simp] theorem t42_cmp : t42.cmp = false := rfl
/-- struct { Thing impl.Thing; Place int; At int; Finder int } -/
def t43 : TI := ⟨8, 64, .agg #[.int .i64 0, .int .i64 0, .int .i64 0, .int .i64 0, .int .i64 0, .int .i64 0, .int .i64 0, .int .i64 0], .agg [.lit (.int .i64 0), .lit (.int .i64 0), .lit (.int .i64 0), .lit (.int .i64 0), .lit (.int .i64 0), .lit (.int .i64 0), .lit (.int .i64 0), .lit (.int .i64 0)], yTFind, .st [(0, 25), (5, 3), (6, 3), (7, 3)], true⟩
@[simp] theorem t43_size : t43.size = 8 := rfl
@[simp] theorem t43_bytes : t43.bytes = 64 := rfl
@[simp] theorem t43_z : t43.z = .agg [.lit (.int .i64 0), .lit (.int .i64 0), .lit (.int .i64 0), .lit (.int .i64 0), .lit (.int .i64 0), .lit (.int .i64 0), .lit (.int .i64 0), .lit (.int .i64 0)] := rfl
@[simp] theorem t43_y : t43.y = yTFind := rfl
@[simp] theorem t43_kind : t43.kind = .st [(0, 25), (5, 3), (6, 3), (7, 3)] := rfl
@[simp] theorem t43_cmp : t43.cmp = true := rfl
/-- impl.Find = loop.example/g03007/impl.Find -/
def t44 : TI := ⟨8, 64, .agg #[.int .i64 0, .int .i64 0, .int .i64 0, .int .i64 0, .int .i64 0, .int .i64 0, .int .i64 0, .int .i64 0], .agg [.lit (.int .i64 0), .lit (.int .i64 0), .lit (.int .i64 0), .lit (.int .i64 0), .lit (.int .i64 0), .lit (.int .i64 0), .lit (.int .i64 0), .lit (.int .i64 0)], yTFind, .st [(0, 25), (5, 3), (6, 3), (7, 3)], true⟩
@[simp] theorem t44_size : t44.size = 8 := rfl
@[simp] theorem t44_bytes : t44.bytes = 64 := rfl
@[simp] theorem t44_z : t44.z = .agg [.lit (.int .i64 0), .lit (.int .i64 0), .lit (.int .i64 0), .lit (.int .i64 0), .lit (.int .i64 0), .lit (.int .i64 0), .lit (.int .i64 0), .lit (.int .i64 0)] := rfl
@[simp] theorem t44_y : t44.y = yTFind := rfl
@[simp] theorem t44_kind : t44.kind = .st [(0, 25), (5, 3), (6, 3), (7, 3)] := rfl
@[simp] theorem t44_cmp : t44.cmp = true := rfl
/-- []laws.Inner -/
def t47 : TI := ⟨1, 24, .slice none 0 0, .sl true 0 .any [], yLTInner, .slice 139, false⟩
@[simp] theorem t47_size : t47.size = 1 := rfl
@[simp] theorem t47_bytes : t47.bytes = 24 := rfl
@[simp] theorem t47_z : t47.z = .sl true 0 .any [] := rfl
@[simp] theorem t47_y : t47.y = yLTInner := rfl
@[simp] theorem t47_kind : t47.kind = .slice 139 := rfl
@[simp] theorem t47_cmp : t47.cmp = false := rfl
/-- []impl.Inner -/
def t50 : TI := ⟨1, 24, .slice none 0 0, .sl true 0 .any [], yLTInner, .slice 137, false⟩
@[simp] theorem t50_size : t50.size = 1 := rfl
@[simp] theorem t50_bytes : t50.bytes = 24 := rfl
@[simp] theorem t50_z : t50.z = .sl true 0 .any [] := rfl
@[simp] theorem t50_y : t50.y = yLTInner := rfl
@[simp] theorem t50_kind : t50.kind = .slice 137 := rfl
@[simp] theorem t50_cmp : t50.cmp = false := rfl
/-- []bool -/
def t54 : TI := ⟨1, 24, .slice none 0 0, .sl true 0 .any [], yLB, .slice 4, false⟩
@[simp] theorem t54_size : t54.size = 1 := rfl
@[simp] theorem t54_bytes : t54.bytes = 24 := rfl
@[simp] theorem t54_z : t54.z = .sl true 0 .any [] := rfl
@[simp] theorem t54_y : t54.y = yLB := rfl
@[simp] theorem t54_kind : t54.kind = .slice 4 := rfl
@[simp] theorem t54_cmp : t54.cmp = false := rfl
/-- []laws.Ticket -/
def t64 : TI := ⟨1, 24, .slice none 0 0, .sl true 0 .any [], yLTTicket, .slice 149, false⟩
@[simp] theorem t64_size : t64.size = 1 := rfl
@[simp] theorem t64_bytes : t64.bytes = 24 := rfl
@[simp] theorem t64_z : t64.z = .sl true 0 .any [] := rfl
@[simp] theorem t64_y : t64.y = yLTTicket := rfl
@[simp] theorem t64_kind : t64.kind = .slice 149 := rfl
@[simp] theorem t64_cmp : t64.cmp = false := rfl
/-- []impl.Ticket -/
def t67 : TI := ⟨1, 24, .slice none 0 0, .sl true 0 .any [], yLTTicket, .slice 147, false⟩
@[simp] theorem t67_size : t67.size = 1 := rfl
@[simp] theorem t67_bytes : t67.bytes = 24 := rfl
@[simp] theorem t67_z : t67.z = .sl true 0 .any [] := rfl
@[simp] theorem t67_y : t67.y = yLTTicket := rfl
@[simp] theorem t67_kind : t67.kind = .slice 147 := rfl
@[simp] theorem t67_cmp : t67.cmp = false := rfl
/-- []laws.Entry -/
def t73 : TI := ⟨1, 24, .slice none 0 0, .sl true 0 .any [], yLTEntry, .slice 163, false⟩
@[simp] theorem t73_size : t73.size = 1 := rfl
@[simp] theorem t73_bytes : t73.bytes = 24 := rfl
@[simp] theorem t73_z : t73.z = .sl true 0 .any [] := rfl
@[simp] theorem t73_y : t73.y = yLTEntry := rfl
@[simp] theorem t73_kind : t73.kind = .slice 163 := rfl
@[simp] theorem t73_cmp : t73.cmp = false := rfl
/-- []impl.Entry -/
def t76 : TI := ⟨1, 24, .slice none 0 0, .sl true 0 .any [], yLTEntry, .slice 161, false⟩
@[simp] theorem t76_size : t76.size = 1 := rfl
@[simp] theorem t76_bytes : t76.bytes = 24 := rfl
@[simp] theorem t76_z : t76.z = .sl true 0 .any [] := rfl
@[simp] theorem t76_y : t76.y = yLTEntry := rfl
@[simp] theorem t76_kind : t76.kind = .slice 161 := rfl
@[simp] theorem t76_cmp : t76.cmp = false := rfl
/-- []laws.Task -/
def t82 : TI := ⟨1, 24, .slice none 0 0, .sl true 0 .any [], yLTTask, .slice 172, false⟩
@[simp] theorem t82_size : t82.size = 1 := rfl
@[simp] theorem t82_bytes : t82.bytes = 24 := rfl
@[simp] theorem t82_z : t82.z = .sl true 0 .any [] := rfl
@[simp] theorem t82_y : t82.y = yLTTask := rfl
@[simp] theorem t82_kind : t82.kind = .slice 172 := rfl
@[simp] theorem t82_cmp : t82.cmp = false := rfl
/-- []impl.Task -/
def t85 : TI := ⟨1, 24, .slice none 0 0, .sl true 0 .any [], yLTTask, .slice 170, false⟩
@[simp] theorem t85_size : t85.size = 1 := rfl
@[simp] theorem t85_bytes : t85.bytes = 24 := rfl
@[simp] theorem t85_z : t85.z = .sl true 0 .any [] := rfl
@[simp] theorem t85_y : t85.y = yLTTask := rfl
@[simp] theorem t85_kind : t85.kind = .slice 170 := rfl
@[simp] theorem t85_cmp : t85.cmp = false := rfl
/-- []laws.Mark -/
def t89 : TI := ⟨1, 24, .slice none 0 0, .sl true 0 .any [], yLTMark, .slice 217, false⟩
@[simp] theorem t89_size : t89.size = 1 := rfl
@[simp] theorem t89_bytes : t89.bytes = 24 := rfl
@[simp] theorem t89_z : t89.z = .sl true 0 .any [] := rfl
@[simp] theorem t89_y : t89.y = yLTMark := rfl
@[simp] theorem t89_kind : t89.kind = .slice 217 := rfl
@[simp] theorem t89_cmp : t89.cmp = false := rfl
/-- struct { Thing int; Marks []laws.Mark; Salt int } -/
def t90 : TI := ⟨3, 40, .agg #[.int .i64 0, .slice none 0 0, .int .i64 0], .agg [.lit (.int .i64 0), .sl true 0 .any [], .lit (.int .i64 0)], yTSecret, .st [(0, 3), (1, 89), (2, 3)], false⟩
@[simp] theorem t90_size : t90.size = 3 := rfl
@[simp] theorem t90_bytes : t90.bytes = 40 := rfl
@[simp] theorem t90_z : t90.z = .agg [.lit (.int .i64 0), .sl true 0 .any [], .lit (.int .i64 0)] := rfl
@[simp] theorem t90_y : t90.y = yTSecret := rfl
@[simp] theorem t90_kind : t90.kind = .st [(0, 3), (1, 89), (2, 3)] := rfl
@[simp] theorem t90_cmp : t90.cmp = false := rfl
/-- laws.Secret = loop.example/g03007/laws.Secret -/
def t91 : TI := ⟨3, 40, .agg #[.int .i64 0, .slice none 0 0, .int .i64 0], .agg [.lit (.int .i64 0), .sl true 0 .any [], .lit (.int .i64 0)], yTSecret, .st [(0, 3), (1, 89), (2, 3)], false⟩
@[simp] theorem t91_size : t91.size = 3 := rfl
@[simp] theorem t91_bytes : t91.bytes = 40 := rfl
@[simp] theorem t91_z : t91.z = .agg [.lit (.int .i64 0), .sl true 0 .any [], .lit (.int .i64 0)] := rfl
@[simp] theorem t91_y : t91.y = yTSecret := rfl
@[simp] theorem t91_kind : t91.kind = .st [(0, 3), (1, 89), (2, 3)] := rfl
@[simp] theorem t91_cmp : t91.cmp = false := rfl
/-- []impl.Mark -/
def t94 : TI := ⟨1, 24, .slice none 0 0, .sl true 0 .any [], yLTMark, .slice 215, false⟩
@[simp] theorem t94_size : t94.size = 1 := rfl
@[simp] theorem t94_bytes : t94.bytes = 24 := rfl
@[simp] theorem t94_z : t94.z = .sl true 0 .any [] := rfl
@[simp] theorem t94_y : t94.y = yLTMark := rfl
@[simp] theorem t94_kind : t94.kind = .slice 215 := rfl
@[simp] theorem t94_cmp : t94.cmp = false := rfl
/-- struct { Thing int; Marks []impl.Mark; Salt int } -/
def t95 : TI := ⟨3, 40, .agg #[.int .i64 0, .slice none 0 0, .int .i64 0], .agg [.lit (.int .i64 0), .sl true 0 .any [], .lit (.int .i64 0)], yTSecret, .st [(0, 3), (1, 94), (2, 3)], false⟩
@[simp] theorem t95_size : t95.size = 3 := rfl
@[simp] theorem t95_bytes : t95.bytes = 40 := rfl
@[simp] theorem t95_z : t95.z = .agg [.lit (.int .i64 0), .sl true 0 .any [], .lit (.int .i64 0)] := rfl
@[simp] theorem t95_y : t95.y = yTSecret := rfl
@[simp] theorem t95_kind : t95.kind = .st [(0, 3), (1, 94), (2, 3)] := rfl
@[simp] theorem t95_cmp : t95.cmp = false := rfl
/-- impl.Secret = loop.example/g03007/impl.Secret -/
def t96 : TI := ⟨3, 40, .agg #[.int .i64 0, .slice none 0 0, .int .i64 0], .agg [.lit (.int .i64 0), .sl true 0 .any [], .lit (.int .i64 0)], yTSecret, .st [(0, 3), (1, 94), (2, 3)], false⟩
@[simp] theorem t96_size : t96.size = 3 := rfl
@[simp] theorem t96_bytes : t96.bytes = 40 := rfl
@[simp] theorem t96_z : t96.z = .agg [.lit (.int .i64 0), .sl true 0 .any [], .lit (.int .i64 0)] := rfl
@[simp] theorem t96_y : t96.y = yTSecret := rfl
@[simp] theorem t96_kind : t96.kind = .st [(0, 3), (1, 94), (2, 3)] := rfl
@[simp] theorem t96_cmp : t96.cmp = false := rfl
/-- []laws.Find -/
def t102 : TI := ⟨1, 24, .slice none 0 0, .sl true 0 .any [], yLTFind, .slice 41, false⟩
@[simp] theorem t102_size : t102.size = 1 := rfl
@[simp] theorem t102_bytes : t102.bytes = 24 := rfl
@[simp] theorem t102_z : t102.z = .sl true 0 .any [] := rfl
@[simp] theorem t102_y : t102.y = yLTFind := rfl
@[simp] theorem t102_kind : t102.kind = .slice 41 := rfl
@[simp] theorem t102_cmp : t102.cmp = false := rfl
/-- []impl.Find -/
def t105 : TI := ⟨1, 24, .slice none 0 0, .sl true 0 .any [], yLTFind, .slice 44, false⟩
@[simp] theorem t105_size : t105.size = 1 := rfl
@[simp] theorem t105_bytes : t105.bytes = 24 := rfl
@[simp] theorem t105_z : t105.z = .sl true 0 .any [] := rfl
@[simp] theorem t105_y : t105.y = yLTFind := rfl
@[simp] theorem t105_kind : t105.kind = .slice 44 := rfl
@[simp] theorem t105_cmp : t105.cmp = false := rfl
/-- []laws.Claim -/
def t111 : TI := ⟨1, 24, .slice none 0 0, .sl true 0 .any [], yLTClaim, .slice 190, false⟩
@[simp] theorem t111_size : t111.size = 1 := rfl
@[simp] theorem t111_bytes : t111.bytes = 24 := rfl
@[simp] theorem t111_z : t111.z = .sl true 0 .any [] := rfl
@[simp] theorem t111_y : t111.y = yLTClaim := rfl
@[simp] theorem t111_kind : t111.kind = .slice 190 := rfl
@[simp] theorem t111_cmp : t111.cmp = false := rfl
/-- []impl.Claim -/
def t114 : TI := ⟨1, 24, .slice none 0 0, .sl true 0 .any [], yLTClaim, .slice 188, false⟩
@[simp] theorem t114_size : t114.size = 1 := rfl
@[simp] theorem t114_bytes : t114.bytes = 24 := rfl
@[simp] theorem t114_z : t114.z = .sl true 0 .any [] := rfl
@[simp] theorem t114_y : t114.y = yLTClaim := rfl
@[simp] theorem t114_kind : t114.kind = .slice 188 := rfl
@[simp] theorem t114_cmp : t114.cmp = false := rfl
/-- []laws.Hit -/
def t118 : TI := ⟨1, 24, .slice none 0 0, .sl true 0 .any [], yLTHit, .slice 198, false⟩
@[simp] theorem t118_size : t118.size = 1 := rfl
@[simp] theorem t118_bytes : t118.bytes = 24 := rfl
@[simp] theorem t118_z : t118.z = .sl true 0 .any [] := rfl
@[simp] theorem t118_y : t118.y = yLTHit := rfl
@[simp] theorem t118_kind : t118.kind = .slice 198 := rfl
@[simp] theorem t118_cmp : t118.cmp = false := rfl
/-- []impl.Hit -/
def t121 : TI := ⟨1, 24, .slice none 0 0, .sl true 0 .any [], yLTHit, .slice 196, false⟩
@[simp] theorem t121_size : t121.size = 1 := rfl
@[simp] theorem t121_bytes : t121.bytes = 24 := rfl
@[simp] theorem t121_z : t121.z = .sl true 0 .any [] := rfl
@[simp] theorem t121_y : t121.y = yLTHit := rfl
@[simp] theorem t121_kind : t121.kind = .slice 196 := rfl
@[simp] theorem t121_cmp : t121.cmp = false := rfl
/-- map[int]bool -/
def t127 : TI := ⟨1, 8, .map none, .fm 0 [] .any [], .any, .map 3 4, false⟩
@[simp] theorem t127_size : t127.size = 1 := rfl
@[simp] theorem t127_bytes : t127.bytes = 8 := rfl
@[simp] theorem t127_z : t127.z = .fm 0 [] .any [] := rfl
@[simp] theorem t127_y : t127.y = .any := rfl
@[simp] theorem t127_kind : t127.kind = .map 3 4 := rfl
@[simp] theorem t127_cmp : t127.cmp = false := rfl
/-- impl.numberSet = loop.example/g03007/impl.numberSet -/
def t128 : TI := ⟨1, 8, .map none, .fm 0 [] .any [], .any, .map 3 4, false⟩
@[simp] theorem t128_size : t128.size = 1 := rfl
@[simp] theorem t128_bytes : t128.bytes = 8 := rfl
@[simp] theorem t128_z : t128.z = .fm 0 [] .any [] := rfl
@[simp] theorem t128_y : t128.y = .any := rfl
@[simp] theorem t128_kind : t128.kind = .map 3 4 := rfl
@[simp] theorem t128_cmp : t128.cmp = false := rfl
/-- func(impl.Find) bool -/
def t134 : TI := ⟨1, 8, .nilFunc, .lit .nilFunc, .lit .nilFunc, .func, false⟩
@[simp] theorem t134_size : t134.size = 1 := rfl
@[simp] theorem t134_bytes : t134.bytes = 8 := rfl
@[simp] theorem t134_z : t134.z = .lit .nilFunc := rfl
@[simp] theorem t134_y : t134.y = .lit .nilFunc := rfl
@[simp] theorem t134_kind : t134.kind = .func := rfl
@[simp] theorem t134_cmp : t134.cmp = false := rfl
/-- []func(impl.Find, impl.Find) bool -/
def t135 : TI := ⟨1, 24, .slice none 0 0, .sl true 0 .any [], .any, .slice 42, false⟩
@[simp] theorem t135_size : t135.size = 1 := rfl
@[simp] theorem t135_bytes : t135.bytes = 24 := rfl
@[simp] theorem t135_z : t135.z = .sl true 0 .any [] := rfl
@[simp] theorem t135_y : t135.y = .any := rfl
@[simp] theorem t135_kind : t135.kind = .slice 42 := rfl
@[simp] theorem t135_cmp : t135.cmp = false := rfl
/-- struct { Outer int; Thing int } -/
def t136 : TI := ⟨2, 16, .agg #[.int .i64 0, .int .i64 0], .agg [.lit (.int .i64 0), .lit (.int .i64 0)], yTInner, .st [(0, 3), (1, 3)], true⟩
@[simp] theorem t136_size : t136.size = 2 := rfl
@[simp] theorem t136_bytes : t136.bytes = 16 := rfl
@[simp] theorem t136_z : t136.z = .agg [.lit (.int .i64 0), .lit (.int .i64 0)] := rfl
@[simp] theorem t136_y : t136.y = yTInner := rfl
@[simp] theorem t136_kind : t136.kind = .st [(0, 3), (1, 3)] := rfl
@[simp] theorem t136_cmp : t136.cmp = true := rfl
/-- impl.Inner = loop.example/g03007/impl.Inner -/
def t137 : TI := ⟨2, 16, .agg #[.int .i64 0, .int .i64 0], .agg [.lit (.int .i64 0), .lit (.int .i64 0)], yTInner, .st [(0, 3), (1, 3)], true⟩
@[simp] theorem t137_size : t137.size = 2 := rfl
@[simp] theorem t137_bytes : t137.bytes = 16 := rfl
@[simp] theorem t137_z : t137.z = .agg [.lit (.int .i64 0), .lit (.int .i64 0)] := rfl
@[simp] theorem t137_y : t137.y = yTInner := rfl
@[simp] theorem t137_kind : t137.kind = .st [(0, 3), (1, 3)] := rfl
@[simp] theorem t137_cmp : t137.cmp = true := rfl
/-- laws.Inner = loop.example/g03007/laws.Inner -/
def t139 : TI := ⟨2, 16, .agg #[.int .i64 0, .int .i64 0], .agg [.lit (.int .i64 0), .lit (.int .i64 0)], yTInner, .st [(0, 3), (1, 3)], true⟩
@[simp] theorem t139_size : t139.size = 2 := rfl
@[simp] theorem t139_bytes : t139.bytes = 16 := rfl
@[simp] theorem t139_z : t139.z = .agg [.lit (.int .i64 0), .lit (.int .i64 0)] := rfl
@[simp] theorem t139_y : t139.y = yTInner := rfl
@[simp] theorem t139_kind : t139.kind = .st [(0, 3), (1, 3)] := rfl
@[simp] theorem t139_cmp : t139.cmp = true := rfl
/-- impl.week = loop.example/g03007/impl.week -/
def t141 : TI := ⟨1, 1, .int .u8 0, .lit (.int .u8 0), .lit (.int .u8 0), .int .u8, false⟩
@[simp] theorem t141_size : t141.size = 1 := rfl
@[simp] theorem t141_bytes : t141.bytes = 1 := rfl
@[simp] theorem t141_z : t141.z = .lit (.int .u8 0) := rfl
@[simp] theorem t141_y : t141.y = .lit (.int .u8 0) := rfl
@[simp] theorem t141_kind : t141.kind = .int .u8 := rfl
@[simp] theorem t141_cmp : t141.cmp = false := rfl
/-- struct { Id int; At int; Hour int } -/
def t146 : TI := ⟨3, 24, .agg #[.int .i64 0, .int .i64 0, .int .i64 0], .agg [.lit (.int .i64 0), .lit (.int .i64 0), .lit (.int .i64 0)], yTTicket, .st [(0, 3), (1, 3), (2, 3)], true⟩
@[simp] theorem t146_size : t146.size = 3 := rfl
@[simp] theorem t146_bytes : t146.bytes = 24 := rfl
@[simp] theorem t146_z : t146.z = .agg [.lit (.int .i64 0), .lit (.int .i64 0), .lit (.int .i64 0)] := rfl
@[simp] theorem t146_y : t146.y = yTTicket := rfl
@[simp] theorem t146_kind : t146.kind = .st [(0, 3), (1, 3), (2, 3)] := rfl
@[simp] theorem t146_cmp : t146.cmp = true := rfl
/-- impl.Ticket = loop.example/g03007/impl.Ticket -/
def t147 : TI := ⟨3, 24, .agg #[.int .i64 0, .int .i64 0, .int .i64 0], .agg [.lit (.int .i64 0), .lit (.int .i64 0), .lit (.int .i64 0)], yTTicket, .st [(0, 3), (1, 3), (2, 3)], true⟩
@[simp] theorem t147_size : t147.size = 3 := rfl
@[simp] theorem t147_bytes : t147.bytes = 24 := rfl
@[simp] theorem t147_z : t147.z = .agg [.lit (.int .i64 0), .lit (.int .i64 0), .lit (.int .i64 0)] := rfl
@[simp] theorem t147_y : t147.y = yTTicket := rfl
@[simp] theorem t147_kind : t147.kind = .st [(0, 3), (1, 3), (2, 3)] := rfl
@[simp] theorem t147_cmp : t147.cmp = true := rfl
/-- laws.Ticket = loop.example/g03007/laws.Ticket -/
def t149 : TI := ⟨3, 24, .agg #[.int .i64 0, .int .i64 0, .int .i64 0], .agg [.lit (.int .i64 0), .lit (.int .i64 0), .lit (.int .i64 0)], yTTicket, .st [(0, 3), (1, 3), (2, 3)], true⟩
@[simp] theorem t149_size : t149.size = 3 := rfl
@[simp] theorem t149_bytes : t149.bytes = 24 := rfl
@[simp] theorem t149_z : t149.z = .agg [.lit (.int .i64 0), .lit (.int .i64 0), .lit (.int .i64 0)] := rfl
@[simp] theorem t149_y : t149.y = yTTicket := rfl
@[simp] theorem t149_kind : t149.kind = .st [(0, 3), (1, 3), (2, 3)] := rfl
@[simp] theorem t149_cmp : t149.cmp = true := rfl
/-- func(impl.Ticket) int -/
def t150 : TI := ⟨1, 8, .nilFunc, .lit .nilFunc, .lit .nilFunc, .func, false⟩
@[simp] theorem t150_size : t150.size = 1 := rfl
@[simp] theorem t150_bytes : t150.bytes = 8 := rfl
@[simp] theorem t150_z : t150.z = .lit .nilFunc := rfl
@[simp] theorem t150_y : t150.y = .lit .nilFunc := rfl
@[simp] theorem t150_kind : t150.kind = .func := rfl
@[simp] theorem t150_cmp : t150.cmp = false := rfl
/-- struct { items []impl.Ticket; numberOf func(impl.Ticket) int } -/
def t151 : TI := ⟨2, 32, .agg #[.slice none 0 0, .nilFunc], .agg [.sl true 0 .any [], .lit .nilFunc], .any, .st [(0, 67), (1, 150)], false⟩
@[simp] theorem t151_size : t151.size = 2 := rfl
@[simp] theorem t151_bytes : t151.bytes = 32 := rfl
@[simp] theorem t151_z : t151.z = .agg [.sl true 0 .any [], .lit .nilFunc] := rfl
@[simp] theorem t151_y : t151.y = .any := rfl
@[simp] theorem t151_kind : t151.kind = .st [(0, 67), (1, 150)] := rfl
@[simp] theorem t151_cmp : t151.cmp = false := rfl
/-- impl.sortedList[loop.example/g03007/impl.Ticket] = loop.example/g03007/impl.sortedList[loop.example/g03007/impl.Ticket] -/
def t152 : TI := ⟨2, 32, .agg #[.slice none 0 0, .nilFunc], .agg [.sl true 0 .any [], .lit .nilFunc], .any, .st [(0, 67), (1, 150)], false⟩
@[simp] theorem t152_size : t152.size = 2 := rfl
@[simp] theorem t152_bytes : t152.bytes = 32 := rfl
@[simp] theorem t152_z : t152.z = .agg [.sl true 0 .any [], .lit .nilFunc] := rfl
@[simp] theorem t152_y : t152.y = .any := rfl
@[simp] theorem t152_kind : t152.kind = .st [(0, 67), (1, 150)] := rfl
@[simp] theorem t152_cmp : t152.cmp = false := rfl
/-- struct { From int; To int; Cents int; At int } -/
def t160 : TI := ⟨4, 32, .agg #[.int .i64 0, .int .i64 0, .int .i64 0, .int .i64 0], .agg [.lit (.int .i64 0), .lit (.int .i64 0), .lit (.int .i64 0), .lit (.int .i64 0)], yTEntry, .st [(0, 3), (1, 3), (2, 3), (3, 3)], true⟩
@[simp] theorem t160_size : t160.size = 4 := rfl
@[simp] theorem t160_bytes : t160.bytes = 32 := rfl
@[simp] theorem t160_z : t160.z = .agg [.lit (.int .i64 0), .lit (.int .i64 0), .lit (.int .i64 0), .lit (.int .i64 0)] := rfl
@[simp] theorem t160_y : t160.y = yTEntry := rfl
@[simp] theorem t160_kind : t160.kind = .st [(0, 3), (1, 3), (2, 3), (3, 3)] := rfl
@[simp] theorem t160_cmp : t160.cmp = true := rfl
/-- impl.Entry = loop.example/g03007/impl.Entry -/
def t161 : TI := ⟨4, 32, .agg #[.int .i64 0, .int .i64 0, .int .i64 0, .int .i64 0], .agg [.lit (.int .i64 0), .lit (.int .i64 0), .lit (.int .i64 0), .lit (.int .i64 0)], yTEntry, .st [(0, 3), (1, 3), (2, 3), (3, 3)], true⟩
@[simp] theorem t161_size : t161.size = 4 := rfl
@[simp] theorem t161_bytes : t161.bytes = 32 := rfl
@[simp] theorem t161_z : t161.z = .agg [.lit (.int .i64 0), .lit (.int .i64 0), .lit (.int .i64 0), .lit (.int .i64 0)] := rfl
@[simp] theorem t161_y : t161.y = yTEntry := rfl
@[simp] theorem t161_kind : t161.kind = .st [(0, 3), (1, 3), (2, 3), (3, 3)] := rfl
@[simp] theorem t161_cmp : t161.cmp = true := rfl
/-- laws.Entry = loop.example/g03007/laws.Entry -/
def t163 : TI := ⟨4, 32, .agg #[.int .i64 0, .int .i64 0, .int .i64 0, .int .i64 0], .agg [.lit (.int .i64 0), .lit (.int .i64 0), .lit (.int .i64 0), .lit (.int .i64 0)], yTEntry, .st [(0, 3), (1, 3), (2, 3), (3, 3)], true⟩
@[simp] theorem t163_size : t163.size = 4 := rfl
@[simp] theorem t163_bytes : t163.bytes = 32 := rfl
@[simp] theorem t163_z : t163.z = .agg [.lit (.int .i64 0), .lit (.int .i64 0), .lit (.int .i64 0), .lit (.int .i64 0)] := rfl
@[simp] theorem t163_y : t163.y = yTEntry := rfl
@[simp] theorem t163_kind : t163.kind = .st [(0, 3), (1, 3), (2, 3), (3, 3)] := rfl
@[simp] theorem t163_cmp : t163.cmp = true := rfl
/-- struct { Thing int; Fate int; Day int } -/
def t169 : TI := ⟨3, 24, .agg #[.int .i64 0, .int .i64 0, .int .i64 0], .agg [.lit (.int .i64 0), .lit (.int .i64 0), .lit (.int .i64 0)], yTTask, .st [(0, 3), (1, 3), (2, 3)], true⟩
@[simp] theorem t169_size : t169.size = 3 := rfl
@[simp] theorem t169_bytes : t169.bytes = 24 := rfl
@[simp] theorem t169_z : t169.z = .agg [.lit (.int .i64 0), .lit (.int .i64 0), .lit (.int .i64 0)] := rfl
@[simp] theorem t169_y : t169.y = yTTask := rfl
@[simp] theorem t169_kind : t169.kind = .st [(0, 3), (1, 3), (2, 3)] := rfl
@[simp] theorem t169_cmp : t169.cmp = true := rfl
/-- impl.Task = loop.example/g03007/impl.Task -/
def t170 : TI := ⟨3, 24, .agg #[.int .i64 0, .int .i64 0, .int .i64 0], .agg [.lit (.int .i64 0), .lit (.int .i64 0), .lit (.int .i64 0)], yTTask, .st [(0, 3), (1, 3), (2, 3)], true⟩
@[simp] theorem t170_size : t170.size = 3 := rfl
@[simp] theorem t170_bytes : t170.bytes = 24 := rfl
@[simp] theorem t170_z : t170.z = .agg [.lit (.int .i64 0), .lit (.int .i64 0), .lit (.int .i64 0)] := rfl
@[simp] theorem t170_y : t170.y = yTTask := rfl
@[simp] theorem t170_kind : t170.kind = .st [(0, 3), (1, 3), (2, 3)] := rfl
@[simp] theorem t170_cmp : t170.cmp = true := rfl
/-- laws.Task = loop.example/g03007/laws.Task -/
def t172 : TI := ⟨3, 24, .agg #[.int .i64 0, .int .i64 0, .int .i64 0], .agg [.lit (.int .i64 0), .lit (.int .i64 0), .lit (.int .i64 0)], yTTask, .st [(0, 3), (1, 3), (2, 3)], true⟩
@[simp] theorem t172_size : t172.size = 3 := rfl
@[simp] theorem t172_bytes : t172.bytes = 24 := rfl
@[simp] theorem t172_z : t172.z = .agg [.lit (.int .i64 0), .lit (.int .i64 0), .lit (.int .i64 0)] := rfl
@[simp] theorem t172_y : t172.y = yTTask := rfl
@[simp] theorem t172_kind : t172.kind = .st [(0, 3), (1, 3), (2, 3)] := rfl
@[simp] theorem t172_cmp : t172.cmp = true := rfl
/-- []string -/
def t178 : TI := ⟨1, 24, .slice none 0 0, .sl true 0 .any [], yLS, .slice 9, false⟩
@[simp] theorem t178_size : t178.size = 1 := rfl
@[simp] theorem t178_bytes : t178.bytes = 24 := rfl
@[simp] theorem t178_z : t178.z = .sl true 0 .any [] := rfl
@[simp] theorem t178_y : t178.y = yLS := rfl
@[simp] theorem t178_kind : t178.kind = .slice 9 := rfl
@[simp] theorem t178_cmp : t178.cmp = false := rfl
/-- struct { number int; count int } -/
def t183 : TI := ⟨2, 16, .agg #[.int .i64 0, .int .i64 0], .agg [.lit (.int .i64 0), .lit (.int .i64 0)], yTPeak, .st [(0, 3), (1, 3)], true⟩
@[simp] theorem t183_size : t183.size = 2 := rfl
@[simp] theorem t183_bytes : t183.bytes = 16 := rfl
@[simp] theorem t183_z : t183.z = .agg [.lit (.int .i64 0), .lit (.int .i64 0)] := rfl
@[simp] theorem t183_y : t183.y = yTPeak := rfl
@[simp] theorem t183_kind : t183.kind = .st [(0, 3), (1, 3)] := rfl
@[simp] theorem t183_cmp : t183.cmp = true := rfl
/-- impl.peak = loop.example/g03007/impl.peak -/
def t184 : TI := ⟨2, 16, .agg #[.int .i64 0, .int .i64 0], .agg [.lit (.int .i64 0), .lit (.int .i64 0)], yTPeak, .st [(0, 3), (1, 3)], true⟩
@[simp] theorem t184_size : t184.size = 2 := rfl
@[simp] theorem t184_bytes : t184.bytes = 16 := rfl
@[simp] theorem t184_z : t184.z = .agg [.lit (.int .i64 0), .lit (.int .i64 0)] := rfl
@[simp] theorem t184_y : t184.y = yTPeak := rfl
@[simp] theorem t184_kind : t184.kind = .st [(0, 3), (1, 3)] := rfl
@[simp] theorem t184_cmp : t184.cmp = true := rfl
/-- struct { Id int; Who int; Thing int; At int; State int } -/
def t187 : TI := ⟨5, 40, .agg #[.int .i64 0, .int .i64 0, .int .i64 0, .int .i64 0, .int .i64 0], .agg [.lit (.int .i64 0), .lit (.int .i64 0), .lit (.int .i64 0), .lit (.int .i64 0), .lit (.int .i64 0)], yTClaim, .st [(0, 3), (1, 3), (2, 3), (3, 3), (4, 3)], true⟩
@[simp] theorem t187_size : t187.size = 5 := rfl
@[simp] theorem t187_bytes : t187.bytes = 40 := rfl
@[simp] theorem t187_z : t187.z = .agg [.lit (.int .i64 0), .lit (.int .i64 0), .lit (.int .i64 0), .lit (.int .i64 0), .lit (.int .i64 0)] := rfl
@[simp] theorem t187_y : t187.y = yTClaim := rfl
@[simp] theorem t187_kind : t187.kind = .st [(0, 3), (1, 3), (2, 3), (3, 3), (4, 3)] := rfl
@[simp] theorem t187_cmp : t187.cmp = true := rfl
/-- impl.Claim = loop.example/g03007/impl.Claim -/
def t188 : TI := ⟨5, 40, .agg #[.int .i64 0, .int .i64 0, .int .i64 0, .int .i64 0, .int .i64 0], .agg [.lit (.int .i64 0), .lit (.int .i64 0), .lit (.int .i64 0), .lit (.int .i64 0), .lit (.int .i64 0)], yTClaim, .st [(0, 3), (1, 3), (2, 3), (3, 3), (4, 3)], true⟩
@[simp] theorem t188_size : t188.size = 5 := rfl
@[simp] theorem t188_bytes : t188.bytes = 40 := rfl
@[simp] theorem t188_z : t188.z = .agg [.lit (.int .i64 0), .lit (.int .i64 0), .lit (.int .i64 0), .lit (.int .i64 0), .lit (.int .i64 0)] := rfl
@[simp] theorem t188_y : t188.y = yTClaim := rfl
@[simp] theorem t188_kind : t188.kind = .st [(0, 3), (1, 3), (2, 3), (3, 3), (4, 3)] := rfl
@[simp] theorem t188_cmp : t188.cmp = true := rfl
/-- laws.Claim = loop.example/g03007/laws.Claim -/
def t190 : TI := ⟨5, 40, .agg #[.int .i64 0, .int .i64 0, .int .i64 0, .int .i64 0, .int .i64 0], .agg [.lit (.int .i64 0), .lit (.int .i64 0), .lit (.int .i64 0), .lit (.int .i64 0), .lit (.int .i64 0)], yTClaim, .st [(0, 3), (1, 3), (2, 3), (3, 3), (4, 3)], true⟩
@[simp] theorem t190_size : t190.size = 5 := rfl
@[simp] theorem t190_bytes : t190.bytes = 40 := rfl
@[simp] theorem t190_z : t190.z = .agg [.lit (.int .i64 0), .lit (.int .i64 0), .lit (.int .i64 0), .lit (.int .i64 0), .lit (.int .i64 0)] := rfl
@[simp] theorem t190_y : t190.y = yTClaim := rfl
@[simp] theorem t190_kind : t190.kind = .st [(0, 3), (1, 3), (2, 3), (3, 3), (4, 3)] := rfl
@[simp] theorem t190_cmp : t190.cmp = true := rfl
/-- struct { House int; Thing int } -/
def t195 : TI := ⟨2, 16, .agg #[.int .i64 0, .int .i64 0], .agg [.lit (.int .i64 0), .lit (.int .i64 0)], yTHit, .st [(0, 3), (1, 3)], true⟩
@[simp] theorem t195_size : t195.size = 2 := rfl
@[simp] theorem t195_bytes : t195.bytes = 16 := rfl
@[simp] theorem t195_z : t195.z = .agg [.lit (.int .i64 0), .lit (.int .i64 0)] := rfl
@[simp] theorem t195_y : t195.y = yTHit := rfl
@[simp] theorem t195_kind : t195.kind = .st [(0, 3), (1, 3)] := rfl
@[simp] theorem t195_cmp : t195.cmp = true := rfl
/-- impl.Hit = loop.example/g03007/impl.Hit -/
def t196 : TI := ⟨2, 16, .agg #[.int .i64 0, .int .i64 0], .agg [.lit (.int .i64 0), .lit (.int .i64 0)], yTHit, .st [(0, 3), (1, 3)], true⟩
@[simp] theorem t196_size : t196.size = 2 := rfl
@[simp] theorem t196_bytes : t196.bytes = 16 := rfl
@[simp] theorem t196_z : t196.z = .agg [.lit (.int .i64 0), .lit (.int .i64 0)] := rfl
@[simp] theorem t196_y : t196.y = yTHit := rfl
@[simp] theorem t196_kind : t196.kind = .st [(0, 3), (1, 3)] := rfl
@[simp] theorem t196_cmp : t196.cmp = true := rfl
/-- laws.Hit = loop.example/g03007/laws.Hit -/
def t198 : TI := ⟨2, 16, .agg #[.int .i64 0, .int .i64 0], .agg [.lit (.int .i64 0), .lit (.int .i64 0)], yTHit, .st [(0, 3), (1, 3)], true⟩
@[simp] theorem t198_size : t198.size = 2 := rfl
@[simp] theorem t198_bytes : t198.bytes = 16 := rfl
@[simp] theorem t198_z : t198.z = .agg [.lit (.int .i64 0), .lit (.int .i64 0)] := rfl
@[simp] theorem t198_y : t198.y = yTHit := rfl
@[simp] theorem t198_kind : t198.kind = .st [(0, 3), (1, 3)] := rfl
@[simp] theorem t198_cmp : t198.cmp = true := rfl
/-- [4]func(impl.Find) bool -/
def t203 : TI := ⟨4, 32, .agg #[.nilFunc, .nilFunc, .nilFunc, .nilFunc], .agg [.lit .nilFunc, .lit .nilFunc, .lit .nilFunc, .lit .nilFunc], .any, .arr 4 134, false⟩
@[simp] theorem t203_size : t203.size = 4 := rfl
@[simp] theorem t203_bytes : t203.bytes = 32 := rfl
@[simp] theorem t203_z : t203.z = .agg [.lit .nilFunc, .lit .nilFunc, .lit .nilFunc, .lit .nilFunc] := rfl
@[simp] theorem t203_y : t203.y = .any := rfl
@[simp] theorem t203_kind : t203.kind = .arr 4 134 := rfl
@[simp] theorem t203_cmp : t203.cmp = false := rfl
/-- struct { kind int; colour int; size int; place int } -/
def t205 : TI := ⟨4, 32, .agg #[.int .i64 0, .int .i64 0, .int .i64 0, .int .i64 0], .agg [.lit (.int .i64 0), .lit (.int .i64 0), .lit (.int .i64 0), .lit (.int .i64 0)], yTLikeness, .st [(0, 3), (1, 3), (2, 3), (3, 3)], true⟩
@[simp] theorem t205_size : t205.size = 4 := rfl
@[simp] theorem t205_bytes : t205.bytes = 32 := rfl
@[simp] theorem t205_z : t205.z = .agg [.lit (.int .i64 0), .lit (.int .i64 0), .lit (.int .i64 0), .lit (.int .i64 0)] := rfl
@[simp] theorem t205_y : t205.y = yTLikeness := rfl
@[simp] theorem t205_kind : t205.kind = .st [(0, 3), (1, 3), (2, 3), (3, 3)] := rfl
@[simp] theorem t205_cmp : t205.cmp = true := rfl
/-- impl.likeness = loop.example/g03007/impl.likeness -/
def t206 : TI := ⟨4, 32, .agg #[.int .i64 0, .int .i64 0, .int .i64 0, .int .i64 0], .agg [.lit (.int .i64 0), .lit (.int .i64 0), .lit (.int .i64 0), .lit (.int .i64 0)], yTLikeness, .st [(0, 3), (1, 3), (2, 3), (3, 3)], true⟩
@[simp] theorem t206_size : t206.size = 4 := rfl
@[simp] theorem t206_bytes : t206.bytes = 32 := rfl
@[simp] theorem t206_z : t206.z = .agg [.lit (.int .i64 0), .lit (.int .i64 0), .lit (.int .i64 0), .lit (.int .i64 0)] := rfl
@[simp] theorem t206_y : t206.y = yTLikeness := rfl
@[simp] theorem t206_kind : t206.kind = .st [(0, 3), (1, 3), (2, 3), (3, 3)] := rfl
@[simp] theorem t206_cmp : t206.cmp = true := rfl
/-- [2]int -/
def t210 : TI := ⟨2, 16, .agg #[.int .i64 0, .int .i64 0], .agg [.lit (.int .i64 0), .lit (.int .i64 0)], .any, .arr 2 3, false⟩
@[simp] theorem t210_size : t210.size = 2 := rfl
@[simp] theorem t210_bytes : t210.bytes = 16 := rfl
@[simp] theorem t210_z : t210.z = .agg [.lit (.int .i64 0), .lit (.int .i64 0)] := rfl
@[simp] theorem t210_y : t210.y = .any := rfl
@[simp] theorem t210_kind : t210.kind = .arr 2 3 := rfl
@[simp] theorem t210_cmp : t210.cmp = false := rfl
/-- struct { Question int; Answer int } -/
def t214 : TI := ⟨2, 16, .agg #[.int .i64 0, .int .i64 0], .agg [.lit (.int .i64 0), .lit (.int .i64 0)], yTMark, .st [(0, 3), (1, 3)], true⟩
@[simp] theorem t214_size : t214.size = 2 := rfl
@[simp] theorem t214_bytes : t214.bytes = 16 := rfl
@[simp] theorem t214_z : t214.z = .agg [.lit (.int .i64 0), .lit (.int .i64 0)] := rfl
@[simp] theorem t214_y : t214.y = yTMark := rfl
@[simp] theorem t214_kind : t214.kind = .st [(0, 3), (1, 3)] := rfl
@[simp] theorem t214_cmp : t214.cmp = true := rfl
/-- impl.Mark = loop.example/g03007/impl.Mark -/
def t215 : TI := ⟨2, 16, .agg #[.int .i64 0, .int .i64 0], .agg [.lit (.int .i64 0), .lit (.int .i64 0)], yTMark, .st [(0, 3), (1, 3)], true⟩
@[simp] theorem t215_size : t215.size = 2 := rfl
@[simp] theorem t215_bytes : t215.bytes = 16 := rfl
@[simp] theorem t215_z : t215.z = .agg [.lit (.int .i64 0), .lit (.int .i64 0)] := rfl
@[simp] theorem t215_y : t215.y = yTMark := rfl
@[simp] theorem t215_kind : t215.kind = .st [(0, 3), (1, 3)] := rfl
@[simp] theorem t215_cmp : t215.cmp = true := rfl
/-- laws.Mark = loop.example/g03007/laws.Mark -/
def t217 : TI := ⟨2, 16, .agg #[.int .i64 0, .int .i64 0], .agg [.lit (.int .i64 0), .lit (.int .i64 0)], yTMark, .st [(0, 3), (1, 3)], true⟩
@[simp] theorem t217_size : t217.size = 2 := rfl
@[simp] theorem t217_bytes : t217.bytes = 16 := rfl
@[simp] theorem t217_z : t217.z = .agg [.lit (.int .i64 0), .lit (.int .i64 0)] := rfl
@[simp] theorem t217_y : t217.y = yTMark := rfl
@[simp] theorem t217_kind : t217.kind = .st [(0, 3), (1, 3)] := rfl
@[simp] theorem t217_cmp : t217.cmp = true := rfl
/-- func(impl.Find) int -/
def t220 : TI := ⟨1, 8, .nilFunc, .lit .nilFunc, .lit .nilFunc, .func, false⟩
@[simp] theorem t220_size : t220.size = 1 := rfl
@[simp] theorem t220_bytes : t220.bytes = 8 := rfl
@[simp] theorem t220_z : t220.z = .lit .nilFunc := rfl
@[simp] theorem t220_y : t220.y = .lit .nilFunc := rfl
@[simp] theorem t220_kind : t220.kind = .func := rfl
@[simp] theorem t220_cmp : t220.cmp = false := rfl
/-- struct { items []impl.Find; numberOf func(impl.Find) int } -/
def t221 : TI := ⟨2, 32, .agg #[.slice none 0 0, .nilFunc], .agg [.sl true 0 .any [], .lit .nilFunc], .any, .st [(0, 105), (1, 220)], false⟩
@[simp] theorem t221_size : t221.size = 2 := rfl
@[simp] theorem t221_bytes : t221.bytes = 32 := rfl
@[simp] theorem t221_z : t221.z = .agg [.sl true 0 .any [], .lit .nilFunc] := rfl
@[simp] theorem t221_y : t221.y = .any := rfl
@[simp] theorem t221_kind : t221.kind = .st [(0, 105), (1, 220)] := rfl
@[simp] theorem t221_cmp : t221.cmp = false := rfl
/-- impl.sortedList[loop.example/g03007/impl.Find] = loop.example/g03007/impl.sortedList[loop.example/g03007/impl.Find] -/
def t222 : TI := ⟨2, 32, .agg #[.slice none 0 0, .nilFunc], .agg [.sl true 0 .any [], .lit .nilFunc], .any, .st [(0, 105), (1, 220)], false⟩
@[simp] theorem t222_size : t222.size = 2 := rfl
@[simp] theorem t222_bytes : t222.bytes = 32 := rfl
@[simp] theorem t222_z : t222.z = .agg [.sl true 0 .any [], .lit .nilFunc] := rfl
@[simp] theorem t222_y : t222.y = .any := rfl
@[simp] theorem t222_kind : t222.kind = .st [(0, 105), (1, 220)] := rfl
@[simp] theorem t222_cmp : t222.cmp = false := rfl
/-- *impl.peak -/
def t225 : TI := ⟨1, 8, .pointer none, .lit (.pointer none), .lit (.pointer none), .ptr 184, false⟩
@[simp] theorem t225_size : t225.size = 1 := rfl
@[simp] theorem t225_bytes : t225.bytes = 8 := rfl
@[simp] theorem t225_z : t225.z = .lit (.pointer none) := rfl
@[simp] theorem t225_y : t225.y = .lit (.pointer none) := rfl
@[simp] theorem t225_kind : t225.kind = .ptr 184 := rfl
@[simp] theorem t225_cmp : t225.cmp = false := rfl
/-- map[int]int -/
def t228 : TI := ⟨1, 8, .map none, .fm 0 [] .any [], .any, .map 3 3, false⟩
@[simp] theorem t228_size : t228.size = 1 := rfl
@[simp] theorem t228_bytes : t228.bytes = 8 := rfl
@[simp] theorem t228_z : t228.z = .fm 0 [] .any [] := rfl
@[simp] theorem t228_y : t228.y = .any := rfl
@[simp] theorem t228_kind : t228.kind = .map 3 3 := rfl
@[simp] theorem t228_cmp : t228.cmp = false := rfl
/-- func(impl.Mark) int -/
def t230 : TI := ⟨1, 8, .nilFunc, .lit .nilFunc, .lit .nilFunc, .func, false⟩
@[simp] theorem t230_size : t230.size = 1 := rfl
@[simp] theorem t230_bytes : t230.bytes = 8 := rfl
@[simp] theorem t230_z : t230.z = .lit .nilFunc := rfl
@[simp] theorem t230_y : t230.y = .lit .nilFunc := rfl
@[simp] theorem t230_kind : t230.kind = .func := rfl
@[simp] theorem t230_cmp : t230.cmp = false := rfl
/-- struct { items []impl.Mark; numberOf func(impl.Mark) int } -/
def t231 : TI := ⟨2, 32, .agg #[.slice none 0 0, .nilFunc], .agg [.sl true 0 .any [], .lit .nilFunc], .any, .st [(0, 94), (1, 230)], false⟩
@[simp] theorem t231_size : t231.size = 2 := rfl
@[simp] theorem t231_bytes : t231.bytes = 32 := rfl
@[simp] theorem t231_z : t231.z = .agg [.sl true 0 .any [], .lit .nilFunc] := rfl
@[simp] theorem t231_y : t231.y = .any := rfl
@[simp] theorem t231_kind : t231.kind = .st [(0, 94), (1, 230)] := rfl
@[simp] theorem t231_cmp : t231.cmp = false := rfl
/-- impl.sortedList[loop.example/g03007/impl.Mark] = loop.example/g03007/impl.sortedList[loop.example/g03007/impl.Mark] -/
def t232 : TI := ⟨2, 32, .agg #[.slice none 0 0, .nilFunc], .agg [.sl true 0 .any [], .lit .nilFunc], .any, .st [(0, 94), (1, 230)], false⟩
@[simp] theorem t232_size : t232.size = 2 := rfl
@[simp] theorem t232_bytes : t232.bytes = 32 := rfl
@[simp] theorem t232_z : t232.z = .agg [.sl true 0 .any [], .lit .nilFunc] := rfl
@[simp] theorem t232_y : t232.y = .any := rfl
@[simp] theorem t232_kind : t232.kind = .st [(0, 94), (1, 230)] := rfl
@[simp] theorem t232_cmp : t232.cmp = false := rfl
/-- uint32 -/
def t245 : TI := ⟨1, 4, .int .u32 0, .lit (.int .u32 0), .lit (.int .u32 0), .int .u32, false⟩
@[simp] theorem t245_size : t245.size = 1 := rfl
@[simp] theorem t245_bytes : t245.bytes = 4 := rfl
@[simp] theorem t245_z : t245.z = .lit (.int .u32 0) := rfl
@[simp] theorem t245_y : t245.y = .lit (.int .u32 0) := rfl
@[simp] theorem t245_kind : t245.kind = .int .u32 := rfl
@[simp] theorem t245_cmp : t245.cmp = false := rfl
/-- func(unsafe.Pointer, unsafe.Pointer) bool -/
def t248 : TI := ⟨1, 8, .nilFunc, .lit .nilFunc, .lit .nilFunc, .func, false⟩
@[simp] theorem t248_size : t248.size = 1 := rfl
@[simp] theorem t248_bytes : t248.bytes = 8 := rfl
@[simp] theorem t248_z : t248.z = .lit .nilFunc := rfl
@[simp] theorem t248_y : t248.y = .lit .nilFunc := rfl
@[simp] theorem t248_kind : t248.kind = .func := rfl
@[simp] theorem t248_cmp : t248.cmp = false := rfl
/-- *uint8 -/
def t249 : TI := ⟨1, 8, .pointer none, .lit (.pointer none), .lit (.pointer none), .ptr 5, false⟩
@[simp] theorem t249_size : t249.size = 1 := rfl
@[simp] theorem t249_bytes : t249.bytes = 8 := rfl
@[simp] theorem t249_z : t249.z = .lit (.pointer none) := rfl
@[simp] theorem t249_y : t249.y = .lit (.pointer none) := rfl
@[simp] theorem t249_kind : t249.kind = .ptr 5 := rfl
@[simp] theorem t249_cmp : t249.cmp = false := rfl
/-- struct { Size_ uintptr; PtrBytes uintptr; Hash uint32; TFlag abi.TFlag; Align_ uint8; FieldAlign_ uint8; Kind_ abi.Kind; Equal func(unsafe.Pointer, unsafe.Pointer) bool; GCData *uint8; Str abi.NameOff; PtrToThis abi.TypeOff } -/
def t252 : TI := ⟨11, 48, .agg #[.int .u64 0, .int .u64 0, .int .u32 0, .int .u8 0, .int .u8 0, .int .u8 0, .int .u8 0, .nilFunc, .pointer none, .int .i32 0, .int .i32 0], .agg [.lit (.int .u64 0), .lit (.int .u64 0), .lit (.int .u32 0), .lit (.int .u8 0), .lit (.int .u8 0), .lit (.int .u8 0), .lit (.int .u8 0), .lit .nilFunc, .lit (.pointer none), .lit (.int .i32 0), .lit (.int .i32 0)], .any, .st [(0, 12), (1, 12), (2, 245), (3, 246), (4, 5), (5, 5), (6, 247), (7, 248), (8, 249), (9, 250), (10, 251)], false⟩
@[simp] theorem t252_size : t252.size = 11 := rfl
@[simp] theorem t252_bytes : t252.bytes = 48 := rfl
@[simp] theorem t252_z : t252.z = .agg [.lit (.int .u64 0), .lit (.int .u64 0), .lit (.int .u32 0), .lit (.int .u8 0), .lit (.int .u8 0), .lit (.int .u8 0), .lit (.int .u8 0), .lit .nilFunc, .lit (.pointer none), .lit (.int .i32 0), .lit (.int .i32 0)] := rfl
@[simp] theorem t252_y : t252.y = .any := rfl
@[simp] theorem t252_kind : t252.kind = .st [(0, 12), (1, 12), (2, 245), (3, 246), (4, 5), (5, 5), (6, 247), (7, 248), (8, 249), (9, 250), (10, 251)] := rfl
@[simp] theorem t252_cmp : t252.cmp = false := rfl
theorem t2_ok : t2.ok Try.prog 2 := ⟨by kernel_rfl, by kernel_rfl, by kernel_rfl, Try.underlying2, (fun h => by cases h), ⟨rfl, rfl, rfl, rfl, fun F h β => by simp [t2, Rep, Reps]⟩⟩
theorem t3_ok : t3.ok Try.prog 3 := ⟨by kernel_rfl, by kernel_rfl, by kernel_rfl, Try.underlying3, (fun h => by cases h), ⟨rfl, rfl, rfl, rfl, fun F h β => by simp [t3, Rep, Reps]⟩⟩
theorem t4_ok : t4.ok Try.prog 4 := ⟨by kernel_rfl, by kernel_rfl, by kernel_rfl, Try.underlying4, (fun h => by cases h), ⟨rfl, rfl, rfl, rfl, fun F h β => by simp [t4, Rep, Reps]⟩⟩
theorem t5_ok : t5.ok Try.prog 5 := ⟨by kernel_rfl, by kernel_rfl, by kernel_rfl, Try.underlying5, (fun h => by cases h), ⟨rfl, rfl, rfl, rfl, fun F h β => by simp [t5, Rep, Reps]⟩⟩
theorem t9_ok : t9.ok Try.prog 9 := ⟨by kernel_rfl, by kernel_rfl, by kernel_rfl, Try.underlying9, (fun h => by cases h), ⟨rfl, rfl, rfl, rfl, fun F h β => by simp [t9, Rep, Reps]⟩⟩
theorem t12_ok : t12.ok Try.prog 12 := ⟨by kernel_rfl, by kernel_rfl, by kernel_rfl, Try.underlying12, (fun h => by cases h), ⟨rfl, rfl, rfl, rfl, fun F h β => by simp [t12, Rep, Reps]⟩⟩
theorem t20_ok : t20.ok Try.prog 20 := ⟨by kernel_rfl, by kernel_rfl, by kernel_rfl, ⟨_, Try.underlying20⟩, (fun h => by cases h), ⟨rfl, rfl, rfl, rfl, fun F h β => by simp [t20, Rep, Reps]⟩⟩
theorem t21_ok : t21.ok Try.prog 21 := ⟨by kernel_rfl, by kernel_rfl, by kernel_rfl, Try.underlying21, (fun h => by cases h), ⟨rfl, rfl, rfl, rfl, fun F h β => by simp [t21, Rep, Reps]⟩⟩
theorem t22_ok : t22.ok Try.prog 22 := ⟨by kernel_rfl, by kernel_rfl, by kernel_rfl, ⟨_, Try.underlying22, rfl⟩, (fun _ => eqInts_of (by kernel_rfl) (by kernel_rfl) (by kernel_rfl)), ⟨rfl, rfl, rfl, rfl, fun F h β => by simp [t22, Rep, Reps]⟩⟩
theorem t23_ok : t23.ok Try.prog 23 := ⟨by kernel_rfl, by kernel_rfl, by kernel_rfl, ⟨_, Try.underlying23, rfl⟩, (fun _ => eqInts_of (by kernel_rfl) (by kernel_rfl) (by kernel_rfl)), ⟨rfl, rfl, rfl, rfl, fun F h β => by simp [t23, Rep, Reps]⟩⟩
theorem t25_ok : t25.ok Try.prog 25 := ⟨by kernel_rfl, by kernel_rfl, by kernel_rfl, ⟨_, Try.underlying25, rfl⟩, (fun _ => eqInts_of (by kernel_rfl) (by kernel_rfl) (by kernel_rfl)), ⟨rfl, rfl, rfl, rfl, fun F h β => by simp [t25, Rep, Reps]⟩⟩
theorem t28_ok : t28.ok Try.prog 28 := ⟨by kernel_rfl, by kernel_rfl, by kernel_rfl, Try.underlying28, (fun h => by cases h), ⟨rfl, rfl, rfl, rfl, fun F h β => by simp [t28, Rep, Reps]⟩⟩
theorem t32_ok : t32.ok Try.prog 32 := ⟨by kernel_rfl, by kernel_rfl, by kernel_rfl, ⟨_, Try.underlying32, rfl⟩, (fun h => by cases h), ⟨rfl, rfl, rfl, rfl, fun F h β => by
    show Rep F h β t32.z t32.zero
    simp only [t32, Rep, Reps]
    exact ⟨_, rfl, _, _, rfl, (by trivial), _, _, rfl, (by trivial), _, _, rfl, (.inl ⟨by trivial, none, 0, by trivial, by intros; rfl⟩), _, _, rfl, (by trivial), rfl⟩⟩⟩
theorem t33_ok : t33.ok Try.prog 33 := ⟨by kernel_rfl, by kernel_rfl, by kernel_rfl, ⟨_, Try.underlying33, rfl⟩, (fun h => by cases h), ⟨rfl, rfl, rfl, rfl, fun F h β => by
    show Rep F h β t33.z t33.zero
    simp only [t33, Rep, Reps]
    exact ⟨_, rfl, _, _, rfl, (by trivial), _, _, rfl, (by trivial), _, _, rfl, (.inl ⟨by trivial, none, 0, by trivial, by intros; rfl⟩), _, _, rfl, (by trivial), rfl⟩⟩⟩
theorem t36_ok : t36.ok Try.prog 36 := ⟨by kernel_rfl, by kernel_rfl, by kernel_rfl, ⟨_, Try.underlying36, rfl⟩, (fun h => by cases h), ⟨rfl, rfl, rfl, rfl, fun F h β => by
    show Rep F h β t36.z t36.zero
    simp only [t36, Rep, Reps]
    exact ⟨_, rfl, _, _, rfl, (by trivial), _, _, rfl, (by trivial), _, _, rfl, (.inl ⟨by trivial, none, 0, by trivial, by intros; rfl⟩), _, _, rfl, (by trivial), rfl⟩⟩⟩
theorem t40_ok : t40.ok Try.prog 40 := ⟨by kernel_rfl, by kernel_rfl, by kernel_rfl, ⟨_, Try.underlying40, rfl⟩, (fun _ => eqInts_of (by kernel_rfl) (by kernel_rfl) (by kernel_rfl)), ⟨rfl, rfl, rfl, rfl, fun F h β => by simp [t40, Rep, Reps]⟩⟩
theorem t41_ok : t41.ok Try.prog 41 := ⟨by kernel_rfl, by kernel_rfl, by kernel_rfl, ⟨_, Try.underlying41, rfl⟩, (fun _ => eqInts_of (by kernel_rfl) (by kernel_rfl) (by kernel_rfl)), ⟨rfl, rfl, rfl, rfl, fun F h β => by simp [t41, Rep, Reps]⟩⟩
theorem t42_ok : t42.ok Try.prog 42 := ⟨by kernel_rfl, by kernel_rfl, by kernel_rfl, ⟨_, _, _, Try.underlying42⟩, (fun h => by cases h), ⟨rfl, rfl, rfl, rfl, fun F h β => by simp [t42, Rep, Reps]⟩⟩
theorem t43_ok : t43.ok Try.prog 43 := ⟨by kernel_rfl, by kernel_rfl, by kernel_rfl, ⟨_, Try.underlying43, rfl⟩, (fun _ => eqInts_of (by kernel_rfl) (by kernel_rfl) (by kernel_rfl)), ⟨rfl, rfl, rfl, rfl, fun F h β => by simp [t43, Rep, Reps]⟩⟩
theorem t44_ok : t44.ok Try.prog 44 := ⟨by kernel_rfl, by kernel_rfl, by kernel_rfl, ⟨_, Try.underlying44, rfl⟩, (fun _ => eqInts_of (by kernel_rfl) (by kernel_rfl) (by kernel_rfl)), ⟨rfl, rfl, rfl, rfl, fun F h β => by simp [t44, Rep, Reps]⟩⟩
theorem t47_ok : t47.ok Try.prog 47 := ⟨by kernel_rfl, by kernel_rfl, by kernel_rfl, Try.underlying47, (fun h => by cases h), ⟨rfl, rfl, rfl, rfl, fun F h β => by simp [t47, Rep, Reps]⟩⟩
theorem t50_ok : t50.ok Try.prog 50 := ⟨by kernel_rfl, by kernel_rfl, by kernel_rfl, Try.underlying50, (fun h => by cases h), ⟨rfl, rfl, rfl, rfl, fun F h β => by simp [t50, Rep, Reps]⟩⟩
theorem t54_ok : t54.ok Try.prog 54 := ⟨by kernel_rfl, by kernel_rfl, by kernel_rfl, Try.underlying54, (fun h => by cases h), ⟨rfl, rfl, rfl, rfl, fun F h β => by simp [t54, Rep, Reps]⟩⟩
theorem t64_ok : t64.ok Try.prog 64 := ⟨by kernel_rfl, by kernel_rfl, by kernel_rfl, Try.underlying64, (fun h => by cases h), ⟨rfl, rfl, rfl, rfl, fun F h β => by simp [t64, Rep, Reps]⟩⟩
theorem t67_ok : t67.ok Try.prog 67 := ⟨by kernel_rfl, by kernel_rfl, by kernel_rfl, Try.underlying67, (fun h => by cases h), ⟨rfl, rfl, rfl, rfl, fun F h β => by simp [t67, Rep, Reps]⟩⟩
theorem t73_ok : t73.ok Try.prog 73 := ⟨by kernel_rfl, by kernel_rfl, by kernel_rfl, Try.underlying73, (fun h => by cases h), ⟨rfl, rfl, rfl, rfl, fun F h β => by simp [t73, Rep, Reps]⟩⟩
theorem t76_ok : t76.ok Try.prog 76 := ⟨by kernel_rfl, by kernel_rfl, by kernel_rfl, Try.underlying76, (fun h => by cases h), ⟨rfl, rfl, rfl, rfl, fun F h β => by simp [t76, Rep, Reps]⟩⟩
theorem t82_ok : t82.ok Try.prog 82 := ⟨by kernel_rfl, by kernel_rfl, by kernel_rfl, Try.underlying82, (fun h => by cases h), ⟨rfl, rfl, rfl, rfl, fun F h β => by simp [t82, Rep, Reps]⟩⟩
theorem t85_ok : t85.ok Try.prog 85 := ⟨by kernel_rfl, by kernel_rfl, by kernel_rfl, Try.underlying85, (fun h => by cases h), ⟨rfl, rfl, rfl, rfl, fun F h β => by simp [t85, Rep, Reps]⟩⟩
theorem t89_ok : t89.ok Try.prog 89 := ⟨by kernel_rfl, by kernel_rfl, by kernel_rfl, Try.underlying89, (fun h => by cases h), ⟨rfl, rfl, rfl, rfl, fun F h β => by simp [t89, Rep, Reps]⟩⟩
theorem t90_ok : t90.ok Try.prog 90 := ⟨by kernel_rfl, by kernel_rfl, by kernel_rfl, ⟨_, Try.underlying90, rfl⟩, (fun h => by cases h), ⟨rfl, rfl, rfl, rfl, fun F h β => by
    show Rep F h β t90.z t90.zero
    simp only [t90, Rep, Reps]
    exact ⟨_, rfl, _, _, rfl, (by trivial), _, _, rfl, (.inl ⟨by trivial, none, 0, by trivial, by intros; rfl⟩), _, _, rfl, (by trivial), rfl⟩⟩⟩
theorem t91_ok : t91.ok Try.prog 91 := ⟨by kernel_rfl, by kernel_rfl, by kernel_rfl, ⟨_, Try.underlying91, rfl⟩, (fun h => by cases h), ⟨rfl, rfl, rfl, rfl, fun F h β => by
    show Rep F h β t91.z t91.zero
    simp only [t91, Rep, Reps]
    exact ⟨_, rfl, _, _, rfl, (by trivial), _, _, rfl, (.inl ⟨by trivial, none, 0, by trivial, by intros; rfl⟩), _, _, rfl, (by trivial), rfl⟩⟩⟩
theorem t94_ok : t94.ok Try.prog 94 := ⟨by kernel_rfl, by kernel_rfl, by kernel_rfl, Try.underlying94, (fun h => by cases h), ⟨rfl, rfl, rfl, rfl, fun F h β => by simp [t94, Rep, Reps]⟩⟩
theorem t95_ok : t95.ok Try.prog 95 := ⟨by kernel_rfl, by kernel_rfl, by kernel_rfl, ⟨_, Try.underlying95, rfl⟩, (fun h => by cases h), ⟨rfl, rfl, rfl, rfl, fun F h β => by
    show Rep F h β t95.z t95.zero
    simp only [t95, Rep, Reps]
    exact ⟨_, rfl, _, _, rfl, (by trivial), _, _, rfl, (.inl ⟨by trivial, none, 0, by trivial, by intros; rfl⟩), _, _, rfl, (by trivial), rfl⟩⟩⟩
theorem t96_ok : t96.ok Try.prog 96 := ⟨by kernel_rfl, by kernel_rfl, by kernel_rfl, ⟨_, Try.underlying96, rfl⟩, (fun h => by cases h), ⟨rfl, rfl, rfl, rfl, fun F h β => by
    show Rep F h β t96.z t96.zero
    simp only [t96, Rep, Reps]
    exact ⟨_, rfl, _, _, rfl, (by trivial), _, _, rfl, (.inl ⟨by trivial, none, 0, by trivial, by intros; rfl⟩), _, _, rfl, (by trivial), rfl⟩⟩⟩
theorem t102_ok : t102.ok Try.prog 102 := ⟨by kernel_rfl, by kernel_rfl, by kernel_rfl, Try.underlying102, (fun h => by cases h), ⟨rfl, rfl, rfl, rfl, fun F h β => by simp [t102, Rep, Reps]⟩⟩
theorem t105_ok : t105.ok Try.prog 105 := ⟨by kernel_rfl, by kernel_rfl, by kernel_rfl, Try.underlying105, (fun h => by cases h), ⟨rfl, rfl, rfl, rfl, fun F h β => by simp [t105, Rep, Reps]⟩⟩
theorem t111_ok : t111.ok Try.prog 111 := ⟨by kernel_rfl, by kernel_rfl, by kernel_rfl, Try.underlying111, (fun h => by cases h), ⟨rfl, rfl, rfl, rfl, fun F h β => by simp [t111, Rep, Reps]⟩⟩
theorem t114_ok : t114.ok Try.prog 114 := ⟨by kernel_rfl, by kernel_rfl, by kernel_rfl, Try.underlying114, (fun h => by cases h), ⟨rfl, rfl, rfl, rfl, fun F h β => by simp [t114, Rep, Reps]⟩⟩
theorem t118_ok : t118.ok Try.prog 118 := ⟨by kernel_rfl, by kernel_rfl, by kernel_rfl, Try.underlying118, (fun h => by cases h), ⟨rfl, rfl, rfl, rfl, fun F h β => by simp [t118, Rep, Reps]⟩⟩
theorem t121_ok : t121.ok Try.prog 121 := ⟨by kernel_rfl, by kernel_rfl, by kernel_rfl, Try.underlying121, (fun h => by cases h), ⟨rfl, rfl, rfl, rfl, fun F h β => by simp [t121, Rep, Reps]⟩⟩
theorem t127_ok : t127.ok Try.prog 127 := ⟨by kernel_rfl, by kernel_rfl, by kernel_rfl, Try.underlying127, (fun h => by cases h), ⟨rfl, rfl, rfl, rfl, fun F h β => by simp [t127, Rep, Reps]⟩⟩
theorem t128_ok : t128.ok Try.prog 128 := ⟨by kernel_rfl, by kernel_rfl, by kernel_rfl, Try.underlying128, (fun h => by cases h), ⟨rfl, rfl, rfl, rfl, fun F h β => by simp [t128, Rep, Reps]⟩⟩
theorem t134_ok : t134.ok Try.prog 134 := ⟨by kernel_rfl, by kernel_rfl, by kernel_rfl, ⟨_, _, _, Try.underlying134⟩, (fun h => by cases h), ⟨rfl, rfl, rfl, rfl, fun F h β => by simp [t134, Rep, Reps]⟩⟩
theorem t135_ok : t135.ok Try.prog 135 := ⟨by kernel_rfl, by kernel_rfl, by kernel_rfl, Try.underlying135, (fun h => by cases h), ⟨rfl, rfl, rfl, rfl, fun F h β => by simp [t135, Rep, Reps]⟩⟩
theorem t136_ok : t136.ok Try.prog 136 := ⟨by kernel_rfl, by kernel_rfl, by kernel_rfl, ⟨_, Try.underlying136, rfl⟩, (fun _ => eqInts_of (by kernel_rfl) (by kernel_rfl) (by kernel_rfl)), ⟨rfl, rfl, rfl, rfl, fun F h β => by simp [t136, Rep, Reps]⟩⟩
theorem t137_ok : t137.ok Try.prog 137 := ⟨by kernel_rfl, by kernel_rfl, by kernel_rfl, ⟨_, Try.underlying137, rfl⟩, (fun _ => eqInts_of (by kernel_rfl) (by kernel_rfl) (by kernel_rfl)), ⟨rfl, rfl, rfl, rfl, fun F h β => by simp [t137, Rep, Reps]⟩⟩
theorem t139_ok : t139.ok Try.prog 139 := ⟨by kernel_rfl, by kernel_rfl, by kernel_rfl, ⟨_, Try.underlying139, rfl⟩, (fun _ => eqInts_of (by kernel_rfl) (by kernel_rfl) (by kernel_rfl)), ⟨rfl, rfl, rfl, rfl, fun F h β => by simp [t139, Rep, Reps]⟩⟩
theorem t141_ok : t141.ok Try.prog 141 := ⟨by kernel_rfl, by kernel_rfl, by kernel_rfl, Try.underlying141, (fun h => by cases h), ⟨rfl, rfl, rfl, rfl, fun F h β => by simp [t141, Rep, Reps]⟩⟩
theorem t146_ok : t146.ok Try.prog 146 := ⟨by kernel_rfl, by kernel_rfl, by kernel_rfl, ⟨_, Try.underlying146, rfl⟩, (fun _ => eqInts_of (by kernel_rfl) (by kernel_rfl) (by kernel_rfl)), ⟨rfl, rfl, rfl, rfl, fun F h β => by simp [t146, Rep, Reps]⟩⟩
theorem t147_ok : t147.ok Try.prog 147 := ⟨by kernel_rfl, by kernel_rfl, by kernel_rfl, ⟨_, Try.underlying147, rfl⟩, (fun _ => eqInts_of (by kernel_rfl) (by kernel_rfl) (by kernel_rfl)), ⟨rfl, rfl, rfl, rfl, fun F h β => by simp [t147, Rep, Reps]⟩⟩
theorem t149_ok : t149.ok Try.prog 149 := ⟨by kernel_rfl, by kernel_rfl, by kernel_rfl, ⟨_, Try.underlying149, rfl⟩, (fun _ => eqInts_of (by kernel_rfl) (by kernel_rfl) (by kernel_rfl)), ⟨rfl, rfl, rfl, rfl, fun F h β => by simp [t149, Rep, Reps]⟩⟩
theorem t150_ok : t150.ok Try.prog 150 := ⟨by kernel_rfl, by kernel_rfl, by kernel_rfl, ⟨_, _, _, Try.underlying150⟩, (fun h => by cases h), ⟨rfl, rfl, rfl, rfl, fun F h β => by simp [t150, Rep, Reps]⟩⟩
theorem t151_ok : t151.ok Try.prog 151 := ⟨by kernel_rfl, by kernel_rfl, by kernel_rfl, ⟨_, Try.underlying151, rfl⟩, (fun h => by cases h), ⟨rfl, rfl, rfl, rfl, fun F h β => by
    show Rep F h β t151.z t151.zero
    simp only [t151, Rep, Reps]
    exact ⟨_, rfl, _, _, rfl, (.inl ⟨by trivial, none, 0, by trivial, by intros; rfl⟩), _, _, rfl, (by trivial), rfl⟩⟩⟩
theorem t152_ok : t152.ok Try.prog 152 := ⟨by kernel_rfl, by kernel_rfl, by kernel_rfl, ⟨_, Try.underlying152, rfl⟩, (fun h => by cases h), ⟨rfl, rfl, rfl, rfl, fun F h β => by
    show Rep F h β t152.z t152.zero
    simp only [t152, Rep, Reps]
    exact ⟨_, rfl, _, _, rfl, (.inl ⟨by trivial, none, 0, by trivial, by intros; rfl⟩), _, _, rfl, (by trivial), rfl⟩⟩⟩
theorem t160_ok : t160.ok Try.prog 160 := ⟨by kernel_rfl, by kernel_rfl, by kernel_rfl, ⟨_, Try.underlying160, rfl⟩, (fun _ => eqInts_of (by kernel_rfl) (by kernel_rfl) (by kernel_rfl)), ⟨rfl, rfl, rfl, rfl, fun F h β => by simp [t160, Rep, Reps]⟩⟩
theorem t161_ok : t161.ok Try.prog 161 := ⟨by kernel_rfl, by kernel_rfl, by kernel_rfl, ⟨_, Try.underlying161, rfl⟩, (fun _ => eqInts_of (by kernel_rfl) (by kernel_rfl) (by kernel_rfl)), ⟨rfl, rfl, rfl, rfl, fun F h β => by simp [t161, Rep, Reps]⟩⟩
theorem t163_ok : t163.ok Try.prog 163 := ⟨by kernel_rfl, by kernel_rfl, by kernel_rfl, ⟨_, Try.underlying163, rfl⟩, (fun _ => eqInts_of (by kernel_rfl) (by kernel_rfl) (by kernel_rfl)), ⟨rfl, rfl, rfl, rfl, fun F h β => by simp [t163, Rep, Reps]⟩⟩
theorem t169_ok : t169.ok Try.prog 169 := ⟨by kernel_rfl, by kernel_rfl, by kernel_rfl, ⟨_, Try.underlying169, rfl⟩, (fun _ => eqInts_of (by kernel_rfl) (by kernel_rfl) (by kernel_rfl)), ⟨rfl, rfl, rfl, rfl, fun F h β => by simp [t169, Rep, Reps]⟩⟩
theorem t170_ok : t170.ok Try.prog 170 := ⟨by kernel_rfl, by kernel_rfl, by kernel_rfl, ⟨_, Try.underlying170, rfl⟩, (fun _ => eqInts_of (by kernel_rfl) (by kernel_rfl) (by kernel_rfl)), ⟨rfl, rfl, rfl, rfl, fun F h β => by simp [t170, Rep, Reps]⟩⟩
theorem t172_ok : t172.ok Try.prog 172 := ⟨by kernel_rfl, by kernel_rfl, by kernel_rfl, ⟨_, Try.underlying172, rfl⟩, (fun _ => eqInts_of (by kernel_rfl) (by kernel_rfl) (by kernel_rfl)), ⟨rfl, rfl, rfl, rfl, fun F h β => by simp [t172, Rep, Reps]⟩⟩
theorem t178_ok : t178.ok Try.prog 178 := ⟨by kernel_rfl, by kernel_rfl, by kernel_rfl, Try.underlying178, (fun h => by cases h), ⟨rfl, rfl, rfl, rfl, fun F h β => by simp [t178, Rep, Reps]⟩⟩
theorem t183_ok : t183.ok Try.prog 183 := ⟨by kernel_rfl, by kernel_rfl, by kernel_rfl, ⟨_, Try.underlying183, rfl⟩, (fun _ => eqInts_of (by kernel_rfl) (by kernel_rfl) (by kernel_rfl)), ⟨rfl, rfl, rfl, rfl, fun F h β => by simp [t183, Rep, Reps]⟩⟩
theorem t184_ok : t184.ok Try.prog 184 := ⟨by kernel_rfl, by kernel_rfl, by kernel_rfl, ⟨_, Try.underlying184, rfl⟩, (fun _ => eqInts_of (by kernel_rfl) (by kernel_rfl) (by kernel_rfl)), ⟨rfl, rfl, rfl, rfl, fun F h β => by simp [t184, Rep, Reps]⟩⟩
theorem t187_ok : t187.ok Try.prog 187 := ⟨by kernel_rfl, by kernel_rfl, by kernel_rfl, ⟨_, Try.underlying187, rfl⟩, (fun _ => eqInts_of (by kernel_rfl) (by kernel_rfl) (by kernel_rfl)), ⟨rfl, rfl, rfl, rfl, fun F h β => by simp [t187, Rep, Reps]⟩⟩
theorem t188_ok : t188.ok Try.prog 188 := ⟨by kernel_rfl, by kernel_rfl, by kernel_rfl, ⟨_, Try.underlying188, rfl⟩, (fun _ => eqInts_of (by kernel_rfl) (by kernel_rfl) (by kernel_rfl)), ⟨rfl, rfl, rfl, rfl, fun F h β => by simp [t188, Rep, Reps]⟩⟩
theorem t190_ok : t190.ok Try.prog 190 := ⟨by kernel_rfl, by kernel_rfl, by kernel_rfl, ⟨_, Try.underlying190, rfl⟩, (fun _ => eqInts_of (by kernel_rfl) (by kernel_rfl) (by kernel_rfl)), ⟨rfl, rfl, rfl, rfl, fun F h β => by simp [t190, Rep, Reps]⟩⟩
theorem t195_ok : t195.ok Try.prog 195 := ⟨by kernel_rfl, by kernel_rfl, by kernel_rfl, ⟨_, Try.underlying195, rfl⟩, (fun _ => eqInts_of (by kernel_rfl) (by kernel_rfl) (by kernel_rfl)), ⟨rfl, rfl, rfl, rfl, fun F h β => by simp [t195, Rep, Reps]⟩⟩
theorem t196_ok : t196.ok Try.prog 196 := ⟨by kernel_rfl, by kernel_rfl, by kernel_rfl, ⟨_, Try.underlying196, rfl⟩, (fun _ => eqInts_of (by kernel_rfl) (by kernel_rfl) (by kernel_rfl)), ⟨rfl, rfl, rfl, rfl, fun F h β => by simp [t196, Rep, Reps]⟩⟩
theorem t198_ok : t198.ok Try.prog 198 := ⟨by kernel_rfl, by kernel_rfl, by kernel_rfl, ⟨_, Try.underlying198, rfl⟩, (fun _ => eqInts_of (by kernel_rfl) (by kernel_rfl) (by kernel_rfl)), ⟨rfl, rfl, rfl, rfl, fun F h β => by simp [t198, Rep, Reps]⟩⟩
theorem t203_ok : t203.ok Try.prog 203 := ⟨by kernel_rfl, by kernel_rfl, by kernel_rfl, Try.underlying203, (fun h => by cases h), ⟨rfl, rfl, rfl, rfl, fun F h β => by simp [t203, Rep, Reps]⟩⟩
theorem t205_ok : t205.ok Try.prog 205 := ⟨by kernel_rfl, by kernel_rfl, by kernel_rfl, ⟨_, Try.underlying205, rfl⟩, (fun _ => eqInts_of (by kernel_rfl) (by kernel_rfl) (by kernel_rfl)), ⟨rfl, rfl, rfl, rfl, fun F h β => by simp [t205, Rep, Reps]⟩⟩
theorem t206_ok : t206.ok Try.prog 206 := ⟨by kernel_rfl, by kernel_rfl, by kernel_rfl, ⟨_, Try.underlying206, rfl⟩, (fun _ => eqInts_of (by kernel_rfl) (by kernel_rfl) (by kernel_rfl)), ⟨rfl, rfl, rfl, rfl, fun F h β => by simp [t206, Rep, Reps]⟩⟩
theorem t210_ok : t210.ok Try.prog 210 := ⟨by kernel_rfl, by kernel_rfl, by kernel_rfl, Try.underlying210, (fun h => by cases h), ⟨rfl, rfl, rfl, rfl, fun F h β => by simp [t210, Rep, Reps]⟩⟩
theorem t214_ok : t214.ok Try.prog 214 := ⟨by kernel_rfl, by kernel_rfl, by kernel_rfl, ⟨_, Try.underlying214, rfl⟩, (fun _ => eqInts_of (by kernel_rfl) (by kernel_rfl) (by kernel_rfl)), ⟨rfl, rfl, rfl, rfl, fun F h β => by simp [t214, Rep, Reps]⟩⟩
theorem t215_ok : t215.ok Try.prog 215 := ⟨by kernel_rfl, by kernel_rfl, by kernel_rfl, ⟨_, Try.underlying215, rfl⟩, (fun _ => eqInts_of (by kernel_rfl) (by kernel_rfl) (by kernel_rfl)), ⟨rfl, rfl, rfl, rfl, fun F h β => by simp [t215, Rep, Reps]⟩⟩
theorem t217_ok : t217.ok Try.prog 217 := ⟨by kernel_rfl, by kernel_rfl, by kernel_rfl, ⟨_, Try.underlying217, rfl⟩, (fun _ => eqInts_of (by kernel_rfl) (by kernel_rfl) (by kernel_rfl)), ⟨rfl, rfl, rfl, rfl, fun F h β => by simp [t217, Rep, Reps]⟩⟩
theorem t220_ok : t220.ok Try.prog 220 := ⟨by kernel_rfl, by kernel_rfl, by kernel_rfl, ⟨_, _, _, Try.underlying220⟩, (fun h => by cases h), ⟨rfl, rfl, rfl, rfl, fun F h β => by simp [t220, Rep, Reps]⟩⟩
theorem t221_ok : t221.ok Try.prog 221 := ⟨by kernel_rfl, by kernel_rfl, by kernel_rfl, ⟨_, Try.underlying221, rfl⟩, (fun h => by cases h), ⟨rfl, rfl, rfl, rfl, fun F h β => by
    show Rep F h β t221.z t221.zero
    simp only [t221, Rep, Reps]
    exact ⟨_, rfl, _, _, rfl, (.inl ⟨by trivial, none, 0, by trivial, by intros; rfl⟩), _, _, rfl, (by trivial), rfl⟩⟩⟩
theorem t222_ok : t222.ok Try.prog 222 := ⟨by kernel_rfl, by kernel_rfl, by kernel_rfl, ⟨_, Try.underlying222, rfl⟩, (fun h => by cases h), ⟨rfl, rfl, rfl, rfl, fun F h β => by
    show Rep F h β t222.z t222.zero
    simp only [t222, Rep, Reps]
    exact ⟨_, rfl, _, _, rfl, (.inl ⟨by trivial, none, 0, by trivial, by intros; rfl⟩), _, _, rfl, (by trivial), rfl⟩⟩⟩
theorem t225_ok : t225.ok Try.prog 225 := ⟨by kernel_rfl, by kernel_rfl, by kernel_rfl, Try.underlying225, (fun h => by cases h), ⟨rfl, rfl, rfl, rfl, fun F h β => by simp [t225, Rep, Reps]⟩⟩
theorem t228_ok : t228.ok Try.prog 228 := ⟨by kernel_rfl, by kernel_rfl, by kernel_rfl, Try.underlying228, (fun h => by cases h), ⟨rfl, rfl, rfl, rfl, fun F h β => by simp [t228, Rep, Reps]⟩⟩
theorem t230_ok : t230.ok Try.prog 230 := ⟨by kernel_rfl, by kernel_rfl, by kernel_rfl, ⟨_, _, _, Try.underlying230⟩, (fun h => by cases h), ⟨rfl, rfl, rfl, rfl, fun F h β => by simp [t230, Rep, Reps]⟩⟩
theorem t231_ok : t231.ok Try.prog 231 := ⟨by kernel_rfl, by kernel_rfl, by kernel_rfl, ⟨_, Try.underlying231, rfl⟩, (fun h => by cases h), ⟨rfl, rfl, rfl, rfl, fun F h β => by
    show Rep F h β t231.z t231.zero
    simp only [t231, Rep, Reps]
    exact ⟨_, rfl, _, _, rfl, (.inl ⟨by trivial, none, 0, by trivial, by intros; rfl⟩), _, _, rfl, (by trivial), rfl⟩⟩⟩
theorem t232_ok : t232.ok Try.prog 232 := ⟨by kernel_rfl, by kernel_rfl, by kernel_rfl, ⟨_, Try.underlying232, rfl⟩, (fun h => by cases h), ⟨rfl, rfl, rfl, rfl, fun F h β => by
    show Rep F h β t232.z t232.zero
    simp only [t232, Rep, Reps]
    exact ⟨_, rfl, _, _, rfl, (.inl ⟨by trivial, none, 0, by trivial, by intros; rfl⟩), _, _, rfl, (by trivial), rfl⟩⟩⟩
theorem t245_ok : t245.ok Try.prog 245 := ⟨by kernel_rfl, by kernel_rfl, by kernel_rfl, Try.underlying245, (fun h => by cases h), ⟨rfl, rfl, rfl, rfl, fun F h β => by simp [t245, Rep, Reps]⟩⟩
theorem t248_ok : t248.ok Try.prog 248 := ⟨by kernel_rfl, by kernel_rfl, by kernel_rfl, ⟨_, _, _, Try.underlying248⟩, (fun h => by cases h), ⟨rfl, rfl, rfl, rfl, fun F h β => by simp [t248, Rep, Reps]⟩⟩
theorem t249_ok : t249.ok Try.prog 249 := ⟨by kernel_rfl, by kernel_rfl, by kernel_rfl, Try.underlying249, (fun h => by cases h), ⟨rfl, rfl, rfl, rfl, fun F h β => by simp [t249, Rep, Reps]⟩⟩
theorem t252_ok : t252.ok Try.prog 252 := ⟨by kernel_rfl, by kernel_rfl, by kernel_rfl, ⟨_, Try.underlying252, rfl⟩, (fun h => by cases h), ⟨rfl, rfl, rfl, rfl, fun F h β => by simp [t252, Rep, Reps]⟩⟩
def G : Ctx := [(2, t2), (3, t3), (4, t4), (5, t5), (9, t9), (12, t12), (20, t20), (21, t21), (22, t22), (23, t23), (25, t25), (28, t28), (32, t32), (33, t33), (36, t36), (40, t40), (41, t41), (42, t42), (43, t43), (44, t44), (47, t47), (50, t50), (54, t54), (64, t64), (67, t67), (73, t73), (76, t76), (82, t82), (85, t85), (89, t89), (90, t90), (91, t91), (94, t94), (95, t95), (96, t96), (102, t102), (105, t105), (111, t111), (114, t114), (118, t118), (121, t121), (127, t127), (128, t128), (134, t134), (135, t135), (136, t136), (137, t137), (139, t139), (141, t141), (146, t146), (147, t147), (149, t149), (150, t150), (151, t151), (152, t152), (160, t160), (161, t161), (163, t163), (169, t169), (170, t170), (172, t172), (178, t178), (183, t183), (184, t184), (187, t187), (188, t188), (190, t190), (195, t195), (196, t196), (198, t198), (203, t203), (205, t205), (206, t206), (210, t210), (214, t214), (215, t215), (217, t217), (220, t220), (221, t221), (222, t222), (225, t225), (228, t228), (230, t230), (231, t231), (232, t232), (245, t245), (248, t248), (249, t249), (252, t252)]
@[simp] theorem G_2 : G.get 2 = some t2 := rfl
@[simp] theorem G_3 : G.get 3 = some t3 := rfl
@[simp] theorem G_4 : G.get 4 = some t4 := rfl
@[simp] theorem G_5 : G.get 5 = some t5 := rfl
@[simp] theorem G_9 : G.get 9 = some t9 := rfl
@[simp] theorem G_12 : G.get 12 = some t12 := rfl
@[simp] theorem G_20 : G.get 20 = some t20 := rfl
@[simp] theorem G_21 : G.get 21 = some t21 := rfl
@[simp] theorem G_22 : G.get 22 = some t22 := rfl
@[simp] theorem G_23 : G.get 23 = some t23 := rfl
@[simp] theorem G_25 : G.get 25 = some t25 := rfl
@[simp] theorem G_28 : G.get 28 = some t28 := rfl
@[simp] theorem G_32 : G.get 32 = some t32 := rfl
@[simp] theorem G_33 : G.get 33 = some t33 := rfl
@[simp] theorem G_36 : G.get 36 = some t36 := rfl
@[simp] theorem G_40 : G.get 40 = some t40 := rfl
@[simp] theorem G_41 : G.get 41 = some t41 := rfl
@[simp] theorem G_42 : G.get 42 = some t42 := rfl
@[simp] theorem G_43 : G.get 43 = some t43 := rfl
@[simp] theorem G_44 : G.get 44 = some t44 := rfl
@[simp] theorem G_47 : G.get 47 = some t47 := rfl
@[simp] theorem G_50 : G.get 50 = some t50 := rfl
@[simp] theorem G_54 : G.get 54 = some t54 := rfl
@[simp] theorem G_64 : G.get 64 = some t64 := rfl
@[simp] theorem G_67 : G.get 67 = some t67 := rfl
@[simp] theorem G_73 : G.get 73 = some t73 := rfl
@[simp] theorem G_76 : G.get 76 = some t76 := rfl
@[simp] theorem G_82 : G.get 82 = some t82 := rfl
@[simp] theorem G_85 : G.get 85 = some t85 := rfl
@[simp] theorem G_89 : G.get 89 = some t89 := rfl
@[simp] theorem G_90 : G.get 90 = some t90 := rfl
@[simp] theorem G_91 : G.get 91 = some t91 := rfl
@[simp] theorem G_94 : G.get 94 = some t94 := rfl
@[simp] theorem G_95 : G.get 95 = some t95 := rfl
@[simp] theorem G_96 : G.get 96 = some t96 := rfl
@[simp] theorem G_102 : G.get 102 = some t102 := rfl
@[simp] theorem G_105 : G.get 105 = some t105 := rfl
@[simp] theorem G_111 : G.get 111 = some t111 := rfl
@[simp] theorem G_114 : G.get 114 = some t114 := rfl
@[simp] theorem G_118 : G.get 118 = some t118 := rfl
@[simp] theorem G_121 : G.get 121 = some t121 := rfl
@[simp] theorem G_127 : G.get 127 = some t127 := rfl
@[simp] theorem G_128 : G.get 128 = some t128 := rfl
@[simp] theorem G_134 : G.get 134 = some t134 := rfl
@[simp] theorem G_135 : G.get 135 = some t135 := rfl
@[simp] theorem G_136 : G.get 136 = some t136 := rfl
@[simp] theorem G_137 : G.get 137 = some t137 := rfl
@[simp] theorem G_139 : G.get 139 = some t139 := rfl
@[simp] theorem G_141 : G.get 141 = some t141 := rfl
@[simp] theorem G_146 : G.get 146 = some t146 := rfl
@[simp] theorem G_147 : G.get 147 = some t147 := rfl
@[simp] theorem G_149 : G.get 149 = some t149 := rfl
@[simp] theorem G_150 : G.get 150 = some t150 := rfl
@[simp] theorem G_151 : G.get 151 = some t151 := rfl
@[simp] theorem G_152 : G.get 152 = some t152 := rfl
@[simp] theorem G_160 : G.get 160 = some t160 := rfl
@[simp] theorem G_161 : G.get 161 = some t161 := rfl
@[simp] theorem G_163 : G.get 163 = some t163 := rfl
@[simp] theorem G_169 : G.get 169 = some t169 := rfl
@[simp] theorem G_170 : G.get 170 = some t170 := rfl
@[simp] theorem G_172 : G.get 172 = some t172 := rfl
@[simp] theorem G_178 : G.get 178 = some t178 := rfl
@[simp] theorem G_183 : G.get 183 = some t183 := rfl
@[simp] theorem G_184 : G.get 184 = some t184 := rfl
@[simp] theorem G_187 : G.get 187 = some t187 := rfl
@[simp] theorem G_188 : G.get 188 = some t188 := rfl
@[simp] theorem G_190 : G.get 190 = some t190 := rfl
@[simp] theorem G_195 : G.get 195 = some t195 := rfl
@[simp] theorem G_196 : G.get 196 = some t196 := rfl
@[simp] theorem G_198 : G.get 198 = some t198 := rfl
@[simp] theorem G_203 : G.get 203 = some t203 := rfl
@[simp] theorem G_205 : G.get 205 = some t205 := rfl
@[simp] theorem G_206 : G.get 206 = some t206 := rfl
@[simp] theorem G_210 : G.get 210 = some t210 := rfl
@[simp] theorem G_214 : G.get 214 = some t214 := rfl
@[simp] theorem G_215 : G.get 215 = some t215 := rfl
@[simp] theorem G_217 : G.get 217 = some t217 := rfl
@[simp] theorem G_220 : G.get 220 = some t220 := rfl
@[simp] theorem G_221 : G.get 221 = some t221 := rfl
@[simp] theorem G_222 : G.get 222 = some t222 := rfl
@[simp] theorem G_225 : G.get 225 = some t225 := rfl
@[simp] theorem G_228 : G.get 228 = some t228 := rfl
@[simp] theorem G_230 : G.get 230 = some t230 := rfl
@[simp] theorem G_231 : G.get 231 = some t231 := rfl
@[simp] theorem G_232 : G.get 232 = some t232 := rfl
@[simp] theorem G_245 : G.get 245 = some t245 := rfl
@[simp] theorem G_248 : G.get 248 = some t248 := rfl
@[simp] theorem G_249 : G.get 249 = some t249 := rfl
@[simp] theorem G_252 : G.get 252 = some t252 := rfl
theorem G_ok : G.ok Try.prog := by
  intro p hp
  simp only [G, List.mem_cons, List.not_mem_nil, or_false] at hp
  rcases hp with rfl | rfl | rfl | rfl | rfl | rfl | rfl | rfl | rfl | rfl | rfl | rfl | rfl | rfl | rfl | rfl | rfl | rfl | rfl | rfl | rfl | rfl | rfl | rfl | rfl | rfl | rfl | rfl | rfl | rfl | rfl | rfl | rfl | rfl | rfl | rfl | rfl | rfl | rfl | rfl | rfl | rfl | rfl | rfl | rfl | rfl | rfl | rfl | rfl | rfl | rfl | rfl | rfl | rfl | rfl | rfl | rfl | rfl | rfl | rfl | rfl | rfl | rfl | rfl | rfl | rfl | rfl | rfl | rfl | rfl | rfl | rfl | rfl | rfl | rfl | rfl | rfl | rfl | rfl | rfl | rfl | rfl | rfl | rfl | rfl | rfl | rfl | rfl | rfl
  · exact t2_ok
  · exact t3_ok
  · exact t4_ok
  · exact t5_ok
  · exact t9_ok
  · exact t12_ok
  · exact t20_ok
  · exact t21_ok
  · exact t22_ok
  · exact t23_ok
  · exact t25_ok
  · exact t28_ok
  · exact t32_ok
  · exact t33_ok
  · exact t36_ok
  · exact t40_ok
  · exact t41_ok
  · exact t42_ok
  · exact t43_ok
  · exact t44_ok
  · exact t47_ok
  · exact t50_ok
  · exact t54_ok
  · exact t64_ok
  · exact t67_ok
  · exact t73_ok
  · exact t76_ok
  · exact t82_ok
  · exact t85_ok
  · exact t89_ok
  · exact t90_ok
  · exact t91_ok
  · exact t94_ok
  · exact t95_ok
  · exact t96_ok
  · exact t102_ok
  · exact t105_ok
  · exact t111_ok
  · exact t114_ok
  · exact t118_ok
  · exact t121_ok
  · exact t127_ok
  · exact t128_ok
  · exact t134_ok
  · exact t135_ok
  · exact t136_ok
  · exact t137_ok
  · exact t139_ok
  · exact t141_ok
  · exact t146_ok
  · exact t147_ok
  · exact t149_ok
  · exact t150_ok
  · exact t151_ok
  · exact t152_ok
  · exact t160_ok
  · exact t161_ok
  · exact t163_ok
  · exact t169_ok
  · exact t170_ok
  · exact t172_ok
  · exact t178_ok
  · exact t183_ok
  · exact t184_ok
  · exact t187_ok
  · exact t188_ok
  · exact t190_ok
  · exact t195_ok
  · exact t196_ok
  · exact t198_ok
  · exact t203_ok
  · exact t205_ok
  · exact t206_ok
  · exact t210_ok
  · exact t214_ok
  · exact t215_ok
  · exact t217_ok
  · exact t220_ok
  · exact t221_ok
  · exact t222_ok
  · exact t225_ok
  · exact t228_ok
  · exact t230_ok
  · exact t231_ok
  · exact t232_ok
  · exact t245_ok
  · exact t248_ok
  · exact t249_ok
  · exact t252_ok
theorem mix : Try.prog.follows .mixedOrders = true := by kernel_rfl
end Go.Proofs.Ytadipfpojlceeaa
