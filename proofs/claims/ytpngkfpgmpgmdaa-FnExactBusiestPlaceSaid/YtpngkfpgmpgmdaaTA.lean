/- What is known of the types of this program: their sizes, zero values and parts. -/
import Derived.Test.YtpngkfpgmpgmdaaProg
import Derived.Test.YtpngkfpgmpgmdaaTY
import Derived.KernelRfl
namespace Go.Proofs.Ytpngkfpgmpgmdaa
open Go Go.Eng
set_option linter.unusedSimpArgs false
set_option linter.unusedVariables false
set_option maxRecDepth 20000
/-- int64 -/
def t2 : TI := ⟨1, 8, .int .i64 0, .lit (.int .i64 0), .lit (.int .i64 0), .int .i64, false⟩
@[simp] theorem t2_size : t2.size = 1 := rfl
@[simp] theorem t2_bytes : t2.bytes = 8 := rfl
@[simp] theorem t2_z : t2.z = .lit (.int .i64 0) := rfl
@[simp] theorem t2_y : t2.y = .lit (.int .i64 0) := rfl
@[simp] theorem t2_kind : t2.kind = .int .i64 := rfl
@[simp] theorem t2_cmp : t2.cmp = false := rfl
/-- int -/
def t3 : TI := ⟨1, 8, .int .i64 0, .lit (.int .i64 0), .lit (.int .i64 0), .int .i64, false⟩
@[simp] theorem t3_size : t3.size = 1 := rfl
@[simp] theorem t3_bytes : t3.bytes = 8 := rfl
@[simp] theorem t3_z : t3.z = .lit (.int .i64 0) := rfl
@[simp] theorem t3_y : t3.y = .lit (.int .i64 0) := rfl
@[simp] theorem t3_kind : t3.kind = .int .i64 := rfl
@[simp] theorem t3_cmp : t3.cmp = false := rfl
/-- bool -/
def t4 : TI := ⟨1, 1, .bool false, .lit (.bool false), .lit (.bool false), .bool, false⟩
@[simp] theorem t4_size : t4.size = 1 := rfl
@[simp] theorem t4_bytes : t4.bytes = 1 := rfl
@[simp] theorem t4_z : t4.z = .lit (.bool false) := rfl
@[simp] theorem t4_y : t4.y = .lit (.bool false) := rfl
@[simp] theorem t4_kind : t4.kind = .bool := rfl
@[simp] theorem t4_cmp : t4.cmp = false := rfl
/-- uint8 -/
def t5 : TI := ⟨1, 1, .int .u8 0, .lit (.int .u8 0), .lit (.int .u8 0), .int .u8, false⟩
@[simp] theorem t5_size : t5.size = 1 := rfl
@[simp] theorem t5_bytes : t5.bytes = 1 := rfl
@[simp] theorem t5_z : t5.z = .lit (.int .u8 0) := rfl
@[simp] theorem t5_y : t5.y = .lit (.int .u8 0) := rfl
@[simp] theorem t5_kind : t5.kind = .int .u8 := rfl
@[simp] theorem t5_cmp : t5.cmp = false := rfl
/-- string -/
def t9 : TI := ⟨1, 16, .string ⟨#[]⟩, .lit (.string ⟨#[]⟩), .lit (.string ⟨#[]⟩), .str, false⟩
@[simp] theorem t9_size : t9.size = 1 := rfl
@[simp] theorem t9_bytes : t9.bytes = 16 := rfl
@[simp] theorem t9_z : t9.z = .lit (.string ⟨#[]⟩) := rfl
@[simp] theorem t9_y : t9.y = .lit (.string ⟨#[]⟩) := rfl
@[simp] theorem t9_kind : t9.kind = .str := rfl
@[simp] theorem t9_cmp : t9.cmp = false := rfl
/-- uintptr -/
def t12 : TI := ⟨1, 8, .int .u64 0, .lit (.int .u64 0), .lit (.int .u64 0), .int .u64, false⟩
@[simp] theorem t12_size : t12.size = 1 := rfl
@[simp] theorem t12_bytes : t12.bytes = 8 := rfl
@[simp] theorem t12_z : t12.z = .lit (.int .u64 0) := rfl
@[simp] theorem t12_y : t12.y = .lit (.int .u64 0) := rfl
@[simp] theorem t12_kind : t12.kind = .int .u64 := rfl
@[simp] theorem t12_cmp : t12.cmp = false := rfl
/-- interface {} -/
def t20 : TI := ⟨1, 16, .nilIface, .lit .nilIface, .lit .nilIface, .iface, false⟩
@[simp] theorem t20_size : t20.size = 1 := rfl
@[simp] theorem t20_bytes : t20.bytes = 16 := rfl
@[simp] theorem t20_z : t20.z = .lit .nilIface := rfl
@[simp] theorem t20_y : t20.y = .lit .nilIface := rfl
@[simp] theorem t20_kind : t20.kind = .iface := rfl
@[simp] theorem t20_cmp : t20.cmp = false := rfl
/-- int32 -/
def t21 : TI := ⟨1, 4, .int .i32 0, .lit (.int .i32 0), .lit (.int .i32 0), .int .i32, false⟩
@[simp] theorem t21_size : t21.size = 1 := rfl
@[simp] theorem t21_bytes : t21.bytes = 4 := rfl
@[simp] theorem t21_z : t21.z = .lit (.int .i32 0) := rfl
@[simp] theorem t21_y : t21.y = .lit (.int .i32 0) := rfl
@[simp] theorem t21_kind : t21.kind = .int .i32 := rfl
@[simp] theorem t21_cmp : t21.cmp = false := rfl
/-- []laws.Find -/
def t22 : TI := ⟨1, 24, .slice none 0 0, .sl true 0 .any [], yLTFind, .slice 39, false⟩
@[simp] theorem t22_size : t22.size = 1 := rfl
@[simp] theorem t22_bytes : t22.bytes = 24 := rfl
@[simp] theorem t22_z : t22.z = .sl true 0 .any [] := rfl
@[simp] theorem t22_y : t22.y = yLTFind := rfl
@[simp] theorem t22_kind : t22.kind = .slice 39 := rfl
@[simp] theorem t22_cmp : t22.cmp = false := rfl
/-- []impl.Find -/
def t25 : TI := ⟨1, 24, .slice none 0 0, .sl true 0 .any [], yLTFind, .slice 35, false⟩
@[simp] theorem t25_size : t25.size = 1 := rfl
@[simp] theorem t25_bytes : t25.bytes = 24 := rfl
@[simp] theorem t25_z : t25.z = .sl true 0 .any [] := rfl
@[simp] theorem t25_y : t25.y = yLTFind := rfl
@[simp] theorem t25_kind : t25.kind = .slice 35 := rfl
@[simp] theorem t25_cmp : t25.cmp = false := rfl
/-- []int -/
def t30 : TI := ⟨1, 24, .slice none 0 0, .sl true 0 .any [], yLI, .slice 3, false⟩
@[simp] theorem t30_size : t30.size = 1 := rfl
@[simp] theorem t30_bytes : t30.bytes = 24 := rfl
@[simp] theorem t30_z : t30.z = .sl true 0 .any [] := rfl
@[simp] theorem t30_y : t30.y = yLI := rfl
@[simp] theorem t30_kind : t30.kind = .slice 3 := rfl
@[simp] theorem t30_cmp : t30.cmp = false := rfl
/-- struct { Id int; Kind int; Colour int; Size int; Worth int } -/
def t32 : TI := ⟨5, 40, .agg #[.int .i64 0, .int .i64 0, .int .i64 0, .int .i64 0, .int .i64 0], .agg [.lit (.int .i64 0), .lit (.int .i64 0), .lit (.int .i64 0), .lit (.int .i64 0), .lit (.int .i64 0)], yTThing, .st [(0, 3), (1, 3), (2, 3), (3, 3), (4, 3)], true⟩
@[simp] theorem t32_size : t32.size = 5 := rfl
@[simp] theorem t32_bytes : t32.bytes = 40 := rfl
@[simp] theorem t32_z : t32.z = .agg [.lit (.int .i64 0), .lit (.int .i64 0), .lit (.int .i64 0), .lit (.int .i64 0), .lit (.int .i64 0)] := rfl
@[simp] theorem t32_y : t32.y = yTThing := rfl
@[simp] theorem t32_kind : t32.kind = .st [(0, 3), (1, 3), (2, 3), (3, 3), (4, 3)] := rfl
@[simp] theorem t32_cmp : t32.cmp = true := rfl
/-- impl.Thing = loop.example/g03007/impl.Thing -/
def t33 : TI := ⟨5, 40, .agg #[.int .i64 0, .int .i64 0, .int .i64 0, .int .i64 0, .int .i64 0], .agg [.lit (.int .i64 0), .lit (.int .i64 0), .lit (.int .i64 0), .lit (.int .i64 0), .lit (.int .i64 0)], yTThing, .st [(0, 3), (1, 3), (2, 3), (3, 3), (4, 3)], true⟩
@[simp] theorem t33_size : t33.size = 5 := rfl
@[simp] theorem t33_bytes : t33.bytes = 40 := rfl
@[simp] theorem t33_z : t33.z = .agg [.lit (.int .i64 0), .lit (.int .i64 0), .lit (.int .i64 0), .lit (.int .i64 0), .lit (.int .i64 0)] := rfl
@[simp] theorem t33_y : t33.y = yTThing := rfl
@[simp] theorem t33_kind : t33.kind = .st [(0, 3), (1, 3), (2, 3), (3, 3), (4, 3)] := rfl
@[simp] theorem t33_cmp : t33.cmp = true := rfl
/-- struct { Thing impl.Thing; Place int; At int; Finder int } -/
def t34 : TI := ⟨8, 64, .agg #[.int .i64 0, .int .i64 0, .int .i64 0, .int .i64 0, .int .i64 0, .int .i64 0, .int .i64 0, .int .i64 0], .agg [.lit (.int .i64 0), .lit (.int .i64 0), .lit (.int .i64 0), .lit (.int .i64 0), .lit (.int .i64 0), .lit (.int .i64 0), .lit (.int .i64 0), .lit (.int .i64 0)], yTFind, .st [(0, 33), (5, 3), (6, 3), (7, 3)], true⟩
@[simp] theorem t34_size : t34.size = 8 := rfl
@[simp] theorem t34_bytes : t34.bytes = 64 := rfl
@[simp] theorem t34_z : t34.z = .agg [.lit (.int .i64 0), .lit (.int .i64 0), .lit (.int .i64 0), .lit (.int .i64 0), .lit (.int .i64 0), .lit (.int .i64 0), .lit (.int .i64 0), .lit (.int .i64 0)] := rfl
@[simp] theorem t34_y : t34.y = yTFind := rfl
@[simp] theorem t34_kind : t34.kind = .st [(0, 33), (5, 3), (6, 3), (7, 3)] := rfl
@[simp] theorem t34_cmp : t34.cmp = true := rfl
/-- impl.Find = loop.example/g03007/impl.Find -/
def t35 : TI := ⟨8, 64, .agg #[.int .i64 0, .int .i64 0, .int .i64 0, .int .i64 0, .int .i64 0, .int .i64 0, .int .i64 0, .int .i64 0], .agg [.lit (.int .i64 0), .lit (.int .i64 0), .lit (.int .i64 0), .lit (.int .i64 0), .lit (.int .i64 0), .lit (.int .i64 0), .lit (.int .i64 0), .lit (.int .i64 0)], yTFind, .st [(0, 33), (5, 3), (6, 3), (7, 3)], true⟩
@[simp] theorem t35_size : t35.size = 8 := rfl
@[simp] theorem t35_bytes : t35.bytes = 64 := rfl
@[simp] theorem t35_z : t35.z = .agg [.lit (.int .i64 0), .lit (.int .i64 0), .lit (.int .i64 0), .lit (.int .i64 0), .lit (.int .i64 0), .lit (.int .i64 0), .lit (.int .i64 0), .lit (.int .i64 0)] := rfl
@[simp] theorem t35_y : t35.y = yTFind := rfl
@[simp] theorem t35_kind : t35.kind = .st [(0, 33), (5, 3), (6, 3), (7, 3)] := rfl
@[simp] theorem t35_cmp : t35.cmp = true := rfl
/-- laws.Thing = loop.example/g03007/laws.Thing -/
def t37 : TI := ⟨5, 40, .agg #[.int .i64 0, .int .i64 0, .int .i64 0, .int .i64 0, .int .i64 0], .agg [.lit (.int .i64 0), .lit (.int .i64 0), .lit (.int .i64 0), .lit (.int .i64 0), .lit (.int .i64 0)], yTThing, .st [(0, 3), (1, 3), (2, 3), (3, 3), (4, 3)], true⟩
@[simp] theorem t37_size : t37.size = 5 := rfl
@[simp] theorem t37_bytes : t37.bytes = 40 := rfl
@[simp] theorem t37_z : t37.z = .agg [.lit (.int .i64 0), .lit (.int .i64 0), .lit (.int .i64 0), .lit (.int .i64 0), .lit (.int .i64 0)] := rfl
@[simp] theorem t37_y : t37.y = yTThing := rfl
@[simp] theorem t37_kind : t37.kind = .st [(0, 3), (1, 3), (2, 3), (3, 3), (4, 3)] := rfl
@[simp] theorem t37_cmp : t37.cmp = true := rfl
/-- struct { Thing laws.Thing; Place int; At int; Finder int } -/
def t38 : TI := ⟨8, 64, .agg #[.int .i64 0, .int .i64 0, .int .i64 0, .int .i64 0, .int .i64 0, .int .i64 0, .int .i64 0, .int .i64 0], .agg [.lit (.int .i64 0), .lit (.int .i64 0), .lit (.int .i64 0), .lit (.int .i64 0), .lit (.int .i64 0), .lit (.int .i64 0), .lit (.int .i64 0), .lit (.int .i64 0)], yTFind, .st [(0, 37), (5, 3), (6, 3), (7, 3)], true⟩
@[simp] theorem t38_size : t38.size = 8 := rfl
@[simp] theorem t38_bytes : t38.bytes = 64 := rfl
@[simp] theorem t38_z : t38.z = .agg [.lit (.int .i64 0), .lit (.int .i64 0), .lit (.int .i64 0), .lit (.int .i64 0), .lit (.int .i64 0), .lit (.int .i64 0), .lit (.int .i64 0), .lit (.int .i64 0)] := rfl
@[simp] theorem t38_y : t38.y = yTFind := rfl
@[simp] theorem t38_kind : t38.kind = .st [(0, 37), (5, 3), (6, 3), (7, 3)] := rfl
@[simp] theorem t38_cmp : t38.cmp = true := rfl
/-- laws.Find = loop.example/g03007/laws.Find -/
def t39 : TI := ⟨8, 64, .agg #[.int .i64 0, .int .i64 0, .int .i64 0, .int .i64 0, .int .i64 0, .int .i64 0, .int .i64 0, .int .i64 0], .agg [.lit (.int .i64 0), .lit (.int .i64 0), .lit (.int .i64 0), .lit (.int .i64 0), .lit (.int .i64 0), .lit (.int .i64 0), .lit (.int .i64 0), .lit (.int .i64 0)], yTFind, .st [(0, 37), (5, 3), (6, 3), (7, 3)], true⟩
@[simp] theorem t39_size : t39.size = 8 := rfl
@[simp] theorem t39_bytes : t39.bytes = 64 := rfl
@[simp] theorem t39_z : t39.z = .agg [.lit (.int .i64 0), .lit (.int .i64 0), .lit (.int .i64 0), .lit (.int .i64 0), .lit (.int .i64 0), .lit (.int .i64 0), .lit (.int .i64 0), .lit (.int .i64 0)] := rfl
@[simp] theorem t39_y : t39.y = yTFind := rfl
@[simp] theorem t39_kind : t39.kind = .st [(0, 37), (5, 3), (6, 3), (7, 3)] := rfl
@[simp] theorem t39_cmp : t39.cmp = true := rfl
/-- struct { number int; count int } -/
def t40 : TI := ⟨2, 16, .agg #[.int .i64 0, .int .i64 0], .agg [.lit (.int .i64 0), .lit (.int .i64 0)], yTPeak, .st [(0, 3), (1, 3)], true⟩
@[simp] theorem t40_size : t40.size = 2 := rfl
@[simp] theorem t40_bytes : t40.bytes = 16 := rfl
@[simp] theorem t40_z : t40.z = .agg [.lit (.int .i64 0), .lit (.int .i64 0)] := rfl
@[simp] theorem t40_y : t40.y = yTPeak := rfl
@[simp] theorem t40_kind : t40.kind = .st [(0, 3), (1, 3)] := rfl
@[simp] theorem t40_cmp : t40.cmp = true := rfl
/-- impl.peak = loop.example/g03007/impl.peak -/
def t41 : TI := ⟨2, 16, .agg #[.int .i64 0, .int .i64 0], .agg [.lit (.int .i64 0), .lit (.int .i64 0)], yTPeak, .st [(0, 3), (1, 3)], true⟩
@[simp] theorem t41_size : t41.size = 2 := rfl
@[simp] theorem t41_bytes : t41.bytes = 16 := rfl
@[simp] theorem t41_z : t41.z = .agg [.lit (.int .i64 0), .lit (.int .i64 0)] := rfl
@[simp] theorem t41_y : t41.y = yTPeak := rfl
@[simp] theorem t41_kind : t41.kind = .st [(0, 3), (1, 3)] := rfl
@[simp] theorem t41_cmp : t41.cmp = true := rfl
/-- func(impl.Find) bool -/
def t44 : TI := ⟨1, 8, .nilFunc, .lit .nilFunc, .lit .nilFunc, .func, false⟩
@[simp] theorem t44_size : t44.size = 1 := rfl
@[simp] theorem t44_bytes : t44.bytes = 8 := rfl
@[simp] theorem t44_z : t44.z = .lit .nilFunc := rfl
@[simp] theorem t44_y : t44.y = .lit .nilFunc := rfl
@[simp] theorem t44_kind : t44.kind = .func := rfl
@[simp] theorem t44_cmp : t44.cmp = false := rfl
/-- func(impl.Find) int -/
def t47 : TI := ⟨1, 8, .nilFunc, .lit .nilFunc, .lit .nilFunc, .func, false⟩
@[simp] theorem t47_size : t47.size = 1 := rfl
@[simp] theorem t47_bytes : t47.bytes = 8 := rfl
@[simp] theorem t47_z : t47.z = .lit .nilFunc := rfl
@[simp] theorem t47_y : t47.y = .lit .nilFunc := rfl
@[simp] theorem t47_kind : t47.kind = .func := rfl
@[simp] theorem t47_cmp : t47.cmp = false := rfl
/-- struct { items []impl.Find; numberOf func(impl.Find) int } -/
def t48 : TI := ⟨2, 32, .agg #[.slice none 0 0, .nilFunc], .agg [.sl true 0 .any [], .lit .nilFunc], .any, .st [(0, 25), (1, 47)], false⟩
@[simp] theorem t48_size : t48.size = 2 := rfl
@[simp] theorem t48_bytes : t48.bytes = 32 := rfl
@[simp] theorem t48_z : t48.z = .agg [.sl true 0 .any [], .lit .nilFunc] := rfl
@[simp] theorem t48_y : t48.y = .any := rfl
@[simp] theorem t48_kind : t48.kind = .st [(0, 25), (1, 47)] := rfl
@[simp] theorem t48_cmp : t48.cmp = false := rfl
/-- impl.sortedList[loop.example/g03007/impl.Find] = loop.example/g03007/impl.sortedList[loop.example/g03007/impl.Find] -/
def t49 : TI := ⟨2, 32, .agg #[.slice none 0 0, .nilFunc], .agg [.sl true 0 .any [], .lit .nilFunc], .any, .st [(0, 25), (1, 47)], false⟩
@[simp] theorem t49_size : t49.size = 2 := rfl
@[simp] theorem t49_bytes : t49.bytes = 32 := rfl
@[simp] theorem t49_z : t49.z = .agg [.sl true 0 .any [], .lit .nilFunc] := rfl
@[simp] theorem t49_y : t49.y = .any := rfl
@[simp] theorem t49_kind : t49.kind = .st [(0, 25), (1, 47)] := rfl
@[simp] theorem t49_cmp : t49.cmp = false := rfl
/-- *impl.peak -/
def t52 : TI := ⟨1, 8, .pointer none, .lit (.pointer none), .lit (.pointer none), .ptr 41, false⟩
@[simp] theorem t52_size : t52.size = 1 := rfl
@[simp] theorem t52_bytes : t52.bytes = 8 := rfl
@[simp] theorem t52_z : t52.z = .lit (.pointer none) := rfl
@[simp] theorem t52_y : t52.y = .lit (.pointer none) := rfl
@[simp] theorem t52_kind : t52.kind = .ptr 41 := rfl
@[simp] theorem t52_cmp : t52.cmp = false := rfl
/-- [4]func(impl.Find) bool -/
def t56 : TI := ⟨4, 32, .agg #[.nilFunc, .nilFunc, .nilFunc, .nilFunc], .agg [.lit .nilFunc, .lit .nilFunc, .lit .nilFunc, .lit .nilFunc], .any, .arr 4 44, false⟩
@[simp] theorem t56_size : t56.size = 4 := rfl
@[simp] theorem t56_bytes : t56.bytes = 32 := rfl
@[simp] theorem t56_z : t56.z = .agg [.lit .nilFunc, .lit .nilFunc, .lit .nilFunc, .lit .nilFunc] := rfl
@[simp] theorem t56_y : t56.y = .any := rfl
@[simp] theorem t56_kind : t56.kind = .arr 4 44 := rfl
@[simp] theorem t56_cmp : t56.cmp = false := rfl
/-- uint32 -/
def t71 : TI := ⟨1, 4, .int .u32 0, .lit (.int .u32 0), .lit (.int .u32 0), .int .u32, false⟩
@[simp] theorem t71_size : t71.size = 1 := rfl
@[simp] theorem t71_bytes : t71.bytes = 4 := rfl
@[simp] theorem t71_z : t71.z = .lit (.int .u32 0) := rfl
@[simp] theorem t71_y : t71.y = .lit (.int .u32 0) := rfl
@[simp] theorem t71_kind : t71.kind = .int .u32 := rfl
@[simp] theorem t71_cmp : t71.cmp = false := rfl
/-- func(unsafe.Pointer, unsafe.Pointer) bool -/
def t74 : TI := ⟨1, 8, .nilFunc, .lit .nilFunc, .lit .nilFunc, .func, false⟩
@[simp] theorem t74_size : t74.size = 1 := rfl
@[simp] theorem t74_bytes : t74.bytes = 8 := rfl
@[simp] theorem t74_z : t74.z = .lit .nilFunc := rfl
@[simp] theorem t74_y : t74.y = .lit .nilFunc := rfl
@[simp] theorem t74_kind : t74.kind = .func := rfl
@[simp] theorem t74_cmp : t74.cmp = false := rfl
/-- *uint8 -/
def t75 : TI := ⟨1, 8, .pointer none, .lit (.pointer none), .lit (.pointer none), .ptr 5, false⟩
@[simp] theorem t75_size : t75.size = 1 := rfl
@[simp] theorem t75_bytes : t75.bytes = 8 := rfl
@[simp] theorem t75_z : t75.z = .lit (.pointer none) := rfl
@[simp] theorem t75_y : t75.y = .lit (.pointer none) := rfl
@[simp] theorem t75_kind : t75.kind = .ptr 5 := rfl
@[simp] theorem t75_cmp : t75.cmp = false := rfl
/-- struct { Size_ uintptr; PtrBytes uintptr; Hash uint32; TFlag abi.TFlag; Align_ uint8; FieldAlign_ uint8; Kind_ abi.Kind; Equal func(unsafe.Pointer, unsafe.Pointer) bool; GCData *uint8; Str abi.NameOff; PtrToThis abi.TypeOff } -/
def t78 : TI := ⟨11, 48, .agg #[.int .u64 0, .int .u64 0, .int .u32 0, .int .u8 0, .int .u8 0, .int .u8 0, .int .u8 0, .nilFunc, .pointer none, .int .i32 0, .int .i32 0], .agg [.lit (.int .u64 0), .lit (.int .u64 0), .lit (.int .u32 0), .lit (.int .u8 0), .lit (.int .u8 0), .lit (.int .u8 0), .lit (.int .u8 0), .lit .nilFunc, .lit (.pointer none), .lit (.int .i32 0), .lit (.int .i32 0)], .any, .st [(0, 12), (1, 12), (2, 71), (3, 72), (4, 5), (5, 5), (6, 73), (7, 74), (8, 75), (9, 76), (10, 77)], false⟩
@[simp] theorem t78_size : t78.size = 11 := rfl
@[simp] theorem t78_bytes : t78.bytes = 48 := rfl
@[simp] theorem t78_z : t78.z = .agg [.lit (.int .u64 0), .lit (.int .u64 0), .lit (.int .u32 0), .lit (.int .u8 0), .lit (.int .u8 0), .lit (.int .u8 0), .lit (.int .u8 0), .lit .nilFunc, .lit (.pointer none), .lit (.int .i32 0), .lit (.int .i32 0)] := rfl
@[simp] theorem t78_y : t78.y = .any := rfl
@[simp] theorem t78_kind : t78.kind = .st [(0, 12), (1, 12), (2, 71), (3, 72), (4, 5), (5, 5), (6, 73), (7, 74), (8, 75), (9, 76), (10, 77)] := rfl
@[simp] theorem t78_cmp : t78.cmp = false := rfl
/-- struct { kind int; colour int; size int; place int } -/
def t83 : TI := ⟨4, 32, .agg #[.int .i64 0, .int .i64 0, .int .i64 0, .int .i64 0], .agg [.lit (.int .i64 0), .lit (.int .i64 0), .lit (.int .i64 0), .lit (.int .i64 0)], .any, .st [(0, 3), (1, 3), (2, 3), (3, 3)], true⟩
@[simp] theorem t83_size : t83.size = 4 := rfl
@[simp] theorem t83_bytes : t83.bytes = 32 := rfl
@[simp] theorem t83_z : t83.z = .agg [.lit (.int .i64 0), .lit (.int .i64 0), .lit (.int .i64 0), .lit (.int .i64 0)] := rfl
@[simp] theorem t83_y : t83.y = .any := rfl
@[simp] theorem t83_kind : t83.kind = .st [(0, 3), (1, 3), (2, 3), (3, 3)] := rfl
@[simp] theorem t83_cmp : t83.cmp = true := rfl
theorem t2_ok : t2.ok Try.prog 2 := ⟨by kernel_rfl, by kernel_rfl, by kernel_rfl, Try.underlying2, (fun h => by cases h), ⟨rfl, rfl, rfl, rfl, fun F h β => by simp [t2, Rep, Reps]⟩⟩
theorem t3_ok : t3.ok Try.prog 3 := ⟨by kernel_rfl, by kernel_rfl, by kernel_rfl, Try.underlying3, (fun h => by cases h), ⟨rfl, rfl, rfl, rfl, fun F h β => by simp [t3, Rep, Reps]⟩⟩
theorem t4_ok : t4.ok Try.prog 4 := ⟨by kernel_rfl, by kernel_rfl, by kernel_rfl, Try.underlying4, (fun h => by cases h), ⟨rfl, rfl, rfl, rfl, fun F h β => by simp [t4, Rep, Reps]⟩⟩
theorem t5_ok : t5.ok Try.prog 5 := ⟨by kernel_rfl, by kernel_rfl, by kernel_rfl, Try.underlying5, (fun h => by cases h), ⟨rfl, rfl, rfl, rfl, fun F h β => by simp [t5, Rep, Reps]⟩⟩
theorem t9_ok : t9.ok Try.prog 9 := ⟨by kernel_rfl, by kernel_rfl, by kernel_rfl, Try.underlying9, (fun h => by cases h), ⟨rfl, rfl, rfl, rfl, fun F h β => by simp [t9, Rep, Reps]⟩⟩
theorem t12_ok : t12.ok Try.prog 12 := ⟨by kernel_rfl, by kernel_rfl, by kernel_rfl, Try.underlying12, (fun h => by cases h), ⟨rfl, rfl, rfl, rfl, fun F h β => by simp [t12, Rep, Reps]⟩⟩
theorem t20_ok : t20.ok Try.prog 20 := ⟨by kernel_rfl, by kernel_rfl, by kernel_rfl, ⟨_, Try.underlying20⟩, (fun h => by cases h), ⟨rfl, rfl, rfl, rfl, fun F h β => by simp [t20, Rep, Reps]⟩⟩
theorem t21_ok : t21.ok Try.prog 21 := ⟨by kernel_rfl, by kernel_rfl, by kernel_rfl, Try.underlying21, (fun h => by cases h), ⟨rfl, rfl, rfl, rfl, fun F h β => by simp [t21, Rep, Reps]⟩⟩
theorem t22_ok : t22.ok Try.prog 22 := ⟨by kernel_rfl, by kernel_rfl, by kernel_rfl, Try.underlying22, (fun h => by cases h), ⟨rfl, rfl, rfl, rfl, fun F h β => by simp [t22, Rep, Reps]⟩⟩
theorem t25_ok : t25.ok Try.prog 25 := ⟨by kernel_rfl, by kernel_rfl, by kernel_rfl, Try.underlying25, (fun h => by cases h), ⟨rfl, rfl, rfl, rfl, fun F h β => by simp [t25, Rep, Reps]⟩⟩
theorem t30_ok : t30.ok Try.prog 30 := ⟨by kernel_rfl, by kernel_rfl, by kernel_rfl, Try.underlying30, (fun h => by cases h), ⟨rfl, rfl, rfl, rfl, fun F h β => by simp [t30, Rep, Reps]⟩⟩
theorem t32_ok : t32.ok Try.prog 32 := ⟨by kernel_rfl, by kernel_rfl, by kernel_rfl, ⟨_, Try.underlying32, rfl⟩, (fun _ => eqInts_of (by kernel_rfl) (by kernel_rfl) (by kernel_rfl)), ⟨rfl, rfl, rfl, rfl, fun F h β => by simp [t32, Rep, Reps]⟩⟩
theorem t33_ok : t33.ok Try.prog 33 := ⟨by kernel_rfl, by kernel_rfl, by kernel_rfl, ⟨_, Try.underlying33, rfl⟩, (fun _ => eqInts_of (by kernel_rfl) (by kernel_rfl) (by kernel_rfl)), ⟨rfl, rfl, rfl, rfl, fun F h β => by simp [t33, Rep, Reps]⟩⟩
theorem t34_ok : t34.ok Try.prog 34 := ⟨by kernel_rfl, by kernel_rfl, by kernel_rfl, ⟨_, Try.underlying34, rfl⟩, (fun _ => eqInts_of (by kernel_rfl) (by kernel_rfl) (by kernel_rfl)), ⟨rfl, rfl, rfl, rfl, fun F h β => by simp [t34, Rep, Reps]⟩⟩
theorem t35_ok : t35.ok Try.prog 35 := ⟨by kernel_rfl, by kernel_rfl, by kernel_rfl, ⟨_, Try.underlying35, rfl⟩, (fun _ => eqInts_of (by kernel_rfl) (by kernel_rfl) (by kernel_rfl)), ⟨rfl, rfl, rfl, rfl, fun F h β => by simp [t35, Rep, Reps]⟩⟩
theorem t37_ok : t37.ok Try.prog 37 := ⟨by kernel_rfl, by kernel_rfl, by kernel_rfl, ⟨_, Try.underlying37, rfl⟩, (fun _ => eqInts_of (by kernel_rfl) (by kernel_rfl) (by kernel_rfl)), ⟨rfl, rfl, rfl, rfl, fun F h β => by simp [t37, Rep, Reps]⟩⟩
theorem t38_ok : t38.ok Try.prog 38 := ⟨by kernel_rfl, by kernel_rfl, by kernel_rfl, ⟨_, Try.underlying38, rfl⟩, (fun _ => eqInts_of (by kernel_rfl) (by kernel_rfl) (by kernel_rfl)), ⟨rfl, rfl, rfl, rfl, fun F h β => by simp [t38, Rep, Reps]⟩⟩
theorem t39_ok : t39.ok Try.prog 39 := ⟨by kernel_rfl, by kernel_rfl, by kernel_rfl, ⟨_, Try.underlying39, rfl⟩, (fun _ => eqInts_of (by kernel_rfl) (by kernel_rfl) (by kernel_rfl)), ⟨rfl, rfl, rfl, rfl, fun F h β => by simp [t39, Rep, Reps]⟩⟩
theorem t40_ok : t40.ok Try.prog 40 := ⟨by kernel_rfl, by kernel_rfl, by kernel_rfl, ⟨_, Try.underlying40, rfl⟩, (fun _ => eqInts_of (by kernel_rfl) (by kernel_rfl) (by kernel_rfl)), ⟨rfl, rfl, rfl, rfl, fun F h β => by simp [t40, Rep, Reps]⟩⟩
theorem t41_ok : t41.ok Try.prog 41 := ⟨by kernel_rfl, by kernel_rfl, by kernel_rfl, ⟨_, Try.underlying41, rfl⟩, (fun _ => eqInts_of (by kernel_rfl) (by kernel_rfl) (by kernel_rfl)), ⟨rfl, rfl, rfl, rfl, fun F h β => by simp [t41, Rep, Reps]⟩⟩
theorem t44_ok : t44.ok Try.prog 44 := ⟨by kernel_rfl, by kernel_rfl, by kernel_rfl, ⟨_, _, _, Try.underlying44⟩, (fun h => by cases h), ⟨rfl, rfl, rfl, rfl, fun F h β => by simp [t44, Rep, Reps]⟩⟩
theorem t47_ok : t47.ok Try.prog 47 := ⟨by kernel_rfl, by kernel_rfl, by kernel_rfl, ⟨_, _, _, Try.underlying47⟩, (fun h => by cases h), ⟨rfl, rfl, rfl, rfl, fun F h β => by simp [t47, Rep, Reps]⟩⟩
theorem t48_ok : t48.ok Try.prog 48 := ⟨by kernel_rfl, by kernel_rfl, by kernel_rfl, ⟨_, Try.underlying48, rfl⟩, (fun h => by cases h), ⟨rfl, rfl, rfl, rfl, fun F h β => by
    show Rep F h β t48.z t48.zero
    simp only [t48, Rep, Reps]
    exact ⟨_, rfl, _, _, rfl, (.inl ⟨by trivial, none, 0, by trivial, by intros; rfl⟩), _, _, rfl, (by trivial), rfl⟩⟩⟩
theorem t49_ok : t49.ok Try.prog 49 := ⟨by kernel_rfl, by kernel_rfl, by kernel_rfl, ⟨_, Try.underlying49, rfl⟩, (fun h => by cases h), ⟨rfl, rfl, rfl, rfl, fun F h β => by
    show Rep F h β t49.z t49.zero
    simp only [t49, Rep, Reps]
    exact ⟨_, rfl, _, _, rfl, (.inl ⟨by trivial, none, 0, by trivial, by intros; rfl⟩), _, _, rfl, (by trivial), rfl⟩⟩⟩
theorem t52_ok : t52.ok Try.prog 52 := ⟨by kernel_rfl, by kernel_rfl, by kernel_rfl, Try.underlying52, (fun h => by cases h), ⟨rfl, rfl, rfl, rfl, fun F h β => by simp [t52, Rep, Reps]⟩⟩
theorem t56_ok : t56.ok Try.prog 56 := ⟨by kernel_rfl, by kernel_rfl, by kernel_rfl, Try.underlying56, (fun h => by cases h), ⟨rfl, rfl, rfl, rfl, fun F h β => by simp [t56, Rep, Reps]⟩⟩
theorem t71_ok : t71.ok Try.prog 71 := ⟨by kernel_rfl, by kernel_rfl, by kernel_rfl, Try.underlying71, (fun h => by cases h), ⟨rfl, rfl, rfl, rfl, fun F h β => by simp [t71, Rep, Reps]⟩⟩
theorem t74_ok : t74.ok Try.prog 74 := ⟨by kernel_rfl, by kernel_rfl, by kernel_rfl, ⟨_, _, _, Try.underlying74⟩, (fun h => by cases h), ⟨rfl, rfl, rfl, rfl, fun F h β => by simp [t74, Rep, Reps]⟩⟩
theorem t75_ok : t75.ok Try.prog 75 := ⟨by kernel_rfl, by kernel_rfl, by kernel_rfl, Try.underlying75, (fun h => by cases h), ⟨rfl, rfl, rfl, rfl, fun F h β => by simp [t75, Rep, Reps]⟩⟩
theorem t78_ok : t78.ok Try.prog 78 := ⟨by kernel_rfl, by kernel_rfl, by kernel_rfl, ⟨_, Try.underlying78, rfl⟩, (fun h => by cases h), ⟨rfl, rfl, rfl, rfl, fun F h β => by simp [t78, Rep, Reps]⟩⟩
theorem t83_ok : t83.ok Try.prog 83 := ⟨by kernel_rfl, by kernel_rfl, by kernel_rfl, ⟨_, Try.underlying83, rfl⟩, (fun _ => eqInts_of (by kernel_rfl) (by kernel_rfl) (by kernel_rfl)), ⟨rfl, rfl, rfl, rfl, fun F h β => by simp [t83, Rep, Reps]⟩⟩
def G : Ctx := [(2, t2), (3, t3), (4, t4), (5, t5), (9, t9), (12, t12), (20, t20), (21, t21), (22, t22), (25, t25), (30, t30), (32, t32), (33, t33), (34, t34), (35, t35), (37, t37), (38, t38), (39, t39), (40, t40), (41, t41), (44, t44), (47, t47), (48, t48), (49, t49), (52, t52), (56, t56), (71, t71), (74, t74), (75, t75), (78, t78), (83, t83)]
@[simp] theorem G_2 : G.get 2 = some t2 := rfl
@[simp] theorem G_3 : G.get 3 = some t3 := rfl
@[simp] theorem G_4 : G.get 4 = some t4 := rfl
@[simp] theorem G_5 : G.get 5 = some t5 := rfl
@[simp] theorem G_9 : G.get 9 = some t9 := rfl
@[simp] theorem G_12 : G.get 12 = some t12 := rfl
@[simp] theorem G_20 : G.get 20 = some t20 := rfl
@[simp] theorem G_21 : G.get 21 = some t21 := rfl
@[simp] theorem G_22 : G.get 22 = some t22 := rfl
@[simp] theorem G_25 : G.get 25 = some t25 := rfl
@[simp] theorem G_30 : G.get 30 = some t30 := rfl
@[simp] theorem G_32 : G.get 32 = some t32 := rfl
@[simp] theorem G_33 : G.get 33 = some t33 := rfl
@[simp] theorem G_34 : G.get 34 = some t34 := rfl
@[simp] theorem G_35 : G.get 35 = some t35 := rfl
@[simp] theorem G_37 : G.get 37 = some t37 := rfl
@[simp] theorem G_38 : G.get 38 = some t38 := rfl
@[simp] theorem G_39 : G.get 39 = some t39 := rfl
@[simp] theorem G_40 : G.get 40 = some t40 := rfl
@[simp] theorem G_41 : G.get 41 = some t41 := rfl
@[simp] theorem G_44 : G.get 44 = some t44 := rfl
@[simp] theorem G_47 : G.get 47 = some t47 := rfl
@[simp] theorem G_48 : G.get 48 = some t48 := rfl
@[simp] theorem G_49 : G.get 49 = some t49 := rfl
@[simp] theorem G_52 : G.get 52 = some t52 := rfl
@[simp] theorem G_56 : G.get 56 = some t56 := rfl
@[simp] theorem G_71 : G.get 71 = some t71 := rfl
@[simp] theorem G_74 : G.get 74 = some t74 := rfl
@[simp] theorem G_75 : G.get 75 = some t75 := rfl
@[simp] theorem G_78 : G.get 78 = some t78 := rfl
@[simp] theorem G_83 : G.get 83 = some t83 := rfl
theorem G_ok : G.ok Try.prog := by
  intro p hp
  simp only [G, List.mem_cons, List.not_mem_nil, or_false] at hp
  rcases hp with rfl | rfl | rfl | rfl | rfl | rfl | rfl | rfl | rfl | rfl | rfl | rfl | rfl | rfl | rfl | rfl | rfl | rfl | rfl | rfl | rfl | rfl | rfl | rfl | rfl | rfl | rfl | rfl | rfl | rfl | rfl
  · exact t2_ok
  · exact t3_ok
  · exact t4_ok
  · exact t5_ok
  · exact t9_ok
  · exact t12_ok
  · exact t20_ok
  · exact t21_ok
  · exact t22_ok
  · exact t25_ok
  · exact t30_ok
  · exact t32_ok
  · exact t33_ok
  · exact t34_ok
  · exact t35_ok
  · exact t37_ok
  · exact t38_ok
  · exact t39_ok
  · exact t40_ok
  · exact t41_ok
  · exact t44_ok
  · exact t47_ok
  · exact t48_ok
  · exact t49_ok
  · exact t52_ok
  · exact t56_ok
  · exact t71_ok
  · exact t74_ok
  · exact t75_ok
  · exact t78_ok
  · exact t83_ok
theorem mix : Try.prog.follows .mixedOrders = true := by kernel_rfl
end Go.Proofs.Ytpngkfpgmpgmdaa
