/- What is known of the types of this program: their sizes, zero values and parts. -/
import Derived.Test.YtpnfkjbnhholfaaDoorProg
import Derived.Test.YtpnfkjbnhholfaaDoorTY
import Derived.KernelRfl
namespace Go.Proofs.YtpnfkjbnhholfaaDoor
open Go Go.Eng
set_option linter.unusedSimpArgs false
set_option linter.unusedVariables false
set_option maxRecDepth 20000
/-- int64 -/
def t2 : TI := ⟨1, 8, .int .i64 0, .lit (.int .i64 0), .lit (.int .i64 0), .int .i64, false⟩
@[simp] theorem t2_size : t2.size = 1 := rfl
@[simp] theorem t2_bytes : t2.bytes = 8 := rfl
@[simp] theorem t2_z : t2.z = .lit (.int .i64 0) := rfl
@[simp] theorem t2_y : t2.y = .lit (.int .i64 0) := rfl
@[simp] theorem t2_kind : t2.kind = .int .i64 := rfl
@[simp] theorem t2_cmp : t2.cmp = false := rfl
/-- int -/
def t3 : TI := ⟨1, 8, .int .i64 0, .lit (.int .i64 0), .lit (.int .i64 0), .int .i64, false⟩
@[simp] theorem t3_size : t3.size = 1 := rfl
@[simp] theorem t3_bytes : t3.bytes = 8 := rfl
@[simp] theorem t3_z : t3.z = .lit (.int .i64 0) := rfl
@[simp] theorem t3_y : t3.y = .lit (.int .i64 0) := rfl
@[simp] theorem t3_kind : t3.kind = .int .i64 := rfl
@[simp] theorem t3_cmp : t3.cmp = false := rfl
/-- bool -/
def t4 : TI := ⟨1, 1, .bool false, .lit (.bool false), .lit (.bool false), .bool, false⟩
@[simp] theorem t4_size : t4.size = 1 := rfl
@[simp] theorem t4_bytes : t4.bytes = 1 := rfl
@[simp] theorem t4_z : t4.z = .lit (.bool false) := rfl
@[simp] theorem t4_y : t4.y = .lit (.bool false) := rfl
@[simp] theorem t4_kind : t4.kind = .bool := rfl
@[simp] theorem t4_cmp : t4.cmp = false := rfl
/-- uint8 -/
def t5 : TI := ⟨1, 1, .int .u8 0, .lit (.int .u8 0), .lit (.int .u8 0), .int .u8, false⟩
@[simp] theorem t5_size : t5.size = 1 := rfl
@[simp] theorem t5_bytes : t5.bytes = 1 := rfl
@[simp] theorem t5_z : t5.z = .lit (.int .u8 0) := rfl
@[simp] theorem t5_y : t5.y = .lit (.int .u8 0) := rfl
@[simp] theorem t5_kind : t5.kind = .int .u8 := rfl
@[simp] theorem t5_cmp : t5.cmp = false := rfl
/-- string -/
def t9 : TI := ⟨1, 16, .string ⟨#[]⟩, .lit (.string ⟨#[]⟩), .lit (.string ⟨#[]⟩), .str, false⟩
@[simp] theorem t9_size : t9.size = 1 := rfl
@[simp] theorem t9_bytes : t9.bytes = 16 := rfl
@[simp] theorem t9_z : t9.z = .lit (.string ⟨#[]⟩) := rfl
@[simp] theorem t9_y : t9.y = .lit (.string ⟨#[]⟩) := rfl
@[simp] theorem t9_kind : t9.kind = .str := rfl
@[simp] theorem t9_cmp : t9.cmp = false := rfl
/-- uintptr -/
def t12 : TI := ⟨1, 8, .int .u64 0, .lit (.int .u64 0), .lit (.int .u64 0), .int .u64, false⟩
@[simp] theorem t12_size : t12.size = 1 := rfl
@[simp] theorem t12_bytes : t12.bytes = 8 := rfl
@[simp] theorem t12_z : t12.z = .lit (.int .u64 0) := rfl
@[simp] theorem t12_y : t12.y = .lit (.int .u64 0) := rfl
@[simp] theorem t12_kind : t12.kind = .int .u64 := rfl
@[simp] theorem t12_cmp : t12.cmp = false := rfl
/-- interface {} -/
def t20 : TI := ⟨1, 16, .nilIface, .lit .nilIface, .lit .nilIface, .iface, false⟩
@[simp] theorem t20_size : t20.size = 1 := rfl
@[simp] theorem t20_bytes : t20.bytes = 16 := rfl
@[simp] theorem t20_z : t20.z = .lit .nilIface := rfl
@[simp] theorem t20_y : t20.y = .lit .nilIface := rfl
@[simp] theorem t20_kind : t20.kind = .iface := rfl
@[simp] theorem t20_cmp : t20.cmp = false := rfl
/-- int32 -/
def t21 : TI := ⟨1, 4, .int .i32 0, .lit (.int .i32 0), .lit (.int .i32 0), .int .i32, false⟩
@[simp] theorem t21_size : t21.size = 1 := rfl
@[simp] theorem t21_bytes : t21.bytes = 4 := rfl
@[simp] theorem t21_z : t21.z = .lit (.int .i32 0) := rfl
@[simp] theorem t21_y : t21.y = .lit (.int .i32 0) := rfl
@[simp] theorem t21_kind : t21.kind = .int .i32 := rfl
@[simp] theorem t21_cmp : t21.cmp = false := rfl
/-- []uint8 -/
def t22 : TI := ⟨1, 24, .slice none 0 0, .sl true 0 .any [], yLU, .slice 5, false⟩
@[simp] theorem t22_size : t22.size = 1 := rfl
@[simp] theorem t22_bytes : t22.bytes = 24 := rfl
@[simp] theorem t22_z : t22.z = .sl true 0 .any [] := rfl
@[simp] theorem t22_y : t22.y = yLU := rfl
@[simp] theorem t22_kind : t22.kind = .slice 5 := rfl
@[simp] theorem t22_cmp : t22.cmp = false := rfl
/-- struct { Id int; Kind int; Colour int; Size int; Worth int } -/
def t24 : TI := ⟨5, 40, .agg #[.int .i64 0, .int .i64 0, .int .i64 0, .int .i64 0, .int .i64 0], .agg [.lit (.int .i64 0), .lit (.int .i64 0), .lit (.int .i64 0), .lit (.int .i64 0), .lit (.int .i64 0)], yTThing, .st [(0, 3), (1, 3), (2, 3), (3, 3), (4, 3)], true⟩
@[simp] theorem t24_size : t24.size = 5 := rfl
@[simp] theorem t24_bytes : t24.bytes = 40 := rfl
@[simp] theorem t24_z : t24.z = .agg [.lit (.int .i64 0), .lit (.int .i64 0), .lit (.int .i64 0), .lit (.int .i64 0), .lit (.int .i64 0)] := rfl
@[simp] theorem t24_y : t24.y = yTThing := rfl
@[simp] theorem t24_kind : t24.kind = .st [(0, 3), (1, 3), (2, 3), (3, 3), (4, 3)] := rfl
@[simp] theorem t24_cmp : t24.cmp = true := rfl
/-- impl.Thing = loop.example/g03007/impl.Thing -/
def t25 : TI := ⟨5, 40, .agg #[.int .i64 0, .int .i64 0, .int .i64 0, .int .i64 0, .int .i64 0], .agg [.lit (.int .i64 0), .lit (.int .i64 0), .lit (.int .i64 0), .lit (.int .i64 0), .lit (.int .i64 0)], yTThing, .st [(0, 3), (1, 3), (2, 3), (3, 3), (4, 3)], true⟩
@[simp] theorem t25_size : t25.size = 5 := rfl
@[simp] theorem t25_bytes : t25.bytes = 40 := rfl
@[simp] theorem t25_z : t25.z = .agg [.lit (.int .i64 0), .lit (.int .i64 0), .lit (.int .i64 0), .lit (.int .i64 0), .lit (.int .i64 0)] := rfl
@[simp] theorem t25_y : t25.y = yTThing := rfl
@[simp] theorem t25_kind : t25.kind = .st [(0, 3), (1, 3), (2, 3), (3, 3), (4, 3)] := rfl
@[simp] theorem t25_cmp : t25.cmp = true := rfl
/-- struct { Thing impl.Thing; Place int; At int; Finder int } -/
def t26 : TI := ⟨8, 64, .agg #[.int .i64 0, .int .i64 0, .int .i64 0, .int .i64 0, .int .i64 0, .int .i64 0, .int .i64 0, .int .i64 0], .agg [.lit (.int .i64 0), .lit (.int .i64 0), .lit (.int .i64 0), .lit (.int .i64 0), .lit (.int .i64 0), .lit (.int .i64 0), .lit (.int .i64 0), .lit (.int .i64 0)], yTFind, .st [(0, 25), (5, 3), (6, 3), (7, 3)], true⟩
@[simp] theorem t26_size : t26.size = 8 := rfl
@[simp] theorem t26_bytes : t26.bytes = 64 := rfl
@[simp] theorem t26_z : t26.z = .agg [.lit (.int .i64 0), .lit (.int .i64 0), .lit (.int .i64 0), .lit (.int .i64 0), .lit (.int .i64 0), .lit (.int .i64 0), .lit (.int .i64 0), .lit (.int .i64 0)] := rfl
@[simp] theorem t26_y : t26.y = yTFind := rfl
@[simp] theorem t26_kind : t26.kind = .st [(0, 25), (5, 3), (6, 3), (7, 3)] := rfl
@[simp] theorem t26_cmp : t26.cmp = true := rfl
/-- impl.Find = loop.example/g03007/impl.Find -/
def t27 : TI := ⟨8, 64, .agg #[.int .i64 0, .int .i64 0, .int .i64 0, .int .i64 0, .int .i64 0, .int .i64 0, .int .i64 0, .int .i64 0], .agg [.lit (.int .i64 0), .lit (.int .i64 0), .lit (.int .i64 0), .lit (.int .i64 0), .lit (.int .i64 0), .lit (.int .i64 0), .lit (.int .i64 0), .lit (.int .i64 0)], yTFind, .st [(0, 25), (5, 3), (6, 3), (7, 3)], true⟩
@[simp] theorem t27_size : t27.size = 8 := rfl
@[simp] theorem t27_bytes : t27.bytes = 64 := rfl
@[simp] theorem t27_z : t27.z = .agg [.lit (.int .i64 0), .lit (.int .i64 0), .lit (.int .i64 0), .lit (.int .i64 0), .lit (.int .i64 0), .lit (.int .i64 0), .lit (.int .i64 0), .lit (.int .i64 0)] := rfl
@[simp] theorem t27_y : t27.y = yTFind := rfl
@[simp] theorem t27_kind : t27.kind = .st [(0, 25), (5, 3), (6, 3), (7, 3)] := rfl
@[simp] theorem t27_cmp : t27.cmp = true := rfl
/-- func(impl.Find) int -/
def t30 : TI := ⟨1, 8, .nilFunc, .lit .nilFunc, .lit .nilFunc, .func, false⟩
@[simp] theorem t30_size : t30.size = 1 := rfl
@[simp] theorem t30_bytes : t30.bytes = 8 := rfl
@[simp] theorem t30_z : t30.z = .lit .nilFunc := rfl
@[simp] theorem t30_y : t30.y = .lit .nilFunc := rfl
@[simp] theorem t30_kind : t30.kind = .func := rfl
@[simp] theorem t30_cmp : t30.cmp = false := rfl
/-- func(impl.Find) bool -/
def t31 : TI := ⟨1, 8, .nilFunc, .lit .nilFunc, .lit .nilFunc, .func, false⟩
@[simp] theorem t31_size : t31.size = 1 := rfl
@[simp] theorem t31_bytes : t31.bytes = 8 := rfl
@[simp] theorem t31_z : t31.z = .lit .nilFunc := rfl
@[simp] theorem t31_y : t31.y = .lit .nilFunc := rfl
@[simp] theorem t31_kind : t31.kind = .func := rfl
@[simp] theorem t31_cmp : t31.cmp = false := rfl
/-- []impl.Find -/
def t35 : TI := ⟨1, 24, .slice none 0 0, .sl true 0 .any [], yLTFind, .slice 27, false⟩
@[simp] theorem t35_size : t35.size = 1 := rfl
@[simp] theorem t35_bytes : t35.bytes = 24 := rfl
@[simp] theorem t35_z : t35.z = .sl true 0 .any [] := rfl
@[simp] theorem t35_y : t35.y = yLTFind := rfl
@[simp] theorem t35_kind : t35.kind = .slice 27 := rfl
@[simp] theorem t35_cmp : t35.cmp = false := rfl
/-- []int -/
def t39 : TI := ⟨1, 24, .slice none 0 0, .sl true 0 .any [], yLI, .slice 3, false⟩
@[simp] theorem t39_size : t39.size = 1 := rfl
@[simp] theorem t39_bytes : t39.bytes = 24 := rfl
@[simp] theorem t39_z : t39.z = .sl true 0 .any [] := rfl
@[simp] theorem t39_y : t39.y = yLI := rfl
@[simp] theorem t39_kind : t39.kind = .slice 3 := rfl
@[simp] theorem t39_cmp : t39.cmp = false := rfl
/-- []impl.Claim -/
def t43 : TI := ⟨1, 24, .slice none 0 0, .sl true 0 .any [], yLTClaim, .slice 51, false⟩
@[simp] theorem t43_size : t43.size = 1 := rfl
@[simp] theorem t43_bytes : t43.bytes = 24 := rfl
@[simp] theorem t43_z : t43.z = .sl true 0 .any [] := rfl
@[simp] theorem t43_y : t43.y = yLTClaim := rfl
@[simp] theorem t43_kind : t43.kind = .slice 51 := rfl
@[simp] theorem t43_cmp : t43.cmp = false := rfl
/-- func(impl.Find, []impl.Claim, int) bool -/
def t49 : TI := ⟨1, 8, .nilFunc, .lit .nilFunc, .lit .nilFunc, .func, false⟩
@[simp] theorem t49_size : t49.size = 1 := rfl
@[simp] theorem t49_bytes : t49.bytes = 8 := rfl
@[simp] theorem t49_z : t49.z = .lit .nilFunc := rfl
@[simp] theorem t49_y : t49.y = .lit .nilFunc := rfl
@[simp] theorem t49_kind : t49.kind = .func := rfl
@[simp] theorem t49_cmp : t49.cmp = false := rfl
/-- struct { Id int; Who int; Thing int; At int; State int } -/
def t50 : TI := ⟨5, 40, .agg #[.int .i64 0, .int .i64 0, .int .i64 0, .int .i64 0, .int .i64 0], .agg [.lit (.int .i64 0), .lit (.int .i64 0), .lit (.int .i64 0), .lit (.int .i64 0), .lit (.int .i64 0)], yTClaim, .st [(0, 3), (1, 3), (2, 3), (3, 3), (4, 3)], true⟩
@[simp] theorem t50_size : t50.size = 5 := rfl
@[simp] theorem t50_bytes : t50.bytes = 40 := rfl
@[simp] theorem t50_z : t50.z = .agg [.lit (.int .i64 0), .lit (.int .i64 0), .lit (.int .i64 0), .lit (.int .i64 0), .lit (.int .i64 0)] := rfl
@[simp] theorem t50_y : t50.y = yTClaim := rfl
@[simp] theorem t50_kind : t50.kind = .st [(0, 3), (1, 3), (2, 3), (3, 3), (4, 3)] := rfl
@[simp] theorem t50_cmp : t50.cmp = true := rfl
/-- impl.Claim = loop.example/g03007/impl.Claim -/
def t51 : TI := ⟨5, 40, .agg #[.int .i64 0, .int .i64 0, .int .i64 0, .int .i64 0, .int .i64 0], .agg [.lit (.int .i64 0), .lit (.int .i64 0), .lit (.int .i64 0), .lit (.int .i64 0), .lit (.int .i64 0)], yTClaim, .st [(0, 3), (1, 3), (2, 3), (3, 3), (4, 3)], true⟩
@[simp] theorem t51_size : t51.size = 5 := rfl
@[simp] theorem t51_bytes : t51.bytes = 40 := rfl
@[simp] theorem t51_z : t51.z = .agg [.lit (.int .i64 0), .lit (.int .i64 0), .lit (.int .i64 0), .lit (.int .i64 0), .lit (.int .i64 0)] := rfl
@[simp] theorem t51_y : t51.y = yTClaim := rfl
@[simp] theorem t51_kind : t51.kind = .st [(0, 3), (1, 3), (2, 3), (3, 3), (4, 3)] := rfl
@[simp] theorem t51_cmp : t51.cmp = true := rfl
/-- *spec.l1Cur -/
def t56 : TI := ⟨1, 8, .pointer none, .lit (.pointer none), .lit (.pointer none), .ptr 89, false⟩
@[simp] theorem t56_size : t56.size = 1 := rfl
@[simp] theorem t56_bytes : t56.bytes = 8 := rfl
@[simp] theorem t56_z : t56.z = .lit (.pointer none) := rfl
@[simp] theorem t56_y : t56.y = .lit (.pointer none) := rfl
@[simp] theorem t56_kind : t56.kind = .ptr 89 := rfl
@[simp] theorem t56_cmp : t56.cmp = false := rfl
/-- [4]func(impl.Find) bool -/
def t60 : TI := ⟨4, 32, .agg #[.nilFunc, .nilFunc, .nilFunc, .nilFunc], .agg [.lit .nilFunc, .lit .nilFunc, .lit .nilFunc, .lit .nilFunc], .any, .arr 4 31, false⟩
@[simp] theorem t60_size : t60.size = 4 := rfl
@[simp] theorem t60_bytes : t60.bytes = 32 := rfl
@[simp] theorem t60_z : t60.z = .agg [.lit .nilFunc, .lit .nilFunc, .lit .nilFunc, .lit .nilFunc] := rfl
@[simp] theorem t60_y : t60.y = .any := rfl
@[simp] theorem t60_kind : t60.kind = .arr 4 31 := rfl
@[simp] theorem t60_cmp : t60.cmp = false := rfl
/-- [9]int -/
def t63 : TI := ⟨9, 72, .agg #[.int .i64 0, .int .i64 0, .int .i64 0, .int .i64 0, .int .i64 0, .int .i64 0, .int .i64 0, .int .i64 0, .int .i64 0], .agg [.lit (.int .i64 0), .lit (.int .i64 0), .lit (.int .i64 0), .lit (.int .i64 0), .lit (.int .i64 0), .lit (.int .i64 0), .lit (.int .i64 0), .lit (.int .i64 0), .lit (.int .i64 0)], .any, .arr 9 3, false⟩
@[simp] theorem t63_size : t63.size = 9 := rfl
@[simp] theorem t63_bytes : t63.bytes = 72 := rfl
@[simp] theorem t63_z : t63.z = .agg [.lit (.int .i64 0), .lit (.int .i64 0), .lit (.int .i64 0), .lit (.int .i64 0), .lit (.int .i64 0), .lit (.int .i64 0), .lit (.int .i64 0), .lit (.int .i64 0), .lit (.int .i64 0)] := rfl
@[simp] theorem t63_y : t63.y = .any := rfl
@[simp] theorem t63_kind : t63.kind = .arr 9 3 := rfl
@[simp] theorem t63_cmp : t63.cmp = false := rfl
/-- struct { items []impl.Find; numberOf func(impl.Find) int } -/
def t67 : TI := ⟨2, 32, .agg #[.slice none 0 0, .nilFunc], .agg [.sl true 0 .any [], .lit .nilFunc], .any, .st [(0, 35), (1, 30)], false⟩
@[simp] theorem t67_size : t67.size = 2 := rfl
@[simp] theorem t67_bytes : t67.bytes = 32 := rfl
@[simp] theorem t67_z : t67.z = .agg [.sl true 0 .any [], .lit .nilFunc] := rfl
@[simp] theorem t67_y : t67.y = .any := rfl
@[simp] theorem t67_kind : t67.kind = .st [(0, 35), (1, 30)] := rfl
@[simp] theorem t67_cmp : t67.cmp = false := rfl
/-- impl.sortedList[loop.example/g03007/impl.Find] = loop.example/g03007/impl.sortedList[loop.example/g03007/impl.Find] -/
def t68 : TI := ⟨2, 32, .agg #[.slice none 0 0, .nilFunc], .agg [.sl true 0 .any [], .lit .nilFunc], .any, .st [(0, 35), (1, 30)], false⟩
@[simp] theorem t68_size : t68.size = 2 := rfl
@[simp] theorem t68_bytes : t68.bytes = 32 := rfl
@[simp] theorem t68_z : t68.z = .agg [.sl true 0 .any [], .lit .nilFunc] := rfl
@[simp] theorem t68_y : t68.y = .any := rfl
@[simp] theorem t68_kind : t68.kind = .st [(0, 35), (1, 30)] := rfl
@[simp] theorem t68_cmp : t68.cmp = false := rfl
/-- *impl.Claim -/
def t74 : TI := ⟨1, 8, .pointer none, .lit (.pointer none), .lit (.pointer none), .ptr 51, false⟩
@[simp] theorem t74_size : t74.size = 1 := rfl
@[simp] theorem t74_bytes : t74.bytes = 8 := rfl
@[simp] theorem t74_z : t74.z = .lit (.pointer none) := rfl
@[simp] theorem t74_y : t74.y = .lit (.pointer none) := rfl
@[simp] theorem t74_kind : t74.kind = .ptr 51 := rfl
@[simp] theorem t74_cmp : t74.cmp = false := rfl
/-- map[int][]impl.Claim -/
def t75 : TI := ⟨1, 8, .map none, .fm 0 [] .any [], .any, .map 3 43, false⟩
@[simp] theorem t75_size : t75.size = 1 := rfl
@[simp] theorem t75_bytes : t75.bytes = 8 := rfl
@[simp] theorem t75_z : t75.z = .fm 0 [] .any [] := rfl
@[simp] theorem t75_y : t75.y = .any := rfl
@[simp] theorem t75_kind : t75.kind = .map 3 43 := rfl
@[simp] theorem t75_cmp : t75.cmp = false := rfl
/-- struct { byThing map[int][]impl.Claim } -/
def t76 : TI := ⟨1, 8, .agg #[.map none], .agg [.fm 0 [] .any []], .any, .st [(0, 75)], false⟩
@[simp] theorem t76_size : t76.size = 1 := rfl
@[simp] theorem t76_bytes : t76.bytes = 8 := rfl
@[simp] theorem t76_z : t76.z = .agg [.fm 0 [] .any []] := rfl
@[simp] theorem t76_y : t76.y = .any := rfl
@[simp] theorem t76_kind : t76.kind = .st [(0, 75)] := rfl
@[simp] theorem t76_cmp : t76.cmp = false := rfl
/-- impl.claimBook = loop.example/g03007/impl.claimBook -/
def t77 : TI := ⟨1, 8, .agg #[.map none], .agg [.fm 0 [] .any []], .any, .st [(0, 75)], false⟩
@[simp] theorem t77_size : t77.size = 1 := rfl
@[simp] theorem t77_bytes : t77.bytes = 8 := rfl
@[simp] theorem t77_z : t77.z = .agg [.fm 0 [] .any []] := rfl
@[simp] theorem t77_y : t77.y = .any := rfl
@[simp] theorem t77_kind : t77.kind = .st [(0, 75)] := rfl
@[simp] theorem t77_cmp : t77.cmp = false := rfl
/-- *impl.claimBook -/
def t78 : TI := ⟨1, 8, .pointer none, .lit (.pointer none), .lit (.pointer none), .ptr 77, false⟩
@[simp] theorem t78_size : t78.size = 1 := rfl
@[simp] theorem t78_bytes : t78.bytes = 8 := rfl
@[simp] theorem t78_z : t78.z = .lit (.pointer none) := rfl
@[simp] theorem t78_y : t78.y = .lit (.pointer none) := rfl
@[simp] theorem t78_kind : t78.kind = .ptr 77 := rfl
@[simp] theorem t78_cmp : t78.cmp = false := rfl
/-- []impl.fateRule -/
def t82 : TI := ⟨1, 24, .slice none 0 0, .sl true 0 .any [], .any, .slice 85, false⟩
@[simp] theorem t82_size : t82.size = 1 := rfl
@[simp] theorem t82_bytes : t82.bytes = 24 := rfl
@[simp] theorem t82_z : t82.z = .sl true 0 .any [] := rfl
@[simp] theorem t82_y : t82.y = .any := rfl
@[simp] theorem t82_kind : t82.kind = .slice 85 := rfl
@[simp] theorem t82_cmp : t82.cmp = false := rfl
/-- struct { fate int; isFor func(impl.Find, []impl.Claim, int) bool } -/
def t84 : TI := ⟨2, 16, .agg #[.int .i64 0, .nilFunc], .agg [.lit (.int .i64 0), .lit .nilFunc], .any, .st [(0, 3), (1, 49)], false⟩
@[simp] theorem t84_size : t84.size = 2 := rfl
@[simp] theorem t84_bytes : t84.bytes = 16 := rfl
@[simp] theorem t84_z : t84.z = .agg [.lit (.int .i64 0), .lit .nilFunc] := rfl
@[simp] theorem t84_y : t84.y = .any := rfl
@[simp] theorem t84_kind : t84.kind = .st [(0, 3), (1, 49)] := rfl
@[simp] theorem t84_cmp : t84.cmp = false := rfl
/-- impl.fateRule = loop.example/g03007/impl.fateRule -/
def t85 : TI := ⟨2, 16, .agg #[.int .i64 0, .nilFunc], .agg [.lit (.int .i64 0), .lit .nilFunc], .any, .st [(0, 3), (1, 49)], false⟩
@[simp] theorem t85_size : t85.size = 2 := rfl
@[simp] theorem t85_bytes : t85.bytes = 16 := rfl
@[simp] theorem t85_z : t85.z = .agg [.lit (.int .i64 0), .lit .nilFunc] := rfl
@[simp] theorem t85_y : t85.y = .any := rfl
@[simp] theorem t85_kind : t85.kind = .st [(0, 3), (1, 49)] := rfl
@[simp] theorem t85_cmp : t85.cmp = false := rfl
/-- struct { b []uint8; i int; h int } -/
def t88 : TI := ⟨3, 40, .agg #[.slice none 0 0, .int .i64 0, .int .i64 0], .agg [.sl true 0 .any [], .lit (.int .i64 0), .lit (.int .i64 0)], yTL1Cur, .st [(0, 22), (1, 3), (2, 3)], false⟩
@[simp] theorem t88_size : t88.size = 3 := rfl
@[simp] theorem t88_bytes : t88.bytes = 40 := rfl
@[simp] theorem t88_z : t88.z = .agg [.sl true 0 .any [], .lit (.int .i64 0), .lit (.int .i64 0)] := rfl
@[simp] theorem t88_y : t88.y = yTL1Cur := rfl
@[simp] theorem t88_kind : t88.kind = .st [(0, 22), (1, 3), (2, 3)] := rfl
@[simp] theorem t88_cmp : t88.cmp = false := rfl
/-- spec.l1Cur = loop.example/g03007/spec.l1Cur -/
def t89 : TI := ⟨3, 40, .agg #[.slice none 0 0, .int .i64 0, .int .i64 0], .agg [.sl true 0 .any [], .lit (.int .i64 0), .lit (.int .i64 0)], yTL1Cur, .st [(0, 22), (1, 3), (2, 3)], false⟩
@[simp] theorem t89_size : t89.size = 3 := rfl
@[simp] theorem t89_bytes : t89.bytes = 40 := rfl
@[simp] theorem t89_z : t89.z = .agg [.sl true 0 .any [], .lit (.int .i64 0), .lit (.int .i64 0)] := rfl
@[simp] theorem t89_y : t89.y = yTL1Cur := rfl
@[simp] theorem t89_kind : t89.kind = .st [(0, 22), (1, 3), (2, 3)] := rfl
@[simp] theorem t89_cmp : t89.cmp = false := rfl
/-- []string -/
def t93 : TI := ⟨1, 24, .slice none 0 0, .sl true 0 .any [], yLS, .slice 9, false⟩
@[simp] theorem t93_size : t93.size = 1 := rfl
@[simp] theorem t93_bytes : t93.bytes = 24 := rfl
@[simp] theorem t93_z : t93.z = .sl true 0 .any [] := rfl
@[simp] theorem t93_y : t93.y = yLS := rfl
@[simp] theorem t93_kind : t93.kind = .slice 9 := rfl
@[simp] theorem t93_cmp : t93.cmp = false := rfl
/-- uint -/
def t103 : TI := ⟨1, 8, .int .u64 0, .lit (.int .u64 0), .lit (.int .u64 0), .int .u64, false⟩
@[simp] theorem t103_size : t103.size = 1 := rfl
@[simp] theorem t103_bytes : t103.bytes = 8 := rfl
@[simp] theorem t103_z : t103.z = .lit (.int .u64 0) := rfl
@[simp] theorem t103_y : t103.y = .lit (.int .u64 0) := rfl
@[simp] theorem t103_kind : t103.kind = .int .u64 := rfl
@[simp] theorem t103_cmp : t103.cmp = false := rfl
/-- uint32 -/
def t115 : TI := ⟨1, 4, .int .u32 0, .lit (.int .u32 0), .lit (.int .u32 0), .int .u32, false⟩
@[simp] theorem t115_size : t115.size = 1 := rfl
@[simp] theorem t115_bytes : t115.bytes = 4 := rfl
@[simp] theorem t115_z : t115.z = .lit (.int .u32 0) := rfl
@[simp] theorem t115_y : t115.y = .lit (.int .u32 0) := rfl
@[simp] theorem t115_kind : t115.kind = .int .u32 := rfl
@[simp] theorem t115_cmp : t115.cmp = false := rfl
/-- func(unsafe.Pointer, unsafe.Pointer) bool -/
def t118 : TI := ⟨1, 8, .nilFunc, .lit .nilFunc, .lit .nilFunc, .func, false⟩
@[simp] theorem t118_size : t118.size = 1 := rfl
@[simp] theorem t118_bytes : t118.bytes = 8 := rfl
@[simp] theorem t118_z : t118.z = .lit .nilFunc := rfl
@[simp] theorem t118_y : t118.y = .lit .nilFunc := rfl
@[simp] theorem t118_kind : t118.kind = .func := rfl
@[simp] theorem t118_cmp : t118.cmp = false := rfl
/-- *uint8 -/
def t119 : TI := ⟨1, 8, .pointer none, .lit (.pointer none), .lit (.pointer none), .ptr 5, false⟩
@[simp] theorem t119_size : t119.size = 1 := rfl
@[simp] theorem t119_bytes : t119.bytes = 8 := rfl
@[simp] theorem t119_z : t119.z = .lit (.pointer none) := rfl
@[simp] theorem t119_y : t119.y = .lit (.pointer none) := rfl
@[simp] theorem t119_kind : t119.kind = .ptr 5 := rfl
@[simp] theorem t119_cmp : t119.cmp = false := rfl
/-- struct { Size_ uintptr; PtrBytes uintptr; Hash uint32; TFlag abi.TFlag; Align_ uint8; FieldAlign_ uint8; Kind_ abi.Kind; Equal func(unsafe.Pointer, unsafe.Pointer) bool; GCData *uint8; Str abi.NameOff; PtrToThis abi.TypeOff } -/
def t122 : TI := ⟨11, 48, .agg #[.int .u64 0, .int .u64 0, .int .u32 0, .int .u8 0, .int .u8 0, .int .u8 0, .int .u8 0, .nilFunc, .pointer none, .int .i32 0, .int .i32 0], .agg [.lit (.int .u64 0), .lit (.int .u64 0), .lit (.int .u32 0), .lit (.int .u8 0), .lit (.int .u8 0), .lit (.int .u8 0), .lit (.int .u8 0), .lit .nilFunc, .lit (.pointer none), .lit (.int .i32 0), .lit (.int .i32 0)], .any, .st [(0, 12), (1, 12), (2, 115), (3, 116), (4, 5), (5, 5), (6, 117), (7, 118), (8, 119), (9, 120), (10, 121)], false⟩
@[simp] theorem t122_size : t122.size = 11 := rfl
@[simp] theorem t122_bytes : t122.bytes = 48 := rfl
@[simp] theorem t122_z : t122.z = .agg [.lit (.int .u64 0), .lit (.int .u64 0), .lit (.int .u32 0), .lit (.int .u8 0), .lit (.int .u8 0), .lit (.int .u8 0), .lit (.int .u8 0), .lit .nilFunc, .lit (.pointer none), .lit (.int .i32 0), .lit (.int .i32 0)] := rfl
@[simp] theorem t122_y : t122.y = .any := rfl
@[simp] theorem t122_kind : t122.kind = .st [(0, 12), (1, 12), (2, 115), (3, 116), (4, 5), (5, 5), (6, 117), (7, 118), (8, 119), (9, 120), (10, 121)] := rfl
@[simp] theorem t122_cmp : t122.cmp = false := rfl
/-- struct { kind int; colour int; size int; place int } -/
def t127 : TI := ⟨4, 32, .agg #[.int .i64 0, .int .i64 0, .int .i64 0, .int .i64 0], .agg [.lit (.int .i64 0), .lit (.int .i64 0), .lit (.int .i64 0), .lit (.int .i64 0)], .any, .st [(0, 3), (1, 3), (2, 3), (3, 3)], true⟩
@[simp] theorem t127_size : t127.size = 4 := rfl
@[simp] theorem t127_bytes : t127.bytes = 32 := rfl
@[simp] theorem t127_z : t127.z = .agg [.lit (.int .i64 0), .lit (.int .i64 0), .lit (.int .i64 0), .lit (.int .i64 0)] := rfl
@[simp] theorem t127_y : t127.y = .any := rfl
@[simp] theorem t127_kind : t127.kind = .st [(0, 3), (1, 3), (2, 3), (3, 3)] := rfl
@[simp] theorem t127_cmp : t127.cmp = true := rfl
theorem t2_ok : t2.ok Tryd.prog 2 := ⟨by kernel_rfl, by kernel_rfl, by kernel_rfl, Tryd.underlying2, (fun h => by cases h), ⟨rfl, rfl, rfl, rfl, fun F h β => by simp [t2, Rep, Reps]⟩⟩
theorem t3_ok : t3.ok Tryd.prog 3 := ⟨by kernel_rfl, by kernel_rfl, by kernel_rfl, Tryd.underlying3, (fun h => by cases h), ⟨rfl, rfl, rfl, rfl, fun F h β => by simp [t3, Rep, Reps]⟩⟩
theorem t4_ok : t4.ok Tryd.prog 4 := ⟨by kernel_rfl, by kernel_rfl, by kernel_rfl, Tryd.underlying4, (fun h => by cases h), ⟨rfl, rfl, rfl, rfl, fun F h β => by simp [t4, Rep, Reps]⟩⟩
theorem t5_ok : t5.ok Tryd.prog 5 := ⟨by kernel_rfl, by kernel_rfl, by kernel_rfl, Tryd.underlying5, (fun h => by cases h), ⟨rfl, rfl, rfl, rfl, fun F h β => by simp [t5, Rep, Reps]⟩⟩
theorem t9_ok : t9.ok Tryd.prog 9 := ⟨by kernel_rfl, by kernel_rfl, by kernel_rfl, Tryd.underlying9, (fun h => by cases h), ⟨rfl, rfl, rfl, rfl, fun F h β => by simp [t9, Rep, Reps]⟩⟩
theorem t12_ok : t12.ok Tryd.prog 12 := ⟨by kernel_rfl, by kernel_rfl, by kernel_rfl, Tryd.underlying12, (fun h => by cases h), ⟨rfl, rfl, rfl, rfl, fun F h β => by simp [t12, Rep, Reps]⟩⟩
theorem t20_ok : t20.ok Tryd.prog 20 := ⟨by kernel_rfl, by kernel_rfl, by kernel_rfl, ⟨_, Tryd.underlying20⟩, (fun h => by cases h), ⟨rfl, rfl, rfl, rfl, fun F h β => by simp [t20, Rep, Reps]⟩⟩
theorem t21_ok : t21.ok Tryd.prog 21 := ⟨by kernel_rfl, by kernel_rfl, by kernel_rfl, Tryd.underlying21, (fun h => by cases h), ⟨rfl, rfl, rfl, rfl, fun F h β => by simp [t21, Rep, Reps]⟩⟩
theorem t22_ok : t22.ok Tryd.prog 22 := ⟨by kernel_rfl, by kernel_rfl, by kernel_rfl, Tryd.underlying22, (fun h => by cases h), ⟨rfl, rfl, rfl, rfl, fun F h β => by simp [t22, Rep, Reps]⟩⟩
theorem t24_ok : t24.ok Tryd.prog 24 := ⟨by kernel_rfl, by kernel_rfl, by kernel_rfl, ⟨_, Tryd.underlying24, rfl⟩, (fun _ => eqInts_of (by kernel_rfl) (by kernel_rfl) (by kernel_rfl)), ⟨rfl, rfl, rfl, rfl, fun F h β => by simp [t24, Rep, Reps]⟩⟩
theorem t25_ok : t25.ok Tryd.prog 25 := ⟨by kernel_rfl, by kernel_rfl, by kernel_rfl, ⟨_, Tryd.underlying25, rfl⟩, (fun _ => eqInts_of (by kernel_rfl) (by kernel_rfl) (by kernel_rfl)), ⟨rfl, rfl, rfl, rfl, fun F h β => by simp [t25, Rep, Reps]⟩⟩
theorem t26_ok : t26.ok Tryd.prog 26 := ⟨by kernel_rfl, by kernel_rfl, by kernel_rfl, ⟨_, Tryd.underlying26, rfl⟩, (fun _ => eqInts_of (by kernel_rfl) (by kernel_rfl) (by kernel_rfl)), ⟨rfl, rfl, rfl, rfl, fun F h β => by simp [t26, Rep, Reps]⟩⟩
theorem t27_ok : t27.ok Tryd.prog 27 := ⟨by kernel_rfl, by kernel_rfl, by kernel_rfl, ⟨_, Tryd.underlying27, rfl⟩, (fun _ => eqInts_of (by kernel_rfl) (by kernel_rfl) (by kernel_rfl)), ⟨rfl, rfl, rfl, rfl, fun F h β => by simp [t27, Rep, Reps]⟩⟩
theorem t30_ok : t30.ok Tryd.prog 30 := ⟨by kernel_rfl, by kernel_rfl, by kernel_rfl, ⟨_, _, _, Tryd.underlying30⟩, (fun h => by cases h), ⟨rfl, rfl, rfl, rfl, fun F h β => by simp [t30, Rep, Reps]⟩⟩
theorem t31_ok : t31.ok Tryd.prog 31 := ⟨by kernel_rfl, by kernel_rfl, by kernel_rfl, ⟨_, _, _, Tryd.underlying31⟩, (fun h => by cases h), ⟨rfl, rfl, rfl, rfl, fun F h β => by simp [t31, Rep, Reps]⟩⟩
theorem t35_ok : t35.ok Tryd.prog 35 := ⟨by kernel_rfl, by kernel_rfl, by kernel_rfl, Tryd.underlying35, (fun h => by cases h), ⟨rfl, rfl, rfl, rfl, fun F h β => by simp [t35, Rep, Reps]⟩⟩
theorem t39_ok : t39.ok Tryd.prog 39 := ⟨by kernel_rfl, by kernel_rfl, by kernel_rfl, Tryd.underlying39, (fun h => by cases h), ⟨rfl, rfl, rfl, rfl, fun F h β => by simp [t39, Rep, Reps]⟩⟩
theorem t43_ok : t43.ok Tryd.prog 43 := ⟨by kernel_rfl, by kernel_rfl, by kernel_rfl, Tryd.underlying43, (fun h => by cases h), ⟨rfl, rfl, rfl, rfl, fun F h β => by simp [t43, Rep, Reps]⟩⟩
theorem t49_ok : t49.ok Tryd.prog 49 := ⟨by kernel_rfl, by kernel_rfl, by kernel_rfl, ⟨_, _, _, Tryd.underlying49⟩, (fun h => by cases h), ⟨rfl, rfl, rfl, rfl, fun F h β => by simp [t49, Rep, Reps]⟩⟩
theorem t50_ok : t50.ok Tryd.prog 50 := ⟨by kernel_rfl, by kernel_rfl, by kernel_rfl, ⟨_, Tryd.underlying50, rfl⟩, (fun _ => eqInts_of (by kernel_rfl) (by kernel_rfl) (by kernel_rfl)), ⟨rfl, rfl, rfl, rfl, fun F h β => by simp [t50, Rep, Reps]⟩⟩
theorem t51_ok : t51.ok Tryd.prog 51 := ⟨by kernel_rfl, by kernel_rfl, by kernel_rfl, ⟨_, Tryd.underlying51, rfl⟩, (fun _ => eqInts_of (by kernel_rfl) (by kernel_rfl) (by kernel_rfl)), ⟨rfl, rfl, rfl, rfl, fun F h β => by simp [t51, Rep, Reps]⟩⟩
theorem t56_ok : t56.ok Tryd.prog 56 := ⟨by kernel_rfl, by kernel_rfl, by kernel_rfl, Tryd.underlying56, (fun h => by cases h), ⟨rfl, rfl, rfl, rfl, fun F h β => by simp [t56, Rep, Reps]⟩⟩
theorem t60_ok : t60.ok Tryd.prog 60 := ⟨by kernel_rfl, by kernel_rfl, by kernel_rfl, Tryd.underlying60, (fun h => by cases h), ⟨rfl, rfl, rfl, rfl, fun F h β => by simp [t60, Rep, Reps]⟩⟩
theorem t63_ok : t63.ok Tryd.prog 63 := ⟨by kernel_rfl, by kernel_rfl, by kernel_rfl, Tryd.underlying63, (fun h => by cases h), ⟨rfl, rfl, rfl, rfl, fun F h β => by simp [t63, Rep, Reps]⟩⟩
theorem t67_ok : t67.ok Tryd.prog 67 := ⟨by kernel_rfl, by kernel_rfl, by kernel_rfl, ⟨_, Tryd.underlying67, rfl⟩, (fun h => by cases h), ⟨rfl, rfl, rfl, rfl, fun F h β => by
    show Rep F h β t67.z t67.zero
    simp only [t67, Rep, Reps]
    exact ⟨_, rfl, _, _, rfl, (.inl ⟨by trivial, none, 0, by trivial, by intros; rfl⟩), _, _, rfl, (by trivial), rfl⟩⟩⟩
theorem t68_ok : t68.ok Tryd.prog 68 := ⟨by kernel_rfl, by kernel_rfl, by kernel_rfl, ⟨_, Tryd.underlying68, rfl⟩, (fun h => by cases h), ⟨rfl, rfl, rfl, rfl, fun F h β => by
    show Rep F h β t68.z t68.zero
    simp only [t68, Rep, Reps]
    exact ⟨_, rfl, _, _, rfl, (.inl ⟨by trivial, none, 0, by trivial, by intros; rfl⟩), _, _, rfl, (by trivial), rfl⟩⟩⟩
theorem t74_ok : t74.ok Tryd.prog 74 := ⟨by kernel_rfl, by kernel_rfl, by kernel_rfl, Tryd.underlying74, (fun h => by cases h), ⟨rfl, rfl, rfl, rfl, fun F h β => by simp [t74, Rep, Reps]⟩⟩
theorem t75_ok : t75.ok Tryd.prog 75 := ⟨by kernel_rfl, by kernel_rfl, by kernel_rfl, Tryd.underlying75, (fun h => by cases h), ⟨rfl, rfl, rfl, rfl, fun F h β => by simp [t75, Rep, Reps]⟩⟩
theorem t76_ok : t76.ok Tryd.prog 76 := ⟨by kernel_rfl, by kernel_rfl, by kernel_rfl, ⟨_, Tryd.underlying76, rfl⟩, (fun h => by cases h), ⟨rfl, rfl, rfl, rfl, fun F h β => by
    show Rep F h β t76.z t76.zero
    simp only [t76, Rep, Reps]
    exact ⟨_, rfl, _, _, rfl, (.inl ⟨by trivial, by trivial, by trivial⟩), rfl⟩⟩⟩
theorem t77_ok : t77.ok Tryd.prog 77 := ⟨by kernel_rfl, by kernel_rfl, by kernel_rfl, ⟨_, Tryd.underlying77, rfl⟩, (fun h => by cases h), ⟨rfl, rfl, rfl, rfl, fun F h β => by
    show Rep F h β t77.z t77.zero
    simp only [t77, Rep, Reps]
    exact ⟨_, rfl, _, _, rfl, (.inl ⟨by trivial, by trivial, by trivial⟩), rfl⟩⟩⟩
theorem t78_ok : t78.ok Tryd.prog 78 := ⟨by kernel_rfl, by kernel_rfl, by kernel_rfl, Tryd.underlying78, (fun h => by cases h), ⟨rfl, rfl, rfl, rfl, fun F h β => by simp [t78, Rep, Reps]⟩⟩
theorem t82_ok : t82.ok Tryd.prog 82 := ⟨by kernel_rfl, by kernel_rfl, by kernel_rfl, Tryd.underlying82, (fun h => by cases h), ⟨rfl, rfl, rfl, rfl, fun F h β => by simp [t82, Rep, Reps]⟩⟩
theorem t84_ok : t84.ok Tryd.prog 84 := ⟨by kernel_rfl, by kernel_rfl, by kernel_rfl, ⟨_, Tryd.underlying84, rfl⟩, (fun h => by cases h), ⟨rfl, rfl, rfl, rfl, fun F h β => by simp [t84, Rep, Reps]⟩⟩
theorem t85_ok : t85.ok Tryd.prog 85 := ⟨by kernel_rfl, by kernel_rfl, by kernel_rfl, ⟨_, Tryd.underlying85, rfl⟩, (fun h => by cases h), ⟨rfl, rfl, rfl, rfl, fun F h β => by simp [t85, Rep, Reps]⟩⟩
theorem t88_ok : t88.ok Tryd.prog 88 := ⟨by kernel_rfl, by kernel_rfl, by kernel_rfl, ⟨_, Tryd.underlying88, rfl⟩, (fun h => by cases h), ⟨rfl, rfl, rfl, rfl, fun F h β => by
    show Rep F h β t88.z t88.zero
    simp only [t88, Rep, Reps]
    exact ⟨_, rfl, _, _, rfl, (.inl ⟨by trivial, none, 0, by trivial, by intros; rfl⟩), _, _, rfl, (by trivial), _, _, rfl, (by trivial), rfl⟩⟩⟩
theorem t89_ok : t89.ok Tryd.prog 89 := ⟨by kernel_rfl, by kernel_rfl, by kernel_rfl, ⟨_, Tryd.underlying89, rfl⟩, (fun h => by cases h), ⟨rfl, rfl, rfl, rfl, fun F h β => by
    show Rep F h β t89.z t89.zero
    simp only [t89, Rep, Reps]
    exact ⟨_, rfl, _, _, rfl, (.inl ⟨by trivial, none, 0, by trivial, by intros; rfl⟩), _, _, rfl, (by trivial), _, _, rfl, (by trivial), rfl⟩⟩⟩
theorem t93_ok : t93.ok Tryd.prog 93 := ⟨by kernel_rfl, by kernel_rfl, by kernel_rfl, Tryd.underlying93, (fun h => by cases h), ⟨rfl, rfl, rfl, rfl, fun F h β => by simp [t93, Rep, Reps]⟩⟩
theorem t103_ok : t103.ok Tryd.prog 103 := ⟨by kernel_rfl, by kernel_rfl, by kernel_rfl, Tryd.underlying103, (fun h => by cases h), ⟨rfl, rfl, rfl, rfl, fun F h β => by simp [t103, Rep, Reps]⟩⟩
theorem t115_ok : t115.ok Tryd.prog 115 := ⟨by kernel_rfl, by kernel_rfl, by kernel_rfl, Tryd.underlying115, (fun h => by cases h), ⟨rfl, rfl, rfl, rfl, fun F h β => by simp [t115, Rep, Reps]⟩⟩
theorem t118_ok : t118.ok Tryd.prog 118 := ⟨by kernel_rfl, by kernel_rfl, by kernel_rfl, ⟨_, _, _, Tryd.underlying118⟩, (fun h => by cases h), ⟨rfl, rfl, rfl, rfl, fun F h β => by simp [t118, Rep, Reps]⟩⟩
theorem t119_ok : t119.ok Tryd.prog 119 := ⟨by kernel_rfl, by kernel_rfl, by kernel_rfl, Tryd.underlying119, (fun h => by cases h), ⟨rfl, rfl, rfl, rfl, fun F h β => by simp [t119, Rep, Reps]⟩⟩
theorem t122_ok : t122.ok Tryd.prog 122 := ⟨by kernel_rfl, by kernel_rfl, by kernel_rfl, ⟨_, Tryd.underlying122, rfl⟩, (fun h => by cases h), ⟨rfl, rfl, rfl, rfl, fun F h β => by simp [t122, Rep, Reps]⟩⟩
theorem t127_ok : t127.ok Tryd.prog 127 := ⟨by kernel_rfl, by kernel_rfl, by kernel_rfl, ⟨_, Tryd.underlying127, rfl⟩, (fun _ => eqInts_of (by kernel_rfl) (by kernel_rfl) (by kernel_rfl)), ⟨rfl, rfl, rfl, rfl, fun F h β => by simp [t127, Rep, Reps]⟩⟩
def G : Ctx := [(2, t2), (3, t3), (4, t4), (5, t5), (9, t9), (12, t12), (20, t20), (21, t21), (22, t22), (24, t24), (25, t25), (26, t26), (27, t27), (30, t30), (31, t31), (35, t35), (39, t39), (43, t43), (49, t49), (50, t50), (51, t51), (56, t56), (60, t60), (63, t63), (67, t67), (68, t68), (74, t74), (75, t75), (76, t76), (77, t77), (78, t78), (82, t82), (84, t84), (85, t85), (88, t88), (89, t89), (93, t93), (103, t103), (115, t115), (118, t118), (119, t119), (122, t122), (127, t127)]
@[simp] theorem G_2 : G.get 2 = some t2 := rfl
@[simp] theorem G_3 : G.get 3 = some t3 := rfl
@[simp] theorem G_4 : G.get 4 = some t4 := rfl
@[simp] theorem G_5 : G.get 5 = some t5 := rfl
@[simp] theorem G_9 : G.get 9 = some t9 := rfl
@[simp] theorem G_12 : G.get 12 = some t12 := rfl
@[simp] theorem G_20 : G.get 20 = some t20 := rfl
@[simp] theorem G_21 : G.get 21 = some t21 := rfl
@[simp] theorem G_22 : G.get 22 = some t22 := rfl
@[simp] theorem G_24 : G.get 24 = some t24 := rfl
@[simp] theorem G_25 : G.get 25 = some t25 := rfl
@[simp] theorem G_26 : G.get 26 = some t26 := rfl
@[simp] theorem G_27 : G.get 27 = some t27 := rfl
@[simp] theorem G_30 : G.get 30 = some t30 := rfl
@[simp] theorem G_31 : G.get 31 = some t31 := rfl
@[simp] theorem G_35 : G.get 35 = some t35 := rfl
@[simp] theorem G_39 : G.get 39 = some t39 := rfl
@[simp] theorem G_43 : G.get 43 = some t43 := rfl
@[simp] theorem G_49 : G.get 49 = some t49 := rfl
@[simp] theorem G_50 : G.get 50 = some t50 := rfl
@[simp] theorem G_51 : G.get 51 = some t51 := rfl
@[simp] theorem G_56 : G.get 56 = some t56 := rfl
@[simp] theorem G_60 : G.get 60 = some t60 := rfl
@[simp] theorem G_63 : G.get 63 = some t63 := rfl
@[simp] theorem G_67 : G.get 67 = some t67 := rfl
@[simp] theorem G_68 : G.get 68 = some t68 := rfl
@[simp] theorem G_74 : G.get 74 = some t74 := rfl
@[simp] theorem G_75 : G.get 75 = some t75 := rfl
@[simp] theorem G_76 : G.get 76 = some t76 := rfl
@[simp] theorem G_77 : G.get 77 = some t77 := rfl
@[simp] theorem G_78 : G.get 78 = some t78 := rfl
@[simp] theorem G_82 : G.get 82 = some t82 := rfl
@[simp] theorem G_84 : G.get 84 = some t84 := rfl
@[simp] theorem G_85 : G.get 85 = some t85 := rfl
@[simp] theorem G_88 : G.get 88 = some t88 := rfl
@[simp] theorem G_89 : G.get 89 = some t89 := rfl
@[simp] theorem G_93 : G.get 93 = some t93 := rfl
@[simp] theorem G_103 : G.get 103 = some t103 := rfl
@[simp] theorem G_115 : G.get 115 = some t115 := rfl
@[simp] theorem G_118 : G.get 118 = some t118 := rfl
@[simp] theorem G_119 : G.get 119 = some t119 := rfl
@[simp] theorem G_122 : G.get 122 = some t122 := rfl
@[simp] theorem G_127 : G.get 127 = some t127 := rfl
theorem G_ok : G.ok Tryd.prog := by
  intro p hp
  simp only [G, List.mem_cons, List.not_mem_nil, or_false] at hp
  rcases hp with rfl | rfl | rfl | rfl | rfl | rfl | rfl | rfl | rfl | rfl | rfl | rfl | rfl | rfl | rfl | rfl | rfl | rfl | rfl | rfl | rfl | rfl | rfl | rfl | rfl | rfl | rfl | rfl | rfl | rfl | rfl | rfl | rfl | rfl | rfl | rfl | rfl | rfl | rfl | rfl | rfl | rfl | rfl
  · exact t2_ok
  · exact t3_ok
  · exact t4_ok
  · exact t5_ok
  · exact t9_ok
  · exact t12_ok
  · exact t20_ok
  · exact t21_ok
  · exact t22_ok
  · exact t24_ok
  · exact t25_ok
  · exact t26_ok
  · exact t27_ok
  · exact t30_ok
  · exact t31_ok
  · exact t35_ok
  · exact t39_ok
  · exact t43_ok
  · exact t49_ok
  · exact t50_ok
  · exact t51_ok
  · exact t56_ok
  · exact t60_ok
  · exact t63_ok
  · exact t67_ok
  · exact t68_ok
  · exact t74_ok
  · exact t75_ok
  · exact t76_ok
  · exact t77_ok
  · exact t78_ok
  · exact t82_ok
  · exact t84_ok
  · exact t85_ok
  · exact t88_ok
  · exact t89_ok
  · exact t93_ok
  · exact t103_ok
  · exact t115_ok
  · exact t118_ok
  · exact t119_ok
  · exact t122_ok
  · exact t127_ok
theorem mix : Tryd.prog.follows .mixedOrders = true := by kernel_rfl
end Go.Proofs.YtpnfkjbnhholfaaDoor
