/- What is known of the types of this program: their sizes, zero values and parts. -/
import Derived.Test.YtadbjlnfdjbbjaaProg
import Derived.Test.YtadbjlnfdjbbjaaTY
import Derived.KernelRfl
namespace Go.Proofs.Ytadbjlnfdjbbjaa
open Go Go.Eng
set_option linter.unusedSimpArgs false
set_option linter.unusedVariables false
set_option maxRecDepth 20000
/-- int64 -/
def t2 : TI := ⟨1, 8, .int .i64 0, .lit (.int .i64 0), .lit (.int .i64 0), .int .i64, false⟩
@[simp] theorem t2_size : t2.size = 1 := rfl
@[simp] theorem t2_bytes : t2.bytes = 8 := rfl
@[simp] theorem t2_z : t2.z = .lit (.int .i64 0) := rfl
@[simp] theorem t2_y : t2.y = .lit (.int .i64 0) := rfl
@[simp] theorem t2_kind : t2.kind = .int .i64 := rfl
@[simp] theorem t2_cmp : t2.cmp = false := rfl
/-- int -/
def t3 : TI := ⟨1, 8, .int .i64 0, .lit (.int .i64 0), .lit (.int .i64 0), .int .i64, false⟩
@[simp] theorem t3_size : t3.size = 1 := rfl
@[simp] theorem t3_bytes : t3.bytes = 8 := rfl
@[simp] theorem t3_z : t3.z = .lit (.int .i64 0) := rfl
@[simp] theorem t3_y : t3.y = .lit (.int .i64 0) := rfl
@[simp] theorem t3_kind : t3.kind = .int .i64 := rfl
@[simp] theorem t3_cmp : t3.cmp = false := rfl
/-- bool -/
def t4 : TI := ⟨1, 1, .bool false, .lit (.bool false), .lit (.bool false), .bool, false⟩
@[simp] theorem t4_size : t4.size = 1 := rfl
@[simp] theorem t4_bytes : t4.bytes = 1 := rfl
@[simp] theorem t4_z : t4.z = .lit (.bool false) := rfl
@[simp] theorem t4_y : t4.y = .lit (.bool false) := rfl
@[simp] theorem t4_kind : t4.kind = .bool := rfl
@[simp] theorem t4_cmp : t4.cmp = false := rfl
/-- uint8 -/
def t5 : TI := ⟨1, 1, .int .u8 0, .lit (.int .u8 0), .lit (.int .u8 0), .int .u8, false⟩
@[simp] theorem t5_size : t5.size = 1 := rfl
@[simp] theorem t5_bytes : t5.bytes = 1 := rfl
@[simp] theorem t5_z : t5.z = .lit (.int .u8 0) := rfl
@[simp] theorem t5_y : t5.y = .lit (.int .u8 0) := rfl
@[simp] theorem t5_kind : t5.kind = .int .u8 := rfl
@[simp] theorem t5_cmp : t5.cmp = false := rfl
/-- string -/
def t9 : TI := ⟨1, 16, .string ⟨#[]⟩, .lit (.string ⟨#[]⟩), .lit (.string ⟨#[]⟩), .str, false⟩
@[simp] theorem t9_size : t9.size = 1 := rfl
@[simp] theorem t9_bytes : t9.bytes = 16 := rfl
@[simp] theorem t9_z : t9.z = .lit (.string ⟨#[]⟩) := rfl
@[simp] theorem t9_y : t9.y = .lit (.string ⟨#[]⟩) := rfl
@[simp] theorem t9_kind : t9.kind = .str := rfl
@[simp] theorem t9_cmp : t9.cmp = false := rfl
/-- uintptr -/
def t12 : TI := ⟨1, 8, .int .u64 0, .lit (.int .u64 0), .lit (.int .u64 0), .int .u64, false⟩
@[simp] theorem t12_size : t12.size = 1 := rfl
@[simp] theorem t12_bytes : t12.bytes = 8 := rfl
@[simp] theorem t12_z : t12.z = .lit (.int .u64 0) := rfl
@[simp] theorem t12_y : t12.y = .lit (.int .u64 0) := rfl
@[simp] theorem t12_kind : t12.kind = .int .u64 := rfl
@[simp] theorem t12_cmp : t12.cmp = false := rfl
/-- interface {} -/
def t20 : TI := ⟨1, 16, .nilIface, .lit .nilIface, .lit .nilIface, .iface, false⟩
@[simp] theorem t20_size : t20.size = 1 := rfl
@[simp] theorem t20_bytes : t20.bytes = 16 := rfl
@[simp] theorem t20_z : t20.z = .lit .nilIface := rfl
@[simp] theorem t20_y : t20.y = .lit .nilIface := rfl
@[simp] theorem t20_kind : t20.kind = .iface := rfl
@[simp] theorem t20_cmp : t20.cmp = false := rfl
/-- int32 -/
def t21 : TI := ⟨1, 4, .int .i32 0, .lit (.int .i32 0), .lit (.int .i32 0), .int .i32, false⟩
@[simp] theorem t21_size : t21.size = 1 := rfl
@[simp] theorem t21_bytes : t21.bytes = 4 := rfl
@[simp] theorem t21_z : t21.z = .lit (.int .i32 0) := rfl
@[simp] theorem t21_y : t21.y = .lit (.int .i32 0) := rfl
@[simp] theorem t21_kind : t21.kind = .int .i32 := rfl
@[simp] theorem t21_cmp : t21.cmp = false := rfl
/-- []laws.Claim -/
def t22 : TI := ⟨1, 24, .slice none 0 0, .sl true 0 .any [], yLTClaim, .slice 30, false⟩
@[simp] theorem t22_size : t22.size = 1 := rfl
@[simp] theorem t22_bytes : t22.bytes = 24 := rfl
@[simp] theorem t22_z : t22.z = .sl true 0 .any [] := rfl
@[simp] theorem t22_y : t22.y = yLTClaim := rfl
@[simp] theorem t22_kind : t22.kind = .slice 30 := rfl
@[simp] theorem t22_cmp : t22.cmp = false := rfl
/-- []impl.Claim -/
def t25 : TI := ⟨1, 24, .slice none 0 0, .sl true 0 .any [], yLTClaim, .slice 33, false⟩
@[simp] theorem t25_size : t25.size = 1 := rfl
@[simp] theorem t25_bytes : t25.bytes = 24 := rfl
@[simp] theorem t25_z : t25.z = .sl true 0 .any [] := rfl
@[simp] theorem t25_y : t25.y = yLTClaim := rfl
@[simp] theorem t25_kind : t25.kind = .slice 33 := rfl
@[simp] theorem t25_cmp : t25.cmp = false := rfl
/-- struct { Id int; Who int; Thing int; At int; State int } -/
def t29 : TI := ⟨5, 40, .agg #[.int .i64 0, .int .i64 0, .int .i64 0, .int .i64 0, .int .i64 0], .agg [.lit (.int .i64 0), .lit (.int .i64 0), .lit (.int .i64 0), .lit (.int .i64 0), .lit (.int .i64 0)], yTClaim, .st [(0, 3), (1, 3), (2, 3), (3, 3), (4, 3)], true⟩
@[simp] theorem t29_size : t29.size = 5 := rfl
@[simp] theorem t29_bytes : t29.bytes = 40 := rfl
@[simp] theorem t29_z : t29.z = .agg [.lit (.int .i64 0), .lit (.int .i64 0), .lit (.int .i64 0), .lit (.int .i64 0), .lit (.int .i64 0)] := rfl
@[simp] theorem t29_y : t29.y = yTClaim := rfl
@[simp] theorem t29_kind : t29.kind = .st [(0, 3), (1, 3), (2, 3), (3, 3), (4, 3)] := rfl
@[simp] theorem t29_cmp : t29.cmp = true := rfl
/-- laws.Claim = loop.example/g03007/laws.Claim -/
def t30 : TI := ⟨5, 40, .agg #[.int .i64 0, .int .i64 0, .int .i64 0, .int .i64 0, .int .i64 0], .agg [.lit (.int .i64 0), .lit (.int .i64 0), .lit (.int .i64 0), .lit (.int .i64 0), .lit (.int .i64 0)], yTClaim, .st [(0, 3), (1, 3), (2, 3), (3, 3), (4, 3)], true⟩
@[simp] theorem t30_size : t30.size = 5 := rfl
@[simp] theorem t30_bytes : t30.bytes = 40 := rfl
@[simp] theorem t30_z : t30.z = .agg [.lit (.int .i64 0), .lit (.int .i64 0), .lit (.int .i64 0), .lit (.int .i64 0), .lit (.int .i64 0)] := rfl
@[simp] theorem t30_y : t30.y = yTClaim := rfl
@[simp] theorem t30_kind : t30.kind = .st [(0, 3), (1, 3), (2, 3), (3, 3), (4, 3)] := rfl
@[simp] theorem t30_cmp : t30.cmp = true := rfl
/-- impl.Claim = loop.example/g03007/impl.Claim -/
def t33 : TI := ⟨5, 40, .agg #[.int .i64 0, .int .i64 0, .int .i64 0, .int .i64 0, .int .i64 0], .agg [.lit (.int .i64 0), .lit (.int .i64 0), .lit (.int .i64 0), .lit (.int .i64 0), .lit (.int .i64 0)], yTClaim, .st [(0, 3), (1, 3), (2, 3), (3, 3), (4, 3)], true⟩
@[simp] theorem t33_size : t33.size = 5 := rfl
@[simp] theorem t33_bytes : t33.bytes = 40 := rfl
@[simp] theorem t33_z : t33.z = .agg [.lit (.int .i64 0), .lit (.int .i64 0), .lit (.int .i64 0), .lit (.int .i64 0), .lit (.int .i64 0)] := rfl
@[simp] theorem t33_y : t33.y = yTClaim := rfl
@[simp] theorem t33_kind : t33.kind = .st [(0, 3), (1, 3), (2, 3), (3, 3), (4, 3)] := rfl
@[simp] theorem t33_cmp : t33.cmp = true := rfl
/-- []int -/
def t39 : TI := ⟨1, 24, .slice none 0 0, .sl true 0 .any [], yLI, .slice 3, false⟩
@[simp] theorem t39_size : t39.size = 1 := rfl
@[simp] theorem t39_bytes : t39.bytes = 24 := rfl
@[simp] theorem t39_z : t39.z = .sl true 0 .any [] := rfl
@[simp] theorem t39_y : t39.y = yLI := rfl
@[simp] theorem t39_kind : t39.kind = .slice 3 := rfl
@[simp] theorem t39_cmp : t39.cmp = false := rfl
/-- []laws.Hand -/
def t44 : TI := ⟨1, 24, .slice none 0 0, .sl true 0 .any [], yLTHand, .slice 52, false⟩
@[simp] theorem t44_size : t44.size = 1 := rfl
@[simp] theorem t44_bytes : t44.bytes = 24 := rfl
@[simp] theorem t44_z : t44.z = .sl true 0 .any [] := rfl
@[simp] theorem t44_y : t44.y = yLTHand := rfl
@[simp] theorem t44_kind : t44.kind = .slice 52 := rfl
@[simp] theorem t44_cmp : t44.cmp = false := rfl
/-- []impl.Hand -/
def t47 : TI := ⟨1, 24, .slice none 0 0, .sl true 0 .any [], yLTHand, .slice 55, false⟩
@[simp] theorem t47_size : t47.size = 1 := rfl
@[simp] theorem t47_bytes : t47.bytes = 24 := rfl
@[simp] theorem t47_z : t47.z = .sl true 0 .any [] := rfl
@[simp] theorem t47_y : t47.y = yLTHand := rfl
@[simp] theorem t47_kind : t47.kind = .slice 55 := rfl
@[simp] theorem t47_cmp : t47.cmp = false := rfl
/-- struct { Thing int; Holder int; Who int; At int; Seal int } -/
def t51 : TI := ⟨5, 40, .agg #[.int .i64 0, .int .i64 0, .int .i64 0, .int .i64 0, .int .i64 0], .agg [.lit (.int .i64 0), .lit (.int .i64 0), .lit (.int .i64 0), .lit (.int .i64 0), .lit (.int .i64 0)], yTHand, .st [(0, 3), (1, 3), (2, 3), (3, 3), (4, 3)], true⟩
@[simp] theorem t51_size : t51.size = 5 := rfl
@[simp] theorem t51_bytes : t51.bytes = 40 := rfl
@[simp] theorem t51_z : t51.z = .agg [.lit (.int .i64 0), .lit (.int .i64 0), .lit (.int .i64 0), .lit (.int .i64 0), .lit (.int .i64 0)] := rfl
@[simp] theorem t51_y : t51.y = yTHand := rfl
@[simp] theorem t51_kind : t51.kind = .st [(0, 3), (1, 3), (2, 3), (3, 3), (4, 3)] := rfl
@[simp] theorem t51_cmp : t51.cmp = true := rfl
/-- laws.Hand = loop.example/g03007/laws.Hand -/
def t52 : TI := ⟨5, 40, .agg #[.int .i64 0, .int .i64 0, .int .i64 0, .int .i64 0, .int .i64 0], .agg [.lit (.int .i64 0), .lit (.int .i64 0), .lit (.int .i64 0), .lit (.int .i64 0), .lit (.int .i64 0)], yTHand, .st [(0, 3), (1, 3), (2, 3), (3, 3), (4, 3)], true⟩
@[simp] theorem t52_size : t52.size = 5 := rfl
@[simp] theorem t52_bytes : t52.bytes = 40 := rfl
@[simp] theorem t52_z : t52.z = .agg [.lit (.int .i64 0), .lit (.int .i64 0), .lit (.int .i64 0), .lit (.int .i64 0), .lit (.int .i64 0)] := rfl
@[simp] theorem t52_y : t52.y = yTHand := rfl
@[simp] theorem t52_kind : t52.kind = .st [(0, 3), (1, 3), (2, 3), (3, 3), (4, 3)] := rfl
@[simp] theorem t52_cmp : t52.cmp = true := rfl
/-- impl.Hand = loop.example/g03007/impl.Hand -/
def t55 : TI := ⟨5, 40, .agg #[.int .i64 0, .int .i64 0, .int .i64 0, .int .i64 0, .int .i64 0], .agg [.lit (.int .i64 0), .lit (.int .i64 0), .lit (.int .i64 0), .lit (.int .i64 0), .lit (.int .i64 0)], yTHand, .st [(0, 3), (1, 3), (2, 3), (3, 3), (4, 3)], true⟩
@[simp] theorem t55_size : t55.size = 5 := rfl
@[simp] theorem t55_bytes : t55.bytes = 40 := rfl
@[simp] theorem t55_z : t55.z = .agg [.lit (.int .i64 0), .lit (.int .i64 0), .lit (.int .i64 0), .lit (.int .i64 0), .lit (.int .i64 0)] := rfl
@[simp] theorem t55_y : t55.y = yTHand := rfl
@[simp] theorem t55_kind : t55.kind = .st [(0, 3), (1, 3), (2, 3), (3, 3), (4, 3)] := rfl
@[simp] theorem t55_cmp : t55.cmp = true := rfl
/-- []laws.Letter -/
def t68 : TI := ⟨1, 24, .slice none 0 0, .sl true 0 .any [], yLTLetter, .slice 133, false⟩
@[simp] theorem t68_size : t68.size = 1 := rfl
@[simp] theorem t68_bytes : t68.bytes = 24 := rfl
@[simp] theorem t68_z : t68.z = .sl true 0 .any [] := rfl
@[simp] theorem t68_y : t68.y = yLTLetter := rfl
@[simp] theorem t68_kind : t68.kind = .slice 133 := rfl
@[simp] theorem t68_cmp : t68.cmp = false := rfl
/-- []impl.Letter -/
def t71 : TI := ⟨1, 24, .slice none 0 0, .sl true 0 .any [], yLTLetter, .slice 131, false⟩
@[simp] theorem t71_size : t71.size = 1 := rfl
@[simp] theorem t71_bytes : t71.bytes = 24 := rfl
@[simp] theorem t71_z : t71.z = .sl true 0 .any [] := rfl
@[simp] theorem t71_y : t71.y = yLTLetter := rfl
@[simp] theorem t71_kind : t71.kind = .slice 131 := rfl
@[simp] theorem t71_cmp : t71.cmp = false := rfl
/-- []laws.Find -/
def t81 : TI := ⟨1, 24, .slice none 0 0, .sl true 0 .any [], yLTFind, .slice 150, false⟩
@[simp] theorem t81_size : t81.size = 1 := rfl
@[simp] theorem t81_bytes : t81.bytes = 24 := rfl
@[simp] theorem t81_z : t81.z = .sl true 0 .any [] := rfl
@[simp] theorem t81_y : t81.y = yLTFind := rfl
@[simp] theorem t81_kind : t81.kind = .slice 150 := rfl
@[simp] theorem t81_cmp : t81.cmp = false := rfl
/-- []impl.Find -/
def t84 : TI := ⟨1, 24, .slice none 0 0, .sl true 0 .any [], yLTFind, .slice 146, false⟩
@[simp] theorem t84_size : t84.size = 1 := rfl
@[simp] theorem t84_bytes : t84.bytes = 24 := rfl
@[simp] theorem t84_z : t84.z = .sl true 0 .any [] := rfl
@[simp] theorem t84_y : t84.y = yLTFind := rfl
@[simp] theorem t84_kind : t84.kind = .slice 146 := rfl
@[simp] theorem t84_cmp : t84.cmp = false := rfl
/-- func(impl.Claim) int -/
def t93 : TI := ⟨1, 8, .nilFunc, .lit .nilFunc, .lit .nilFunc, .func, false⟩
@[simp] theorem t93_size : t93.size = 1 := rfl
@[simp] theorem t93_bytes : t93.bytes = 8 := rfl
@[simp] theorem t93_z : t93.z = .lit .nilFunc := rfl
@[simp] theorem t93_y : t93.y = .lit .nilFunc := rfl
@[simp] theorem t93_kind : t93.kind = .func := rfl
@[simp] theorem t93_cmp : t93.cmp = false := rfl
/-- struct { items []impl.Claim; numberOf func(impl.Claim) int } -/
def t94 : TI := ⟨2, 32, .agg #[.slice none 0 0, .nilFunc], .agg [.sl true 0 .any [], .lit .nilFunc], .any, .st [(0, 25), (1, 93)], false⟩
@[simp] theorem t94_size : t94.size = 2 := rfl
@[simp] theorem t94_bytes : t94.bytes = 32 := rfl
@[simp] theorem t94_z : t94.z = .agg [.sl true 0 .any [], .lit .nilFunc] := rfl
@[simp] theorem t94_y : t94.y = .any := rfl
@[simp] theorem t94_kind : t94.kind = .st [(0, 25), (1, 93)] := rfl
@[simp] theorem t94_cmp : t94.cmp = false := rfl
/-- impl.sortedList[loop.example/g03007/impl.Claim] = loop.example/g03007/impl.sortedList[loop.example/g03007/impl.Claim] -/
def t95 : TI := ⟨2, 32, .agg #[.slice none 0 0, .nilFunc], .agg [.sl true 0 .any [], .lit .nilFunc], .any, .st [(0, 25), (1, 93)], false⟩
@[simp] theorem t95_size : t95.size = 2 := rfl
@[simp] theorem t95_bytes : t95.bytes = 32 := rfl
@[simp] theorem t95_z : t95.z = .agg [.sl true 0 .any [], .lit .nilFunc] := rfl
@[simp] theorem t95_y : t95.y = .any := rfl
@[simp] theorem t95_kind : t95.kind = .st [(0, 25), (1, 93)] := rfl
@[simp] theorem t95_cmp : t95.cmp = false := rfl
/-- *impl.claimBook -/
def t99 : TI := ⟨1, 8, .pointer none, .lit (.pointer none), .lit (.pointer none), .ptr 110, false⟩
@[simp] theorem t99_size : t99.size = 1 := rfl
@[simp] theorem t99_bytes : t99.bytes = 8 := rfl
@[simp] theorem t99_z : t99.z = .lit (.pointer none) := rfl
@[simp] theorem t99_y : t99.y = .lit (.pointer none) := rfl
@[simp] theorem t99_kind : t99.kind = .ptr 110 := rfl
@[simp] theorem t99_cmp : t99.cmp = false := rfl
/-- *impl.Claim -/
def t107 : TI := ⟨1, 8, .pointer none, .lit (.pointer none), .lit (.pointer none), .ptr 33, false⟩
@[simp] theorem t107_size : t107.size = 1 := rfl
@[simp] theorem t107_bytes : t107.bytes = 8 := rfl
@[simp] theorem t107_z : t107.z = .lit (.pointer none) := rfl
@[simp] theorem t107_y : t107.y = .lit (.pointer none) := rfl
@[simp] theorem t107_kind : t107.kind = .ptr 33 := rfl
@[simp] theorem t107_cmp : t107.cmp = false := rfl
/-- map[int][]impl.Claim -/
def t108 : TI := ⟨1, 8, .map none, .fm 0 [] .any [], .any, .map 3 25, false⟩
@[simp] theorem t108_size : t108.size = 1 := rfl
@[simp] theorem t108_bytes : t108.bytes = 8 := rfl
@[simp] theorem t108_z : t108.z = .fm 0 [] .any [] := rfl
@[simp] theorem t108_y : t108.y = .any := rfl
@[simp] theorem t108_kind : t108.kind = .map 3 25 := rfl
@[simp] theorem t108_cmp : t108.cmp = false := rfl
/-- struct { byThing map[int][]impl.Claim } -/
def t109 : TI := ⟨1, 8, .agg #[.map none], .agg [.fm 0 [] .any []], .any, .st [(0, 108)], false⟩
@[simp] theorem t109_size : t109.size = 1 := rfl
@[simp] theorem t109_bytes : t109.bytes = 8 := rfl
@[simp] theorem t109_z : t109.z = .agg [.fm 0 [] .any []] := rfl
@[simp] theorem t109_y : t109.y = .any := rfl
@[simp] theorem t109_kind : t109.kind = .st [(0, 108)] := rfl
@[simp] theorem t109_cmp : t109.cmp = false := rfl
/-- impl.claimBook = loop.example/g03007/impl.claimBook -/
def t110 : TI := ⟨1, 8, .agg #[.map none], .agg [.fm 0 [] .any []], .any, .st [(0, 108)], false⟩
@[simp] theorem t110_size : t110.size = 1 := rfl
@[simp] theorem t110_bytes : t110.bytes = 8 := rfl
@[simp] theorem t110_z : t110.z = .agg [.fm 0 [] .any []] := rfl
@[simp] theorem t110_y : t110.y = .any := rfl
@[simp] theorem t110_kind : t110.kind = .st [(0, 108)] := rfl
@[simp] theorem t110_cmp : t110.cmp = false := rfl
/-- map[int]*impl.link[loop.example/g03007/impl.Hand] -/
def t112 : TI := ⟨1, 8, .map none, .fm 0 [] .any [], .any, .map 3 116, false⟩
@[simp] theorem t112_size : t112.size = 1 := rfl
@[simp] theorem t112_bytes : t112.bytes = 8 := rfl
@[simp] theorem t112_z : t112.z = .fm 0 [] .any [] := rfl
@[simp] theorem t112_y : t112.y = .any := rfl
@[simp] theorem t112_kind : t112.kind = .map 3 116 := rfl
@[simp] theorem t112_cmp : t112.cmp = false := rfl
/-- impl.handsByThing = loop.example/g03007/impl.handsByThing -/
def t113 : TI := ⟨1, 8, .map none, .fm 0 [] .any [], .any, .map 3 116, false⟩
@[simp] theorem t113_size : t113.size = 1 := rfl
@[simp] theorem t113_bytes : t113.bytes = 8 := rfl
@[simp] theorem t113_z : t113.z = .fm 0 [] .any [] := rfl
@[simp] theorem t113_y : t113.y = .any := rfl
@[simp] theorem t113_kind : t113.kind = .map 3 116 := rfl
@[simp] theorem t113_cmp : t113.cmp = false := rfl
/-- *impl.link[loop.example/g03007/impl.Hand] -/
def t116 : TI := ⟨1, 8, .pointer none, .lit (.pointer none), .lit (.pointer none), .ptr 122, false⟩
@[simp] theorem t116_size : t116.size = 1 := rfl
@[simp] theorem t116_bytes : t116.bytes = 8 := rfl
@[simp] theorem t116_z : t116.z = .lit (.pointer none) := rfl
@[simp] theorem t116_y : t116.y = .lit (.pointer none) := rfl
@[simp] theorem t116_kind : t116.kind = .ptr 122 := rfl
@[simp] theorem t116_cmp : t116.cmp = false := rfl
/-- struct { item impl.Hand; before *impl.link[loop.example/g03007/impl.Hand] } -/
def t121 : TI := ⟨6, 48, .agg #[.int .i64 0, .int .i64 0, .int .i64 0, .int .i64 0, .int .i64 0, .pointer none], .agg [.lit (.int .i64 0), .lit (.int .i64 0), .lit (.int .i64 0), .lit (.int .i64 0), .lit (.int .i64 0), .lit (.pointer none)], .any, .st [(0, 55), (5, 116)], false⟩
@[simp] theorem t121_size : t121.size = 6 := rfl
@[simp] theorem t121_bytes : t121.bytes = 48 := rfl
@[simp] theorem t121_z : t121.z = .agg [.lit (.int .i64 0), .lit (.int .i64 0), .lit (.int .i64 0), .lit (.int .i64 0), .lit (.int .i64 0), .lit (.pointer none)] := rfl
@[simp] theorem t121_y : t121.y = .any := rfl
@[simp] theorem t121_kind : t121.kind = .st [(0, 55), (5, 116)] := rfl
@[simp] theorem t121_cmp : t121.cmp = false := rfl
/-- impl.link[loop.example/g03007/impl.Hand] = loop.example/g03007/impl.link[loop.example/g03007/impl.Hand] -/
def t122 : TI := ⟨6, 48, .agg #[.int .i64 0, .int .i64 0, .int .i64 0, .int .i64 0, .int .i64 0, .pointer none], .agg [.lit (.int .i64 0), .lit (.int .i64 0), .lit (.int .i64 0), .lit (.int .i64 0), .lit (.int .i64 0), .lit (.pointer none)], .any, .st [(0, 55), (5, 116)], false⟩
@[simp] theorem t122_size : t122.size = 6 := rfl
@[simp] theorem t122_bytes : t122.bytes = 48 := rfl
@[simp] theorem t122_z : t122.z = .agg [.lit (.int .i64 0), .lit (.int .i64 0), .lit (.int .i64 0), .lit (.int .i64 0), .lit (.int .i64 0), .lit (.pointer none)] := rfl
@[simp] theorem t122_y : t122.y = .any := rfl
@[simp] theorem t122_kind : t122.kind = .st [(0, 55), (5, 116)] := rfl
@[simp] theorem t122_cmp : t122.cmp = false := rfl
/-- map[int]bool -/
def t126 : TI := ⟨1, 8, .map none, .fm 0 [] .any [], .any, .map 3 4, false⟩
@[simp] theorem t126_size : t126.size = 1 := rfl
@[simp] theorem t126_bytes : t126.bytes = 8 := rfl
@[simp] theorem t126_z : t126.z = .fm 0 [] .any [] := rfl
@[simp] theorem t126_y : t126.y = .any := rfl
@[simp] theorem t126_kind : t126.kind = .map 3 4 := rfl
@[simp] theorem t126_cmp : t126.cmp = false := rfl
/-- impl.numberSet = loop.example/g03007/impl.numberSet -/
def t127 : TI := ⟨1, 8, .map none, .fm 0 [] .any [], .any, .map 3 4, false⟩
@[simp] theorem t127_size : t127.size = 1 := rfl
@[simp] theorem t127_bytes : t127.bytes = 8 := rfl
@[simp] theorem t127_z : t127.z = .fm 0 [] .any [] := rfl
@[simp] theorem t127_y : t127.y = .any := rfl
@[simp] theorem t127_kind : t127.kind = .map 3 4 := rfl
@[simp] theorem t127_cmp : t127.cmp = false := rfl
/-- struct { Report int; Thing int; At int } -/
def t130 : TI := ⟨3, 24, .agg #[.int .i64 0, .int .i64 0, .int .i64 0], .agg [.lit (.int .i64 0), .lit (.int .i64 0), .lit (.int .i64 0)], yTLetter, .st [(0, 3), (1, 3), (2, 3)], true⟩
@[simp] theorem t130_size : t130.size = 3 := rfl
@[simp] theorem t130_bytes : t130.bytes = 24 := rfl
@[simp] theorem t130_z : t130.z = .agg [.lit (.int .i64 0), .lit (.int .i64 0), .lit (.int .i64 0)] := rfl
@[simp] theorem t130_y : t130.y = yTLetter := rfl
@[simp] theorem t130_kind : t130.kind = .st [(0, 3), (1, 3), (2, 3)] := rfl
@[simp] theorem t130_cmp : t130.cmp = true := rfl
/-- impl.Letter = loop.example/g03007/impl.Letter -/
def t131 : TI := ⟨3, 24, .agg #[.int .i64 0, .int .i64 0, .int .i64 0], .agg [.lit (.int .i64 0), .lit (.int .i64 0), .lit (.int .i64 0)], yTLetter, .st [(0, 3), (1, 3), (2, 3)], true⟩
@[simp] theorem t131_size : t131.size = 3 := rfl
@[simp] theorem t131_bytes : t131.bytes = 24 := rfl
@[simp] theorem t131_z : t131.z = .agg [.lit (.int .i64 0), .lit (.int .i64 0), .lit (.int .i64 0)] := rfl
@[simp] theorem t131_y : t131.y = yTLetter := rfl
@[simp] theorem t131_kind : t131.kind = .st [(0, 3), (1, 3), (2, 3)] := rfl
@[simp] theorem t131_cmp : t131.cmp = true := rfl
/-- laws.Letter = loop.example/g03007/laws.Letter -/
def t133 : TI := ⟨3, 24, .agg #[.int .i64 0, .int .i64 0, .int .i64 0], .agg [.lit (.int .i64 0), .lit (.int .i64 0), .lit (.int .i64 0)], yTLetter, .st [(0, 3), (1, 3), (2, 3)], true⟩
@[simp] theorem t133_size : t133.size = 3 := rfl
@[simp] theorem t133_bytes : t133.bytes = 24 := rfl
@[simp] theorem t133_z : t133.z = .agg [.lit (.int .i64 0), .lit (.int .i64 0), .lit (.int .i64 0)] := rfl
@[simp] theorem t133_y : t133.y = yTLetter := rfl
@[simp] theorem t133_kind : t133.kind = .st [(0, 3), (1, 3), (2, 3)] := rfl
@[simp] theorem t133_cmp : t133.cmp = true := rfl
/-- map[int][]impl.Letter -/
def t134 : TI := ⟨1, 8, .map none, .fm 0 [] .any [], .any, .map 3 71, false⟩
@[simp] theorem t134_size : t134.size = 1 := rfl
@[simp] theorem t134_bytes : t134.bytes = 8 := rfl
@[simp] theorem t134_z : t134.z = .fm 0 [] .any [] := rfl
@[simp] theorem t134_y : t134.y = .any := rfl
@[simp] theorem t134_kind : t134.kind = .map 3 71 := rfl
@[simp] theorem t134_cmp : t134.cmp = false := rfl
/-- impl.lettersByReport = loop.example/g03007/impl.lettersByReport -/
def t135 : TI := ⟨1, 8, .map none, .fm 0 [] .any [], .any, .map 3 71, false⟩
@[simp] theorem t135_size : t135.size = 1 := rfl
@[simp] theorem t135_bytes : t135.bytes = 8 := rfl
@[simp] theorem t135_z : t135.z = .fm 0 [] .any [] := rfl
@[simp] theorem t135_y : t135.y = .any := rfl
@[simp] theorem t135_kind : t135.kind = .map 3 71 := rfl
@[simp] theorem t135_cmp : t135.cmp = false := rfl
/-- func(impl.Find, impl.Find) bool -/
def t142 : TI := ⟨1, 8, .nilFunc, .lit .nilFunc, .lit .nilFunc, .func, false⟩
@[simp] theorem t142_size : t142.size = 1 := rfl
@[simp] theorem t142_bytes : t142.bytes = 8 := rfl
@[simp] theorem t142_z : t142.z = .lit .nilFunc := rfl
@[simp] theorem t142_y : t142.y = .lit .nilFunc := rfl
@[simp] theorem t142_kind : t142.kind = .func := rfl
@[simp] theorem t142_cmp : t142.cmp = false := rfl
/-- struct { Id int; Kind int; Colour int; Size int; Worth int } -/
def t143 : TI := ⟨5, 40, .agg #[.int .i64 0, .int .i64 0, .int .i64 0, .int .i64 0, .int .i64 0], .agg [.lit (.int .i64 0), .lit (.int .i64 0), .lit (.int .i64 0), .lit (.int .i64 0), .lit (.int .i64 0)], yTThing, .st [(0, 3), (1, 3), (2, 3), (3, 3), (4, 3)], true⟩
@[simp] theorem t143_size : t143.size = 5 := rfl
@[simp] theorem t143_bytes : t143.bytes = 40 := rfl
@[simp] theorem t143_z : t143.z = .agg [.lit (.int .i64 0), .lit (.int .i64 0), .lit (.int .i64 0), .lit (.int .i64 0), .lit (.int .i64 0)] := rfl
@[simp] theorem t143_y : t143.y = yTThing := rfl
@[simp] theorem t143_kind : t143.kind = .st [(0, 3), (1, 3), (2, 3), (3, 3), (4, 3)] := rfl
@[simp] theorem t143_cmp : t143.cmp = true := rfl
/-- impl.Thing = loop.example/g03007/impl.Thing -/
def t144 : TI := ⟨5, 40, .agg #[.int .i64 0, .int .i64 0, .int .i64 0, .int .i64 0, .int .i64 0], .agg [.lit (.int .i64 0), .lit (.int .i64 0), .lit (.int .i64 0), .lit (.int .i64 0), .lit (.int .i64 0)], yTThing, .st [(0, 3), (1, 3), (2, 3), (3, 3), (4, 3)], true⟩
@[simp] theorem t144_size : t144.size = 5 := rfl
@[simp] theorem t144_bytes : t144.bytes = 40 := rfl
@[simp] theorem t144_z : t144.z = .agg [.lit (.int .i64 0), .lit (.int .i64 0), .lit (.int .i64 0), .lit (.int .i64 0), .lit (.int .i64 0)] := rfl
@[simp] theorem t144_y : t144.y = yTThing := rfl
@[simp] theorem t144_kind : t144.kind = .st [(0, 3), (1, 3), (2, 3), (3, 3), (4, 3)] := rfl
@[simp] theorem t144_cmp : t144.cmp = true := rfl
/-- struct { Thing impl.Thing; Place int; At int; Finder int } -/
def t145 : TI := ⟨8, 64, .agg #[.int .i64 0, .int .i64 0, .int .i64 0, .int .i64 0, .int .i64 0, .int .i64 0, .int .i64 0, .int .i64 0], .agg [.lit (.int .i64 0), .lit (.int .i64 0), .lit (.int .i64 0), .lit (.int .i64 0), .lit (.int .i64 0), .lit (.int .i64 0), .lit (.int .i64 0), .lit (.int .i64 0)], yTFind, .st [(0, 144), (5, 3), (6, 3), (7, 3)], true⟩
@[simp] theorem t145_size : t145.size = 8 := rfl
@[simp] theorem t145_bytes : t145.bytes = 64 := rfl
@[simp] theorem t145_z : t145.z = .agg [.lit (.int .i64 0), .lit (.int .i64 0), .lit (.int .i64 0), .lit (.int .i64 0), .lit (.int .i64 0), .lit (.int .i64 0), .lit (.int .i64 0), .lit (.int .i64 0)] := rfl
@[simp] theorem t145_y : t145.y = yTFind := rfl
@[simp] theorem t145_kind : t145.kind = .st [(0, 144), (5, 3), (6, 3), (7, 3)] := rfl
@[simp] theorem t145_cmp : t145.cmp = true := rfl
/-- impl.Find = loop.example/g03007/impl.Find -/
def t146 : TI := ⟨8, 64, .agg #[.int .i64 0, .int .i64 0, .int .i64 0, .int .i64 0, .int .i64 0, .int .i64 0, .int .i64 0, .int .i64 0], .agg [.lit (.int .i64 0), .lit (.int .i64 0), .lit (.int .i64 0), .lit (.int .i64 0), .lit (.int .i64 0), .lit (.int .i64 0), .lit (.int .i64 0), .lit (.int .i64 0)], yTFind, .st [(0, 144), (5, 3), (6, 3), (7, 3)], true⟩
@[simp] theorem t146_size : t146.size = 8 := rfl
@[simp] theorem t146_bytes : t146.bytes = 64 := rfl
@[simp] theorem t146_z : t146.z = .agg [.lit (.int .i64 0), .lit (.int .i64 0), .lit (.int .i64 0), .lit (.int .i64 0), .lit (.int .i64 0), .lit (.int .i64 0), .lit (.int .i64 0), .lit (.int .i64 0)] := rfl
@[simp] theorem t146_y : t146.y = yTFind := rfl
@[simp] theorem t146_kind : t146.kind = .st [(0, 144), (5, 3), (6, 3), (7, 3)] := rfl
@[simp] theorem t146_cmp : t146.cmp = true := rfl
/-- laws.Thing = loop.example/g03007/laws.Thing -/
def t148 : TI := ⟨5, 40, .agg #[.int .i64 0, .int .i64 0, .int .i64 0, .int .i64 0, .int .i64 0], .agg [.lit (.int .i64 0), .lit (.int .i64 0), .lit (.int .i64 0), .lit (.int .i64 0), .lit (.int .i64 0)], yTThing, .st [(0, 3), (1, 3), (2, 3), (3, 3), (4, 3)], true⟩
@[simp] theorem t148_size : t148.size = 5 := rfl
@[simp] theorem t148_bytes : t148.bytes = 40 := rfl
@[simp] theorem t148_z : t148.z = .agg [.lit (.int .i64 0), .lit (.int .i64 0), .lit (.int .i64 0), .lit (.int .i64 0), .lit (.int .i64 0)] := rfl
@[simp] theorem t148_y : t148.y = yTThing := rfl
@[simp] theorem t148_kind : t148.kind = .st [(0, 3), (1, 3), (2, 3), (3, 3), (4, 3)] := rfl
@[simp] theorem t148_cmp : t148.cmp = true := rfl
/-- struct { Thing laws.Thing; Place int; At int; Finder int } -/
def t149 : TI := ⟨8, 64, .agg #[.int .i64 0, .int .i64 0, .int .i64 0, .int .i64 0, .int .i64 0, .int .i64 0, .int .i64 0, .int .i64 0], .agg [.lit (.int .i64 0), .lit (.int .i64 0), .lit (.int .i64 0), .lit (.int .i64 0), .lit (.int .i64 0), .lit (.int .i64 0), .lit (.int .i64 0), .lit (.int .i64 0)], yTFind, .st [(0, 148), (5, 3), (6, 3), (7, 3)], true⟩
@[simp] theorem t149_size : t149.size = 8 := rfl
@[simp] theorem t149_bytes : t149.bytes = 64 := rfl
@[simp] theorem t149_z : t149.z = .agg [.lit (.int .i64 0), .lit (.int .i64 0), .lit (.int .i64 0), .lit (.int .i64 0), .lit (.int .i64 0), .lit (.int .i64 0), .lit (.int .i64 0), .lit (.int .i64 0)] := rfl
@[simp] theorem t149_y : t149.y = yTFind := rfl
@[simp] theorem t149_kind : t149.kind = .st [(0, 148), (5, 3), (6, 3), (7, 3)] := rfl
@[simp] theorem t149_cmp : t149.cmp = true := rfl
/-- laws.Find = loop.example/g03007/laws.Find -/
def t150 : TI := ⟨8, 64, .agg #[.int .i64 0, .int .i64 0, .int .i64 0, .int .i64 0, .int .i64 0, .int .i64 0, .int .i64 0, .int .i64 0], .agg [.lit (.int .i64 0), .lit (.int .i64 0), .lit (.int .i64 0), .lit (.int .i64 0), .lit (.int .i64 0), .lit (.int .i64 0), .lit (.int .i64 0), .lit (.int .i64 0)], yTFind, .st [(0, 148), (5, 3), (6, 3), (7, 3)], true⟩
@[simp] theorem t150_size : t150.size = 8 := rfl
@[simp] theorem t150_bytes : t150.bytes = 64 := rfl
@[simp] theorem t150_z : t150.z = .agg [.lit (.int .i64 0), .lit (.int .i64 0), .lit (.int .i64 0), .lit (.int .i64 0), .lit (.int .i64 0), .lit (.int .i64 0), .lit (.int .i64 0), .lit (.int .i64 0)] := rfl
@[simp] theorem t150_y : t150.y = yTFind := rfl
@[simp] theorem t150_kind : t150.kind = .st [(0, 148), (5, 3), (6, 3), (7, 3)] := rfl
@[simp] theorem t150_cmp : t150.cmp = true := rfl
/-- map[impl.likeness][]impl.Find -/
def t151 : TI := ⟨1, 8, .map none, .fm 0 [] .any [], .any, .map 153 84, false⟩
@[simp] theorem t151_size : t151.size = 1 := rfl
@[simp] theorem t151_bytes : t151.bytes = 8 := rfl
@[simp] theorem t151_z : t151.z = .fm 0 [] .any [] := rfl
@[simp] theorem t151_y : t151.y = .any := rfl
@[simp] theorem t151_kind : t151.kind = .map 153 84 := rfl
@[simp] theorem t151_cmp : t151.cmp = false := rfl
/-- struct { kind int; colour int; size int; place int } -/
def t152 : TI := ⟨4, 32, .agg #[.int .i64 0, .int .i64 0, .int .i64 0, .int .i64 0], .agg [.lit (.int .i64 0), .lit (.int .i64 0), .lit (.int .i64 0), .lit (.int .i64 0)], yTLikeness, .st [(0, 3), (1, 3), (2, 3), (3, 3)], true⟩
@[simp] theorem t152_size : t152.size = 4 := rfl
@[simp] theorem t152_bytes : t152.bytes = 32 := rfl
@[simp] theorem t152_z : t152.z = .agg [.lit (.int .i64 0), .lit (.int .i64 0), .lit (.int .i64 0), .lit (.int .i64 0)] := rfl
@[simp] theorem t152_y : t152.y = yTLikeness := rfl
@[simp] theorem t152_kind : t152.kind = .st [(0, 3), (1, 3), (2, 3), (3, 3)] := rfl
@[simp] theorem t152_cmp : t152.cmp = true := rfl
/-- impl.likeness = loop.example/g03007/impl.likeness -/
def t153 : TI := ⟨4, 32, .agg #[.int .i64 0, .int .i64 0, .int .i64 0, .int .i64 0], .agg [.lit (.int .i64 0), .lit (.int .i64 0), .lit (.int .i64 0), .lit (.int .i64 0)], yTLikeness, .st [(0, 3), (1, 3), (2, 3), (3, 3)], true⟩
@[simp] theorem t153_size : t153.size = 4 := rfl
@[simp] theorem t153_bytes : t153.bytes = 32 := rfl
@[simp] theorem t153_z : t153.z = .agg [.lit (.int .i64 0), .lit (.int .i64 0), .lit (.int .i64 0), .lit (.int .i64 0)] := rfl
@[simp] theorem t153_y : t153.y = yTLikeness := rfl
@[simp] theorem t153_kind : t153.kind = .st [(0, 3), (1, 3), (2, 3), (3, 3)] := rfl
@[simp] theorem t153_cmp : t153.cmp = true := rfl
/-- func(impl.Find) bool -/
def t156 : TI := ⟨1, 8, .nilFunc, .lit .nilFunc, .lit .nilFunc, .func, false⟩
@[simp] theorem t156_size : t156.size = 1 := rfl
@[simp] theorem t156_bytes : t156.bytes = 8 := rfl
@[simp] theorem t156_z : t156.z = .lit .nilFunc := rfl
@[simp] theorem t156_y : t156.y = .lit .nilFunc := rfl
@[simp] theorem t156_kind : t156.kind = .func := rfl
@[simp] theorem t156_cmp : t156.cmp = false := rfl
/-- struct { report int; thing int } -/
def t167 : TI := ⟨2, 16, .agg #[.int .i64 0, .int .i64 0], .agg [.lit (.int .i64 0), .lit (.int .i64 0)], yTTopic, .st [(0, 3), (1, 3)], true⟩
@[simp] theorem t167_size : t167.size = 2 := rfl
@[simp] theorem t167_bytes : t167.bytes = 16 := rfl
@[simp] theorem t167_z : t167.z = .agg [.lit (.int .i64 0), .lit (.int .i64 0)] := rfl
@[simp] theorem t167_y : t167.y = yTTopic := rfl
@[simp] theorem t167_kind : t167.kind = .st [(0, 3), (1, 3)] := rfl
@[simp] theorem t167_cmp : t167.cmp = true := rfl
/-- impl.topic = loop.example/g03007/impl.topic -/
def t168 : TI := ⟨2, 16, .agg #[.int .i64 0, .int .i64 0], .agg [.lit (.int .i64 0), .lit (.int .i64 0)], yTTopic, .st [(0, 3), (1, 3)], true⟩
@[simp] theorem t168_size : t168.size = 2 := rfl
@[simp] theorem t168_bytes : t168.bytes = 16 := rfl
@[simp] theorem t168_z : t168.z = .agg [.lit (.int .i64 0), .lit (.int .i64 0)] := rfl
@[simp] theorem t168_y : t168.y = yTTopic := rfl
@[simp] theorem t168_kind : t168.kind = .st [(0, 3), (1, 3)] := rfl
@[simp] theorem t168_cmp : t168.cmp = true := rfl
/-- func(impl.Find) int -/
def t171 : TI := ⟨1, 8, .nilFunc, .lit .nilFunc, .lit .nilFunc, .func, false⟩
@[simp] theorem t171_size : t171.size = 1 := rfl
@[simp] theorem t171_bytes : t171.bytes = 8 := rfl
@[simp] theorem t171_z : t171.z = .lit .nilFunc := rfl
@[simp] theorem t171_y : t171.y = .lit .nilFunc := rfl
@[simp] theorem t171_kind : t171.kind = .func := rfl
@[simp] theorem t171_cmp : t171.cmp = false := rfl
/-- struct { items []impl.Find; numberOf func(impl.Find) int } -/
def t172 : TI := ⟨2, 32, .agg #[.slice none 0 0, .nilFunc], .agg [.sl true 0 .any [], .lit .nilFunc], .any, .st [(0, 84), (1, 171)], false⟩
@[simp] theorem t172_size : t172.size = 2 := rfl
@[simp] theorem t172_bytes : t172.bytes = 32 := rfl
@[simp] theorem t172_z : t172.z = .agg [.sl true 0 .any [], .lit .nilFunc] := rfl
@[simp] theorem t172_y : t172.y = .any := rfl
@[simp] theorem t172_kind : t172.kind = .st [(0, 84), (1, 171)] := rfl
@[simp] theorem t172_cmp : t172.cmp = false := rfl
/-- impl.sortedList[loop.example/g03007/impl.Find] = loop.example/g03007/impl.sortedList[loop.example/g03007/impl.Find] -/
def t173 : TI := ⟨2, 32, .agg #[.slice none 0 0, .nilFunc], .agg [.sl true 0 .any [], .lit .nilFunc], .any, .st [(0, 84), (1, 171)], false⟩
@[simp] theorem t173_size : t173.size = 2 := rfl
@[simp] theorem t173_bytes : t173.bytes = 32 := rfl
@[simp] theorem t173_z : t173.z = .agg [.sl true 0 .any [], .lit .nilFunc] := rfl
@[simp] theorem t173_y : t173.y = .any := rfl
@[simp] theorem t173_kind : t173.kind = .st [(0, 84), (1, 171)] := rfl
@[simp] theorem t173_cmp : t173.cmp = false := rfl
/-- []func(impl.Find, impl.Find) bool -/
def t177 : TI := ⟨1, 24, .slice none 0 0, .sl true 0 .any [], .any, .slice 142, false⟩
@[simp] theorem t177_size : t177.size = 1 := rfl
@[simp] theorem t177_bytes : t177.bytes = 24 := rfl
@[simp] theorem t177_z : t177.z = .sl true 0 .any [] := rfl
@[simp] theorem t177_y : t177.y = .any := rfl
@[simp] theorem t177_kind : t177.kind = .slice 142 := rfl
@[simp] theorem t177_cmp : t177.cmp = false := rfl
/-- []string -/
def t179 : TI := ⟨1, 24, .slice none 0 0, .sl true 0 .any [], yLS, .slice 9, false⟩
@[simp] theorem t179_size : t179.size = 1 := rfl
@[simp] theorem t179_bytes : t179.bytes = 24 := rfl
@[simp] theorem t179_z : t179.z = .sl true 0 .any [] := rfl
@[simp] theorem t179_y : t179.y = yLS := rfl
@[simp] theorem t179_kind : t179.kind = .slice 9 := rfl
@[simp] theorem t179_cmp : t179.cmp = false := rfl
/-- [4]func(impl.Find) bool -/
def t184 : TI := ⟨4, 32, .agg #[.nilFunc, .nilFunc, .nilFunc, .nilFunc], .agg [.lit .nilFunc, .lit .nilFunc, .lit .nilFunc, .lit .nilFunc], .any, .arr 4 156, false⟩
@[simp] theorem t184_size : t184.size = 4 := rfl
@[simp] theorem t184_bytes : t184.bytes = 32 := rfl
@[simp] theorem t184_z : t184.z = .agg [.lit .nilFunc, .lit .nilFunc, .lit .nilFunc, .lit .nilFunc] := rfl
@[simp] theorem t184_y : t184.y = .any := rfl
@[simp] theorem t184_kind : t184.kind = .arr 4 156 := rfl
@[simp] theorem t184_cmp : t184.cmp = false := rfl
/-- map[int]int -/
def t186 : TI := ⟨1, 8, .map none, .fm 0 [] .any [], .any, .map 3 3, false⟩
@[simp] theorem t186_size : t186.size = 1 := rfl
@[simp] theorem t186_bytes : t186.bytes = 8 := rfl
@[simp] theorem t186_z : t186.z = .fm 0 [] .any [] := rfl
@[simp] theorem t186_y : t186.y = .any := rfl
@[simp] theorem t186_kind : t186.kind = .map 3 3 := rfl
@[simp] theorem t186_cmp : t186.cmp = false := rfl
/-- uint32 -/
def t199 : TI := ⟨1, 4, .int .u32 0, .lit (.int .u32 0), .lit (.int .u32 0), .int .u32, false⟩
@[simp] theorem t199_size : t199.size = 1 := rfl
@[simp] theorem t199_bytes : t199.bytes = 4 := rfl
@[simp] theorem t199_z : t199.z = .lit (.int .u32 0) := rfl
@[simp] theorem t199_y : t199.y = .lit (.int .u32 0) := rfl
@[simp] theorem t199_kind : t199.kind = .int .u32 := rfl
@[simp] theorem t199_cmp : t199.cmp = false := rfl
/-- func(unsafe.Pointer, unsafe.Pointer) bool -/
def t202 : TI := ⟨1, 8, .nilFunc, .lit .nilFunc, .lit .nilFunc, .func, false⟩
@[simp] theorem t202_size : t202.size = 1 := rfl
@[simp] theorem t202_bytes : t202.bytes = 8 := rfl
@[simp] theorem t202_z : t202.z = .lit .nilFunc := rfl
@[simp] theorem t202_y : t202.y = .lit .nilFunc := rfl
@[simp] theorem t202_kind : t202.kind = .func := rfl
@[simp] theorem t202_cmp : t202.cmp = false := rfl
/-- *uint8 -/
def t203 : TI := ⟨1, 8, .pointer none, .lit (.pointer none), .lit (.pointer none), .ptr 5, false⟩
@[simp] theorem t203_size : t203.size = 1 := rfl
@[simp] theorem t203_bytes : t203.bytes = 8 := rfl
@[simp] theorem t203_z : t203.z = .lit (.pointer none) := rfl
@[simp] theorem t203_y : t203.y = .lit (.pointer none) := rfl
@[simp] theorem t203_kind : t203.kind = .ptr 5 := rfl
@[simp] theorem t203_cmp : t203.cmp = false := rfl
/-- struct { Size_ uintptr; PtrBytes uintptr; Hash uint32; TFlag abi.TFlag; Align_ uint8; FieldAlign_ uint8; Kind_ abi.Kind; Equal func(unsafe.Pointer, unsafe.Pointer) bool; GCData *uint8; Str abi.NameOff; PtrToThis abi.TypeOff } -/
def t206 : TI := ⟨11, 48, .agg #[.int .u64 0, .int .u64 0, .int .u32 0, .int .u8 0, .int .u8 0, .int .u8 0, .int .u8 0, .nilFunc, .pointer none, .int .i32 0, .int .i32 0], .agg [.lit (.int .u64 0), .lit (.int .u64 0), .lit (.int .u32 0), .lit (.int .u8 0), .lit (.int .u8 0), .lit (.int .u8 0), .lit (.int .u8 0), .lit .nilFunc, .lit (.pointer none), .lit (.int .i32 0), .lit (.int .i32 0)], .any, .st [(0, 12), (1, 12), (2, 199), (3, 200), (4, 5), (5, 5), (6, 201), (7, 202), (8, 203), (9, 204), (10, 205)], false⟩
@[simp] theorem t206_size : t206.size = 11 := rfl
@[simp] theorem t206_bytes : t206.bytes = 48 := rfl
@[simp] theorem t206_z : t206.z = .agg [.lit (.int .u64 0), .lit (.int .u64 0), .lit (.int .u32 0), .lit (.int .u8 0), .lit (.int .u8 0), .lit (.int .u8 0), .lit (.int .u8 0), .lit .nilFunc, .lit (.pointer none), .lit (.int .i32 0), .lit (.int .i32 0)] := rfl
@[simp] theorem t206_y : t206.y = .any := rfl
@[simp] theorem t206_kind : t206.kind = .st [(0, 12), (1, 12), (2, 199), (3, 200), (4, 5), (5, 5), (6, 201), (7, 202), (8, 203), (9, 204), (10, 205)] := rfl
@[simp] theorem t206_cmp : t206.cmp = false := rfl
theorem t2_ok : t2.ok Try.prog 2 := ⟨by kernel_rfl, by kernel_rfl, by kernel_rfl, Try.underlying2, (fun h => by cases h), ⟨rfl, rfl, rfl, rfl, fun F h β => by simp [t2, Rep, Reps]⟩⟩
theorem t3_ok : t3.ok Try.prog 3 := ⟨by kernel_rfl, by kernel_rfl, by kernel_rfl, Try.underlying3, (fun h => by cases h), ⟨rfl, rfl, rfl, rfl, fun F h β => by simp [t3, Rep, Reps]⟩⟩
theorem t4_ok : t4.ok Try.prog 4 := ⟨by kernel_rfl, by kernel_rfl, by kernel_rfl, Try.underlying4, (fun h => by cases h), ⟨rfl, rfl, rfl, rfl, fun F h β => by simp [t4, Rep, Reps]⟩⟩
theorem t5_ok : t5.ok Try.prog 5 := ⟨by kernel_rfl, by kernel_rfl, by kernel_rfl, Try.underlying5, (fun h => by cases h), ⟨rfl, rfl, rfl, rfl, fun F h β => by simp [t5, Rep, Reps]⟩⟩
theorem t9_ok : t9.ok Try.prog 9 := ⟨by kernel_rfl, by kernel_rfl, by kernel_rfl, Try.underlying9, (fun h => by cases h), ⟨rfl, rfl, rfl, rfl, fun F h β => by simp [t9, Rep, Reps]⟩⟩
theorem t12_ok : t12.ok Try.prog 12 := ⟨by kernel_rfl, by kernel_rfl, by kernel_rfl, Try.underlying12, (fun h => by cases h), ⟨rfl, rfl, rfl, rfl, fun F h β => by simp [t12, Rep, Reps]⟩⟩
theorem t20_ok : t20.ok Try.prog 20 := ⟨by kernel_rfl, by kernel_rfl, by kernel_rfl, ⟨_, Try.underlying20⟩, (fun h => by cases h), ⟨rfl, rfl, rfl, rfl, fun F h β => by simp [t20, Rep, Reps]⟩⟩
theorem t21_ok : t21.ok Try.prog 21 := ⟨by kernel_rfl, by kernel_rfl, by kernel_rfl, Try.underlying21, (fun h => by cases h), ⟨rfl, rfl, rfl, rfl, fun F h β => by simp [t21, Rep, Reps]⟩⟩
theorem t22_ok : t22.ok Try.prog 22 := ⟨by kernel_rfl, by kernel_rfl, by kernel_rfl, Try.underlying22, (fun h => by cases h), ⟨rfl, rfl, rfl, rfl, fun F h β => by simp [t22, Rep, Reps]⟩⟩
theorem t25_ok : t25.ok Try.prog 25 := ⟨by kernel_rfl, by kernel_rfl, by kernel_rfl, Try.underlying25, (fun h => by cases h), ⟨rfl, rfl, rfl, rfl, fun F h β => by simp [t25, Rep, Reps]⟩⟩
theorem t29_ok : t29.ok Try.prog 29 := ⟨by kernel_rfl, by kernel_rfl, by kernel_rfl, ⟨_, Try.underlying29, rfl⟩, (fun _ => eqInts_of (by kernel_rfl) (by kernel_rfl) (by kernel_rfl)), ⟨rfl, rfl, rfl, rfl, fun F h β => by simp [t29, Rep, Reps]⟩⟩
theorem t30_ok : t30.ok Try.prog 30 := ⟨by kernel_rfl, by kernel_rfl, by kernel_rfl, ⟨_, Try.underlying30, rfl⟩, (fun _ => eqInts_of (by kernel_rfl) (by kernel_rfl) (by kernel_rfl)), ⟨rfl, rfl, rfl, rfl, fun F h β => by simp [t30, Rep, Reps]⟩⟩
theorem t33_ok : t33.ok Try.prog 33 := ⟨by kernel_rfl, by kernel_rfl, by kernel_rfl, ⟨_, Try.underlying33, rfl⟩, (fun _ => eqInts_of (by kernel_rfl) (by kernel_rfl) (by kernel_rfl)), ⟨rfl, rfl, rfl, rfl, fun F h β => by simp [t33, Rep, Reps]⟩⟩
theorem t39_ok : t39.ok Try.prog 39 := ⟨by kernel_rfl, by kernel_rfl, by kernel_rfl, Try.underlying39, (fun h => by cases h), ⟨rfl, rfl, rfl, rfl, fun F h β => by simp [t39, Rep, Reps]⟩⟩
theorem t44_ok : t44.ok Try.prog 44 := ⟨by kernel_rfl, by kernel_rfl, by kernel_rfl, Try.underlying44, (fun h => by cases h), ⟨rfl, rfl, rfl, rfl, fun F h β => by simp [t44, Rep, Reps]⟩⟩
theorem t47_ok : t47.ok Try.prog 47 := ⟨by kernel_rfl, by kernel_rfl, by kernel_rfl, Try.underlying47, (fun h => by cases h), ⟨rfl, rfl, rfl, rfl, fun F h β => by simp [t47, Rep, Reps]⟩⟩
theorem t51_ok : t51.ok Try.prog 51 := ⟨by kernel_rfl, by kernel_rfl, by kernel_rfl, ⟨_, Try.underlying51, rfl⟩, (fun _ => eqInts_of (by kernel_rfl) (by kernel_rfl) (by kernel_rfl)), ⟨rfl, rfl, rfl, rfl, fun F h β => by simp [t51, Rep, Reps]⟩⟩
theorem t52_ok : t52.ok Try.prog 52 := ⟨by kernel_rfl, by kernel_rfl, by kernel_rfl, ⟨_, Try.underlying52, rfl⟩, (fun _ => eqInts_of (by kernel_rfl) (by kernel_rfl) (by kernel_rfl)), ⟨rfl, rfl, rfl, rfl, fun F h β => by simp [t52, Rep, Reps]⟩⟩
theorem t55_ok : t55.ok Try.prog 55 := ⟨by kernel_rfl, by kernel_rfl, by kernel_rfl, ⟨_, Try.underlying55, rfl⟩, (fun _ => eqInts_of (by kernel_rfl) (by kernel_rfl) (by kernel_rfl)), ⟨rfl, rfl, rfl, rfl, fun F h β => by simp [t55, Rep, Reps]⟩⟩
theorem t68_ok : t68.ok Try.prog 68 := ⟨by kernel_rfl, by kernel_rfl, by kernel_rfl, Try.underlying68, (fun h => by cases h), ⟨rfl, rfl, rfl, rfl, fun F h β => by simp [t68, Rep, Reps]⟩⟩
theorem t71_ok : t71.ok Try.prog 71 := ⟨by kernel_rfl, by kernel_rfl, by kernel_rfl, Try.underlying71, (fun h => by cases h), ⟨rfl, rfl, rfl, rfl, fun F h β => by simp [t71, Rep, Reps]⟩⟩
theorem t81_ok : t81.ok Try.prog 81 := ⟨by kernel_rfl, by kernel_rfl, by kernel_rfl, Try.underlying81, (fun h => by cases h), ⟨rfl, rfl, rfl, rfl, fun F h β => by simp [t81, Rep, Reps]⟩⟩
theorem t84_ok : t84.ok Try.prog 84 := ⟨by kernel_rfl, by kernel_rfl, by kernel_rfl, Try.underlying84, (fun h => by cases h), ⟨rfl, rfl, rfl, rfl, fun F h β => by simp [t84, Rep, Reps]⟩⟩
theorem t93_ok : t93.ok Try.prog 93 := ⟨by kernel_rfl, by kernel_rfl, by kernel_rfl, ⟨_, _, _, Try.underlying93⟩, (fun h => by cases h), ⟨rfl, rfl, rfl, rfl, fun F h β => by simp [t93, Rep, Reps]⟩⟩
theorem t94_ok : t94.ok Try.prog 94 := ⟨by kernel_rfl, by kernel_rfl, by kernel_rfl, ⟨_, Try.underlying94, rfl⟩, (fun h => by cases h), ⟨rfl, rfl, rfl, rfl, fun F h β => by
    show Rep F h β t94.z t94.zero
    simp only [t94, Rep, Reps]
    exact ⟨_, rfl, _, _, rfl, (.inl ⟨by trivial, none, 0, by trivial, by intros; rfl⟩), _, _, rfl, (by trivial), rfl⟩⟩⟩
theorem t95_ok : t95.ok Try.prog 95 := ⟨by kernel_rfl, by kernel_rfl, by kernel_rfl, ⟨_, Try.underlying95, rfl⟩, (fun h => by cases h), ⟨rfl, rfl, rfl, rfl, fun F h β => by
    show Rep F h β t95.z t95.zero
    simp only [t95, Rep, Reps]
    exact ⟨_, rfl, _, _, rfl, (.inl ⟨by trivial, none, 0, by trivial, by intros; rfl⟩), _, _, rfl, (by trivial), rfl⟩⟩⟩
theorem t99_ok : t99.ok Try.prog 99 := ⟨by kernel_rfl, by kernel_rfl, by kernel_rfl, Try.underlying99, (fun h => by cases h), ⟨rfl, rfl, rfl, rfl, fun F h β => by simp [t99, Rep, Reps]⟩⟩
theorem t107_ok : t107.ok Try.prog 107 := ⟨by kernel_rfl, by kernel_rfl, by kernel_rfl, Try.underlying107, (fun h => by cases h), ⟨rfl, rfl, rfl, rfl, fun F h β => by simp [t107, Rep, Reps]⟩⟩
theorem t108_ok : t108.ok Try.prog 108 := ⟨by kernel_rfl, by kernel_rfl, by kernel_rfl, Try.underlying108, (fun h => by cases h), ⟨rfl, rfl, rfl, rfl, fun F h β => by simp [t108, Rep, Reps]⟩⟩
theorem t109_ok : t109.ok Try.prog 109 := ⟨by kernel_rfl, by kernel_rfl, by kernel_rfl, ⟨_, Try.underlying109, rfl⟩, (fun h => by cases h), ⟨rfl, rfl, rfl, rfl, fun F h β => by
    show Rep F h β t109.z t109.zero
    simp only [t109, Rep, Reps]
    exact ⟨_, rfl, _, _, rfl, (.inl ⟨by trivial, by trivial, by trivial⟩), rfl⟩⟩⟩
theorem t110_ok : t110.ok Try.prog 110 := ⟨by kernel_rfl, by kernel_rfl, by kernel_rfl, ⟨_, Try.underlying110, rfl⟩, (fun h => by cases h), ⟨rfl, rfl, rfl, rfl, fun F h β => by
    show Rep F h β t110.z t110.zero
    simp only [t110, Rep, Reps]
    exact ⟨_, rfl, _, _, rfl, (.inl ⟨by trivial, by trivial, by trivial⟩), rfl⟩⟩⟩
theorem t112_ok : t112.ok Try.prog 112 := ⟨by kernel_rfl, by kernel_rfl, by kernel_rfl, Try.underlying112, (fun h => by cases h), ⟨rfl, rfl, rfl, rfl, fun F h β => by simp [t112, Rep, Reps]⟩⟩
theorem t113_ok : t113.ok Try.prog 113 := ⟨by kernel_rfl, by kernel_rfl, by kernel_rfl, Try.underlying113, (fun h => by cases h), ⟨rfl, rfl, rfl, rfl, fun F h β => by simp [t113, Rep, Reps]⟩⟩
theorem t116_ok : t116.ok Try.prog 116 := ⟨by kernel_rfl, by kernel_rfl, by kernel_rfl, Try.underlying116, (fun h => by cases h), ⟨rfl, rfl, rfl, rfl, fun F h β => by simp [t116, Rep, Reps]⟩⟩
theorem t121_ok : t121.ok Try.prog 121 := ⟨by kernel_rfl, by kernel_rfl, by kernel_rfl, ⟨_, Try.underlying121, rfl⟩, (fun h => by cases h), ⟨rfl, rfl, rfl, rfl, fun F h β => by simp [t121, Rep, Reps]⟩⟩
theorem t122_ok : t122.ok Try.prog 122 := ⟨by kernel_rfl, by kernel_rfl, by kernel_rfl, ⟨_, Try.underlying122, rfl⟩, (fun h => by cases h), ⟨rfl, rfl, rfl, rfl, fun F h β => by simp [t122, Rep, Reps]⟩⟩
theorem t126_ok : t126.ok Try.prog 126 := ⟨by kernel_rfl, by kernel_rfl, by kernel_rfl, Try.underlying126, (fun h => by cases h), ⟨rfl, rfl, rfl, rfl, fun F h β => by simp [t126, Rep, Reps]⟩⟩
theorem t127_ok : t127.ok Try.prog 127 := ⟨by kernel_rfl, by kernel_rfl, by kernel_rfl, Try.underlying127, (fun h => by cases h), ⟨rfl, rfl, rfl, rfl, fun F h β => by simp [t127, Rep, Reps]⟩⟩
theorem t130_ok : t130.ok Try.prog 130 := ⟨by kernel_rfl, by kernel_rfl, by kernel_rfl, ⟨_, Try.underlying130, rfl⟩, (fun _ => eqInts_of (by kernel_rfl) (by kernel_rfl) (by kernel_rfl)), ⟨rfl, rfl, rfl, rfl, fun F h β => by simp [t130, Rep, Reps]⟩⟩
theorem t131_ok : t131.ok Try.prog 131 := ⟨by kernel_rfl, by kernel_rfl, by kernel_rfl, ⟨_, Try.underlying131, rfl⟩, (fun _ => eqInts_of (by kernel_rfl) (by kernel_rfl) (by kernel_rfl)), ⟨rfl, rfl, rfl, rfl, fun F h β => by simp [t131, Rep, Reps]⟩⟩
theorem t133_ok : t133.ok Try.prog 133 := ⟨by kernel_rfl, by kernel_rfl, by kernel_rfl, ⟨_, Try.underlying133, rfl⟩, (fun _ => eqInts_of (by kernel_rfl) (by kernel_rfl) (by kernel_rfl)), ⟨rfl, rfl, rfl, rfl, fun F h β => by simp [t133, Rep, Reps]⟩⟩
theorem t134_ok : t134.ok Try.prog 134 := ⟨by kernel_rfl, by kernel_rfl, by kernel_rfl, Try.underlying134, (fun h => by cases h), ⟨rfl, rfl, rfl, rfl, fun F h β => by simp [t134, Rep, Reps]⟩⟩
theorem t135_ok : t135.ok Try.prog 135 := ⟨by kernel_rfl, by kernel_rfl, by kernel_rfl, Try.underlying135, (fun h => by cases h), ⟨rfl, rfl, rfl, rfl, fun F h β => by simp [t135, Rep, Reps]⟩⟩
theorem t142_ok : t142.ok Try.prog 142 := ⟨by kernel_rfl, by kernel_rfl, by kernel_rfl, ⟨_, _, _, Try.underlying142⟩, (fun h => by cases h), ⟨rfl, rfl, rfl, rfl, fun F h β => by simp [t142, Rep, Reps]⟩⟩
theorem t143_ok : t143.ok Try.prog 143 := ⟨by kernel_rfl, by kernel_rfl, by kernel_rfl, ⟨_, Try.underlying143, rfl⟩, (fun _ => eqInts_of (by kernel_rfl) (by kernel_rfl) (by kernel_rfl)), ⟨rfl, rfl, rfl, rfl, fun F h β => by simp [t143, Rep, Reps]⟩⟩
theorem t144_ok : t144.ok Try.prog 144 := ⟨by kernel_rfl, by kernel_rfl, by kernel_rfl, ⟨_, Try.underlying144, rfl⟩, (fun _ => eqInts_of (by kernel_rfl) (by kernel_rfl) (by kernel_rfl)), ⟨rfl, rfl, rfl, rfl, fun F h β => by simp [t144, Rep, Reps]⟩⟩
theorem t145_ok : t145.ok Try.prog 145 := ⟨by kernel_rfl, by kernel_rfl, by kernel_rfl, ⟨_, Try.underlying145, rfl⟩, (fun _ => eqInts_of (by kernel_rfl) (by kernel_rfl) (by kernel_rfl)), ⟨rfl, rfl, rfl, rfl, fun F h β => by simp [t145, Rep, Reps]⟩⟩
theorem t146_ok : t146.ok Try.prog 146 := ⟨by kernel_rfl, by kernel_rfl, by kernel_rfl, ⟨_, Try.underlying146, rfl⟩, (fun _ => eqInts_of (by kernel_rfl) (by kernel_rfl) (by kernel_rfl)), ⟨rfl, rfl, rfl, rfl, fun F h β => by simp [t146, Rep, Reps]⟩⟩
theorem t148_ok : t148.ok Try.prog 148 := ⟨by kernel_rfl, by kernel_rfl, by kernel_rfl, ⟨_, Try.underlying148, rfl⟩, (fun _ => eqInts_of (by kernel_rfl) (by kernel_rfl) (by kernel_rfl)), ⟨rfl, rfl, rfl, rfl, fun F h β => by simp [t148, Rep, Reps]⟩⟩
theorem t149_ok : t149.ok Try.prog 149 := ⟨by kernel_rfl, by kernel_rfl, by kernel_rfl, ⟨_, Try.underlying149, rfl⟩, (fun _ => eqInts_of (by kernel_rfl) (by kernel_rfl) (by kernel_rfl)), ⟨rfl, rfl, rfl, rfl, fun F h β => by simp [t149, Rep, Reps]⟩⟩
theorem t150_ok : t150.ok Try.prog 150 := ⟨by kernel_rfl, by kernel_rfl, by kernel_rfl, ⟨_, Try.underlying150, rfl⟩, (fun _ => eqInts_of (by kernel_rfl) (by kernel_rfl) (by kernel_rfl)), ⟨rfl, rfl, rfl, rfl, fun F h β => by simp [t150, Rep, Reps]⟩⟩
theorem t151_ok : t151.ok Try.prog 151 := ⟨by kernel_rfl, by kernel_rfl, by kernel_rfl, Try.underlying151, (fun h => by cases h), ⟨rfl, rfl, rfl, rfl, fun F h β => by simp [t151, Rep, Reps]⟩⟩
theorem t152_ok : t152.ok Try.prog 152 := ⟨by kernel_rfl, by kernel_rfl, by kernel_rfl, ⟨_, Try.underlying152, rfl⟩, (fun _ => eqInts_of (by kernel_rfl) (by kernel_rfl) (by kernel_rfl)), ⟨rfl, rfl, rfl, rfl, fun F h β => by simp [t152, Rep, Reps]⟩⟩
theorem t153_ok : t153.ok Try.prog 153 := ⟨by kernel_rfl, by kernel_rfl, by kernel_rfl, ⟨_, Try.underlying153, rfl⟩, (fun _ => eqInts_of (by kernel_rfl) (by kernel_rfl) (by kernel_rfl)), ⟨rfl, rfl, rfl, rfl, fun F h β => by simp [t153, Rep, Reps]⟩⟩
theorem t156_ok : t156.ok Try.prog 156 := ⟨by kernel_rfl, by kernel_rfl, by kernel_rfl, ⟨_, _, _, Try.underlying156⟩, (fun h => by cases h), ⟨rfl, rfl, rfl, rfl, fun F h β => by simp [t156, Rep, Reps]⟩⟩
theorem t167_ok : t167.ok Try.prog 167 := ⟨by kernel_rfl, by kernel_rfl, by kernel_rfl, ⟨_, Try.underlying167, rfl⟩, (fun _ => eqInts_of (by kernel_rfl) (by kernel_rfl) (by kernel_rfl)), ⟨rfl, rfl, rfl, rfl, fun F h β => by simp [t167, Rep, Reps]⟩⟩
theorem t168_ok : t168.ok Try.prog 168 := ⟨by kernel_rfl, by kernel_rfl, by kernel_rfl, ⟨_, Try.underlying168, rfl⟩, (fun _ => eqInts_of (by kernel_rfl) (by kernel_rfl) (by kernel_rfl)), ⟨rfl, rfl, rfl, rfl, fun F h β => by simp [t168, Rep, Reps]⟩⟩
theorem t171_ok : t171.ok Try.prog 171 := ⟨by kernel_rfl, by kernel_rfl, by kernel_rfl, ⟨_, _, _, Try.underlying171⟩, (fun h => by cases h), ⟨rfl, rfl, rfl, rfl, fun F h β => by simp [t171, Rep, Reps]⟩⟩
theorem t172_ok : t172.ok Try.prog 172 := ⟨by kernel_rfl, by kernel_rfl, by kernel_rfl, ⟨_, Try.underlying172, rfl⟩, (fun h => by cases h), ⟨rfl, rfl, rfl, rfl, fun F h β => by
    show Rep F h β t172.z t172.zero
    simp only [t172, Rep, Reps]
    exact ⟨_, rfl, _, _, rfl, (.inl ⟨by trivial, none, 0, by trivial, by intros; rfl⟩), _, _, rfl, (by trivial), rfl⟩⟩⟩
theorem t173_ok : t173.ok Try.prog 173 := ⟨by kernel_rfl, by kernel_rfl, by kernel_rfl, ⟨_, Try.underlying173, rfl⟩, (fun h => by cases h), ⟨rfl, rfl, rfl, rfl, fun F h β => by
    show Rep F h β t173.z t173.zero
    simp only [t173, Rep, Reps]
    exact ⟨_, rfl, _, _, rfl, (.inl ⟨by trivial, none, 0, by trivial, by intros; rfl⟩), _, _, rfl, (by trivial), rfl⟩⟩⟩
theorem t177_ok : t177.ok Try.prog 177 := ⟨by kernel_rfl, by kernel_rfl, by kernel_rfl, Try.underlying177, (fun h => by cases h), ⟨rfl, rfl, rfl, rfl, fun F h β => by simp [t177, Rep, Reps]⟩⟩
theorem t179_ok : t179.ok Try.prog 179 := ⟨by kernel_rfl, by kernel_rfl, by kernel_rfl, Try.underlying179, (fun h => by cases h), ⟨rfl, rfl, rfl, rfl, fun F h β => by simp [t179, Rep, Reps]⟩⟩
theorem t184_ok : t184.ok Try.prog 184 := ⟨by kernel_rfl, by kernel_rfl, by kernel_rfl, Try.underlying184, (fun h => by cases h), ⟨rfl, rfl, rfl, rfl, fun F h β => by simp [t184, Rep, Reps]⟩⟩
theorem t186_ok : t186.ok Try.prog 186 := ⟨by kernel_rfl, by kernel_rfl, by kernel_rfl, Try.underlying186, (fun h => by cases h), ⟨rfl, rfl, rfl, rfl, fun F h β => by simp [t186, Rep, Reps]⟩⟩
theorem t199_ok : t199.ok Try.prog 199 := ⟨by kernel_rfl, by kernel_rfl, by kernel_rfl, Try.underlying199, (fun h => by cases h), ⟨rfl, rfl, rfl, rfl, fun F h β => by simp [t199, Rep, Reps]⟩⟩
theorem t202_ok : t202.ok Try.prog 202 := ⟨by kernel_rfl, by kernel_rfl, by kernel_rfl, ⟨_, _, _, Try.underlying202⟩, (fun h => by cases h), ⟨rfl, rfl, rfl, rfl, fun F h β => by simp [t202, Rep, Reps]⟩⟩
theorem t203_ok : t203.ok Try.prog 203 := ⟨by kernel_rfl, by kernel_rfl, by kernel_rfl, Try.underlying203, (fun h => by cases h), ⟨rfl, rfl, rfl, rfl, fun F h β => by simp [t203, Rep, Reps]⟩⟩
theorem t206_ok : t206.ok Try.prog 206 := ⟨by kernel_rfl, by kernel_rfl, by kernel_rfl, ⟨_, Try.underlying206, rfl⟩, (fun h => by cases h), ⟨rfl, rfl, rfl, rfl, fun F h β => by simp [t206, Rep, Reps]⟩⟩
def G : Ctx := [(2, t2), (3, t3), (4, t4), (5, t5), (9, t9), (12, t12), (20, t20), (21, t21), (22, t22), (25, t25), (29, t29), (30, t30), (33, t33), (39, t39), (44, t44), (47, t47), (51, t51), (52, t52), (55, t55), (68, t68), (71, t71), (81, t81), (84, t84), (93, t93), (94, t94), (95, t95), (99, t99), (107, t107), (108, t108), (109, t109), (110, t110), (112, t112), (113, t113), (116, t116), (121, t121), (122, t122), (126, t126), (127, t127), (130, t130), (131, t131), (133, t133), (134, t134), (135, t135), (142, t142), (143, t143), (144, t144), (145, t145), (146, t146), (148, t148), (149, t149), (150, t150), (151, t151), (152, t152), (153, t153), (156, t156), (167, t167), (168, t168), (171, t171), (172, t172), (173, t173), (177, t177), (179, t179), (184, t184), (186, t186), (199, t199), (202, t202), (203, t203), (206, t206)]
@[simp] theorem G_2 : G.get 2 = some t2 := rfl
@[simp] theorem G_3 : G.get 3 = some t3 := rfl
@[simp] theorem G_4 : G.get 4 = some t4 := rfl
@[simp] theorem G_5 : G.get 5 = some t5 := rfl
@[simp] theorem G_9 : G.get 9 = some t9 := rfl
@[simp] theorem G_12 : G.get 12 = some t12 := rfl
@[simp] theorem G_20 : G.get 20 = some t20 := rfl
@[simp] theorem G_21 : G.get 21 = some t21 := rfl
@[simp] theorem G_22 : G.get 22 = some t22 := rfl
@[simp] theorem G_25 : G.get 25 = some t25 := rfl
@[simp] theorem G_29 : G.get 29 = some t29 := rfl
@[simp] theorem G_30 : G.get 30 = some t30 := rfl
@[simp] theorem G_33 : G.get 33 = some t33 := rfl
@[simp] theorem G_39 : G.get 39 = some t39 := rfl
@[simp] theorem G_44 : G.get 44 = some t44 := rfl
@[simp] theorem G_47 : G.get 47 = some t47 := rfl
@[simp] theorem G_51 : G.get 51 = some t51 := rfl
@[simp] theorem G_52 : G.get 52 = some t52 := rfl
@[simp] theorem G_55 : G.get 55 = some t55 := rfl
@[simp] theorem G_68 : G.get 68 = some t68 := rfl
@[simp] theorem G_71 : G.get 71 = some t71 := rfl
@[simp] theorem G_81 : G.get 81 = some t81 := rfl
@[simp] theorem G_84 : G.get 84 = some t84 := rfl
@[simp] theorem G_93 : G.get 93 = some t93 := rfl
@[simp] theorem G_94 : G.get 94 = some t94 := rfl
@[simp] theorem G_95 : G.get 95 = some t95 := rfl
@[simp] theorem G_99 : G.get 99 = some t99 := rfl
@[simp] theorem G_107 : G.get 107 = some t107 := rfl
@[simp] theorem G_108 : G.get 108 = some t108 := rfl
@[simp] theorem G_109 : G.get 109 = some t109 := rfl
@[simp] theorem G_110 : G.get 110 = some t110 := rfl
@[simp] theorem G_112 : G.get 112 = some t112 := rfl
@[simp] theorem G_113 : G.get 113 = some t113 := rfl
@[simp] theorem G_116 : G.get 116 = some t116 := rfl
@[simp] theorem G_121 : G.get 121 = some t121 := rfl
@[simp] theorem G_122 : G.get 122 = some t122 := rfl
@[simp] theorem G_126 : G.get 126 = some t126 := rfl
@[simp] theorem G_127 : G.get 127 = some t127 := rfl
@[simp] theorem G_130 : G.get 130 = some t130 := rfl
@[simp] theorem G_131 : G.get 131 = some t131 := rfl
@[simp] theorem G_133 : G.get 133 = some t133 := rfl
@[simp] theorem G_134 : G.get 134 = some t134 := rfl
@[simp] theorem G_135 : G.get 135 = some t135 := rfl
@[simp] theorem G_142 : G.get 142 = some t142 := rfl
@[simp] theorem G_143 : G.get 143 = some t143 := rfl
@[simp] theorem G_144 : G.get 144 = some t144 := rfl
@[simp] theorem G_145 : G.get 145 = some t145 := rfl
@[simp] theorem G_146 : G.get 146 = some t146 := rfl
@[simp] theorem G_148 : G.get 148 = some t148 := rfl
@[simp] theorem G_149 : G.get 149 = some t149 := rfl
@[simp] theorem G_150 : G.get 150 = some t150 := rfl
@[simp] theorem G_151 : G.get 151 = some t151 := rfl
@[simp] theorem G_152 : G.get 152 = some t152 := rfl
@[simp] theorem G_153 : G.get 153 = some t153 := rfl
@[simp] theorem G_156 : G.get 156 = some t156 := rfl
@[simp] theorem G_167 : G.get 167 = some t167 := rfl
@[simp] theorem G_168 : G.get 168 = some t168 := rfl
@[simp] theorem G_171 : G.get 171 = some t171 := rfl
@[simp] theorem G_172 : G.get 172 = some t172 := rfl
@[simp] theorem G_173 : G.get 173 = some t173 := rfl
@[simp] theorem G_177 : G.get 177 = some t177 := rfl
@[simp] theorem G_179 : G.get 179 = some t179 := rfl
@[simp] theorem G_184 : G.get 184 = some t184 := rfl
@[simp] theorem G_186 : G.get 186 = some t186 := rfl
@[simp] theorem G_199 : G.get 199 = some t199 := rfl
@[simp] theorem G_202 : G.get 202 = some t202 := rfl
@[simp] theorem G_203 : G.get 203 = some t203 := rfl
@[simp] theorem G_206 : G.get 206 = some t206 := rfl
theorem G_ok : G.ok Try.prog := by
  intro p hp
  simp only [G, List.mem_cons, List.not_mem_nil, or_false] at hp
  rcases hp with rfl | rfl | rfl | rfl | rfl | rfl | rfl | rfl | rfl | rfl | rfl | rfl | rfl | rfl | rfl | rfl | rfl | rfl | rfl | rfl | rfl | rfl | rfl | rfl | rfl | rfl | rfl | rfl | rfl | rfl | rfl | rfl | rfl | rfl | rfl | rfl | rfl | rfl | rfl | rfl | rfl | rfl | rfl | rfl | rfl | rfl | rfl | rfl | rfl | rfl | rfl | rfl | rfl | rfl | rfl | rfl | rfl | rfl | rfl | rfl | rfl | rfl | rfl | rfl | rfl | rfl | rfl | rfl
  · exact t2_ok
  · exact t3_ok
  · exact t4_ok
  · exact t5_ok
  · exact t9_ok
  · exact t12_ok
  · exact t20_ok
  · exact t21_ok
  · exact t22_ok
  · exact t25_ok
  · exact t29_ok
  · exact t30_ok
  · exact t33_ok
  · exact t39_ok
  · exact t44_ok
  · exact t47_ok
  · exact t51_ok
  · exact t52_ok
  · exact t55_ok
  · exact t68_ok
  · exact t71_ok
  · exact t81_ok
  · exact t84_ok
  · exact t93_ok
  · exact t94_ok
  · exact t95_ok
  · exact t99_ok
  · exact t107_ok
  · exact t108_ok
  · exact t109_ok
  · exact t110_ok
  · exact t112_ok
  · exact t113_ok
  · exact t116_ok
  · exact t121_ok
  · exact t122_ok
  · exact t126_ok
  · exact t127_ok
  · exact t130_ok
  · exact t131_ok
  · exact t133_ok
  · exact t134_ok
  · exact t135_ok
  · exact t142_ok
  · exact t143_ok
  · exact t144_ok
  · exact t145_ok
  · exact t146_ok
  · exact t148_ok
  · exact t149_ok
  · exact t150_ok
  · exact t151_ok
  · exact t152_ok
  · exact t153_ok
  · exact t156_ok
  · exact t167_ok
  · exact t168_ok
  · exact t171_ok
  · exact t172_ok
  · exact t173_ok
  · exact t177_ok
  · exact t179_ok
  · exact t184_ok
  · exact t186_ok
  · exact t199_ok
  · exact t202_ok
  · exact t203_ok
  · exact t206_ok
theorem mix : Try.prog.follows .mixedOrders = true := by kernel_rfl
end Go.Proofs.Ytadbjlnfdjbbjaa
