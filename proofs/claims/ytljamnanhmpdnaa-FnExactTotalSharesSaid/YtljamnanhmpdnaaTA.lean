/- What is known of the types of this program: their sizes, zero values and parts. -/
import Derived.Test.YtljamnanhmpdnaaProg
import Derived.Test.YtljamnanhmpdnaaTY
import Derived.KernelRfl
namespace Go.Proofs.Ytljamnanhmpdnaa
open Go Go.Eng
set_option linter.unusedSimpArgs false
set_option linter.unusedVariables false
/-- int64 -/
def t2 : TI := ⟨1, 8, .int .i64 0, .lit (.int .i64 0), .lit (.int .i64 0), .int .i64, false⟩
@[simp] theorem t2_size : t2.size = 1 := rfl
@[simp] theorem t2_bytes : t2.bytes = 8 := rfl
@[simp] theorem t2_z : t2.z = .lit (.int .i64 0) := rfl
@[simp] theorem t2_y : t2.y = .lit (.int .i64 0) := rfl
@[simp] theorem t2_kind : t2.kind = .int .i64 := rfl
@[simp] theorem t2_cmp : t2.cmp = false := rfl
/-- int -/
def t3 : TI := ⟨1, 8, .int .i64 0, .lit (.int .i64 0), .lit (.int .i64 0), .int .i64, false⟩
@[simp] theorem t3_size : t3.size = 1 := rfl
@[simp] theorem t3_bytes : t3.bytes = 8 := rfl
@[simp] theorem t3_z : t3.z = .lit (.int .i64 0) := rfl
@[simp] theorem t3_y : t3.y = .lit (.int .i64 0) := rfl
@[simp] theorem t3_kind : t3.kind = .int .i64 := rfl
@[simp] theorem t3_cmp : t3.cmp = false := rfl
/-- bool -/
def t4 : TI := ⟨1, 1, .bool false, .lit (.bool false), .lit (.bool false), .bool, false⟩
@[simp] theorem t4_size : t4.size = 1 := rfl
@[simp] theorem t4_bytes : t4.bytes = 1 := rfl
@[simp] theorem t4_z : t4.z = .lit (.bool false) := rfl
@[simp] theorem t4_y : t4.y = .lit (.bool false) := rfl
@[simp] theorem t4_kind : t4.kind = .bool := rfl
@[simp] theorem t4_cmp : t4.cmp = false := rfl
/-- uint8 -/
def t5 : TI := ⟨1, 1, .int .u8 0, .lit (.int .u8 0), .lit (.int .u8 0), .int .u8, false⟩
@[simp] theorem t5_size : t5.size = 1 := rfl
@[simp] theorem t5_bytes : t5.bytes = 1 := rfl
@[simp] theorem t5_z : t5.z = .lit (.int .u8 0) := rfl
@[simp] theorem t5_y : t5.y = .lit (.int .u8 0) := rfl
@[simp] theorem t5_kind : t5.kind = .int .u8 := rfl
@[simp] theorem t5_cmp : t5.cmp = false := rfl
/-- string -/
def t9 : TI := ⟨1, 16, .string ⟨#[]⟩, .lit (.string ⟨#[]⟩), .lit (.string ⟨#[]⟩), .str, false⟩
@[simp] theorem t9_size : t9.size = 1 := rfl
@[simp] theorem t9_bytes : t9.bytes = 16 := rfl
@[simp] theorem t9_z : t9.z = .lit (.string ⟨#[]⟩) := rfl
@[simp] theorem t9_y : t9.y = .lit (.string ⟨#[]⟩) := rfl
@[simp] theorem t9_kind : t9.kind = .str := rfl
@[simp] theorem t9_cmp : t9.cmp = false := rfl
/-- uintptr -/
def t12 : TI := ⟨1, 8, .int .u64 0, .lit (.int .u64 0), .lit (.int .u64 0), .int .u64, false⟩
@[simp] theorem t12_size : t12.size = 1 := rfl
@[simp] theorem t12_bytes : t12.bytes = 8 := rfl
@[simp] theorem t12_z : t12.z = .lit (.int .u64 0) := rfl
@[simp] theorem t12_y : t12.y = .lit (.int .u64 0) := rfl
@[simp] theorem t12_kind : t12.kind = .int .u64 := rfl
@[simp] theorem t12_cmp : t12.cmp = false := rfl
/-- interface {} -/
def t20 : TI := ⟨1, 16, .nilIface, .lit .nilIface, .lit .nilIface, .iface, false⟩
@[simp] theorem t20_size : t20.size = 1 := rfl
@[simp] theorem t20_bytes : t20.bytes = 16 := rfl
@[simp] theorem t20_z : t20.z = .lit .nilIface := rfl
@[simp] theorem t20_y : t20.y = .lit .nilIface := rfl
@[simp] theorem t20_kind : t20.kind = .iface := rfl
@[simp] theorem t20_cmp : t20.cmp = false := rfl
/-- int32 -/
def t21 : TI := ⟨1, 4, .int .i32 0, .lit (.int .i32 0), .lit (.int .i32 0), .int .i32, false⟩
@[simp] theorem t21_size : t21.size = 1 := rfl
@[simp] theorem t21_bytes : t21.bytes = 4 := rfl
@[simp] theorem t21_z : t21.z = .lit (.int .i32 0) := rfl
@[simp] theorem t21_y : t21.y = .lit (.int .i32 0) := rfl
@[simp] theorem t21_kind : t21.kind = .int .i32 := rfl
@[simp] theorem t21_cmp : t21.cmp = false := rfl
/-- struct { Thing int; Holder int; Who int; At int; Seal int } -/
def t22 : TI := ⟨5, 40, .agg #[.int .i64 0, .int .i64 0, .int .i64 0, .int .i64 0, .int .i64 0], .agg [.lit (.int .i64 0), .lit (.int .i64 0), .lit (.int .i64 0), .lit (.int .i64 0), .lit (.int .i64 0)], yTHand, .st [(0, 3), (1, 3), (2, 3), (3, 3), (4, 3)], true⟩
@[simp] theorem t22_size : t22.size = 5 := rfl
@[simp] theorem t22_bytes : t22.bytes = 40 := rfl
@[simp] theorem t22_z : t22.z = .agg [.lit (.int .i64 0), .lit (.int .i64 0), .lit (.int .i64 0), .lit (.int .i64 0), .lit (.int .i64 0)] := rfl
@[simp] theorem t22_y : t22.y = yTHand := rfl
@[simp] theorem t22_kind : t22.kind = .st [(0, 3), (1, 3), (2, 3), (3, 3), (4, 3)] := rfl
@[simp] theorem t22_cmp : t22.cmp = true := rfl
/-- laws.Hand = loop.example/g03007/laws.Hand -/
def t23 : TI := ⟨5, 40, .agg #[.int .i64 0, .int .i64 0, .int .i64 0, .int .i64 0, .int .i64 0], .agg [.lit (.int .i64 0), .lit (.int .i64 0), .lit (.int .i64 0), .lit (.int .i64 0), .lit (.int .i64 0)], yTHand, .st [(0, 3), (1, 3), (2, 3), (3, 3), (4, 3)], true⟩
@[simp] theorem t23_size : t23.size = 5 := rfl
@[simp] theorem t23_bytes : t23.bytes = 40 := rfl
@[simp] theorem t23_z : t23.z = .agg [.lit (.int .i64 0), .lit (.int .i64 0), .lit (.int .i64 0), .lit (.int .i64 0), .lit (.int .i64 0)] := rfl
@[simp] theorem t23_y : t23.y = yTHand := rfl
@[simp] theorem t23_kind : t23.kind = .st [(0, 3), (1, 3), (2, 3), (3, 3), (4, 3)] := rfl
@[simp] theorem t23_cmp : t23.cmp = true := rfl
/-- impl.Hand = loop.example/g03007/impl.Hand -/
def t25 : TI := ⟨5, 40, .agg #[.int .i64 0, .int .i64 0, .int .i64 0, .int .i64 0, .int .i64 0], .agg [.lit (.int .i64 0), .lit (.int .i64 0), .lit (.int .i64 0), .lit (.int .i64 0), .lit (.int .i64 0)], yTHand, .st [(0, 3), (1, 3), (2, 3), (3, 3), (4, 3)], true⟩
@[simp] theorem t25_size : t25.size = 5 := rfl
@[simp] theorem t25_bytes : t25.bytes = 40 := rfl
@[simp] theorem t25_z : t25.z = .agg [.lit (.int .i64 0), .lit (.int .i64 0), .lit (.int .i64 0), .lit (.int .i64 0), .lit (.int .i64 0)] := rfl
@[simp] theorem t25_y : t25.y = yTHand := rfl
@[simp] theorem t25_kind : t25.kind = .st [(0, 3), (1, 3), (2, 3), (3, 3), (4, 3)] := rfl
@[simp] theorem t25_cmp : t25.cmp = true := rfl
/-- []laws.Hand -/
def t28 : TI := ⟨1, 24, .slice none 0 0, .sl true 0 .any [], yLTHand, .slice 23, false⟩
@[simp] theorem t28_size : t28.size = 1 := rfl
@[simp] theorem t28_bytes : t28.bytes = 24 := rfl
@[simp] theorem t28_z : t28.z = .sl true 0 .any [] := rfl
@[simp] theorem t28_y : t28.y = yLTHand := rfl
@[simp] theorem t28_kind : t28.kind = .slice 23 := rfl
@[simp] theorem t28_cmp : t28.cmp = false := rfl
/-- []impl.Hand -/
def t31 : TI := ⟨1, 24, .slice none 0 0, .sl true 0 .any [], yLTHand, .slice 25, false⟩
@[simp] theorem t31_size : t31.size = 1 := rfl
@[simp] theorem t31_bytes : t31.bytes = 24 := rfl
@[simp] theorem t31_z : t31.z = .sl true 0 .any [] := rfl
@[simp] theorem t31_y : t31.y = yLTHand := rfl
@[simp] theorem t31_kind : t31.kind = .slice 25 := rfl
@[simp] theorem t31_cmp : t31.cmp = false := rfl
/-- []int -/
def t38 : TI := ⟨1, 24, .slice none 0 0, .sl true 0 .any [], yLI, .slice 3, false⟩
@[simp] theorem t38_size : t38.size = 1 := rfl
@[simp] theorem t38_bytes : t38.bytes = 24 := rfl
@[simp] theorem t38_z : t38.z = .sl true 0 .any [] := rfl
@[simp] theorem t38_y : t38.y = yLI := rfl
@[simp] theorem t38_kind : t38.kind = .slice 3 := rfl
@[simp] theorem t38_cmp : t38.cmp = false := rfl
/-- struct { Who int; Cents int; Seal int } -/
def t50 : TI := ⟨3, 24, .agg #[.int .i64 0, .int .i64 0, .int .i64 0], .agg [.lit (.int .i64 0), .lit (.int .i64 0), .lit (.int .i64 0)], yTBid, .st [(0, 3), (1, 3), (2, 3)], true⟩
@[simp] theorem t50_size : t50.size = 3 := rfl
@[simp] theorem t50_bytes : t50.bytes = 24 := rfl
@[simp] theorem t50_z : t50.z = .agg [.lit (.int .i64 0), .lit (.int .i64 0), .lit (.int .i64 0)] := rfl
@[simp] theorem t50_y : t50.y = yTBid := rfl
@[simp] theorem t50_kind : t50.kind = .st [(0, 3), (1, 3), (2, 3)] := rfl
@[simp] theorem t50_cmp : t50.cmp = true := rfl
/-- laws.Bid = loop.example/g03007/laws.Bid -/
def t51 : TI := ⟨3, 24, .agg #[.int .i64 0, .int .i64 0, .int .i64 0], .agg [.lit (.int .i64 0), .lit (.int .i64 0), .lit (.int .i64 0)], yTBid, .st [(0, 3), (1, 3), (2, 3)], true⟩
@[simp] theorem t51_size : t51.size = 3 := rfl
@[simp] theorem t51_bytes : t51.bytes = 24 := rfl
@[simp] theorem t51_z : t51.z = .agg [.lit (.int .i64 0), .lit (.int .i64 0), .lit (.int .i64 0)] := rfl
@[simp] theorem t51_y : t51.y = yTBid := rfl
@[simp] theorem t51_kind : t51.kind = .st [(0, 3), (1, 3), (2, 3)] := rfl
@[simp] theorem t51_cmp : t51.cmp = true := rfl
/-- impl.Bid = loop.example/g03007/impl.Bid -/
def t53 : TI := ⟨3, 24, .agg #[.int .i64 0, .int .i64 0, .int .i64 0], .agg [.lit (.int .i64 0), .lit (.int .i64 0), .lit (.int .i64 0)], yTBid, .st [(0, 3), (1, 3), (2, 3)], true⟩
@[simp] theorem t53_size : t53.size = 3 := rfl
@[simp] theorem t53_bytes : t53.bytes = 24 := rfl
@[simp] theorem t53_z : t53.z = .agg [.lit (.int .i64 0), .lit (.int .i64 0), .lit (.int .i64 0)] := rfl
@[simp] theorem t53_y : t53.y = yTBid := rfl
@[simp] theorem t53_kind : t53.kind = .st [(0, 3), (1, 3), (2, 3)] := rfl
@[simp] theorem t53_cmp : t53.cmp = true := rfl
/-- []laws.Bid -/
def t56 : TI := ⟨1, 24, .slice none 0 0, .sl true 0 .any [], yLTBid, .slice 51, false⟩
@[simp] theorem t56_size : t56.size = 1 := rfl
@[simp] theorem t56_bytes : t56.bytes = 24 := rfl
@[simp] theorem t56_z : t56.z = .sl true 0 .any [] := rfl
@[simp] theorem t56_y : t56.y = yLTBid := rfl
@[simp] theorem t56_kind : t56.kind = .slice 51 := rfl
@[simp] theorem t56_cmp : t56.cmp = false := rfl
/-- []impl.Bid -/
def t59 : TI := ⟨1, 24, .slice none 0 0, .sl true 0 .any [], yLTBid, .slice 53, false⟩
@[simp] theorem t59_size : t59.size = 1 := rfl
@[simp] theorem t59_bytes : t59.bytes = 24 := rfl
@[simp] theorem t59_z : t59.z = .sl true 0 .any [] := rfl
@[simp] theorem t59_y : t59.y = yLTBid := rfl
@[simp] theorem t59_kind : t59.kind = .slice 53 := rfl
@[simp] theorem t59_cmp : t59.cmp = false := rfl
/-- struct { Id int; Kind int; Colour int; Size int; Worth int } -/
def t64 : TI := ⟨5, 40, .agg #[.int .i64 0, .int .i64 0, .int .i64 0, .int .i64 0, .int .i64 0], .agg [.lit (.int .i64 0), .lit (.int .i64 0), .lit (.int .i64 0), .lit (.int .i64 0), .lit (.int .i64 0)], yTThing, .st [(0, 3), (1, 3), (2, 3), (3, 3), (4, 3)], true⟩
@[simp] theorem t64_size : t64.size = 5 := rfl
@[simp] theorem t64_bytes : t64.bytes = 40 := rfl
@[simp] theorem t64_z : t64.z = .agg [.lit (.int .i64 0), .lit (.int .i64 0), .lit (.int .i64 0), .lit (.int .i64 0), .lit (.int .i64 0)] := rfl
@[simp] theorem t64_y : t64.y = yTThing := rfl
@[simp] theorem t64_kind : t64.kind = .st [(0, 3), (1, 3), (2, 3), (3, 3), (4, 3)] := rfl
@[simp] theorem t64_cmp : t64.cmp = true := rfl
/-- laws.Thing = loop.example/g03007/laws.Thing -/
def t65 : TI := ⟨5, 40, .agg #[.int .i64 0, .int .i64 0, .int .i64 0, .int .i64 0, .int .i64 0], .agg [.lit (.int .i64 0), .lit (.int .i64 0), .lit (.int .i64 0), .lit (.int .i64 0), .lit (.int .i64 0)], yTThing, .st [(0, 3), (1, 3), (2, 3), (3, 3), (4, 3)], true⟩
@[simp] theorem t65_size : t65.size = 5 := rfl
@[simp] theorem t65_bytes : t65.bytes = 40 := rfl
@[simp] theorem t65_z : t65.z = .agg [.lit (.int .i64 0), .lit (.int .i64 0), .lit (.int .i64 0), .lit (.int .i64 0), .lit (.int .i64 0)] := rfl
@[simp] theorem t65_y : t65.y = yTThing := rfl
@[simp] theorem t65_kind : t65.kind = .st [(0, 3), (1, 3), (2, 3), (3, 3), (4, 3)] := rfl
@[simp] theorem t65_cmp : t65.cmp = true := rfl
/-- impl.Thing = loop.example/g03007/impl.Thing -/
def t67 : TI := ⟨5, 40, .agg #[.int .i64 0, .int .i64 0, .int .i64 0, .int .i64 0, .int .i64 0], .agg [.lit (.int .i64 0), .lit (.int .i64 0), .lit (.int .i64 0), .lit (.int .i64 0), .lit (.int .i64 0)], yTThing, .st [(0, 3), (1, 3), (2, 3), (3, 3), (4, 3)], true⟩
@[simp] theorem t67_size : t67.size = 5 := rfl
@[simp] theorem t67_bytes : t67.bytes = 40 := rfl
@[simp] theorem t67_z : t67.z = .agg [.lit (.int .i64 0), .lit (.int .i64 0), .lit (.int .i64 0), .lit (.int .i64 0), .lit (.int .i64 0)] := rfl
@[simp] theorem t67_y : t67.y = yTThing := rfl
@[simp] theorem t67_kind : t67.kind = .st [(0, 3), (1, 3), (2, 3), (3, 3), (4, 3)] := rfl
@[simp] theorem t67_cmp : t67.cmp = true := rfl
/-- []laws.Share -/
def t72 : TI := ⟨1, 24, .slice none 0 0, .sl true 0 .any [], yLTShare, .slice 105, false⟩
@[simp] theorem t72_size : t72.size = 1 := rfl
@[simp] theorem t72_bytes : t72.bytes = 24 := rfl
@[simp] theorem t72_z : t72.z = .sl true 0 .any [] := rfl
@[simp] theorem t72_y : t72.y = yLTShare := rfl
@[simp] theorem t72_kind : t72.kind = .slice 105 := rfl
@[simp] theorem t72_cmp : t72.cmp = false := rfl
/-- []impl.Share -/
def t75 : TI := ⟨1, 24, .slice none 0 0, .sl true 0 .any [], yLTShare, .slice 103, false⟩
@[simp] theorem t75_size : t75.size = 1 := rfl
@[simp] theorem t75_bytes : t75.bytes = 24 := rfl
@[simp] theorem t75_z : t75.z = .sl true 0 .any [] := rfl
@[simp] theorem t75_y : t75.y = yLTShare := rfl
@[simp] theorem t75_kind : t75.kind = .slice 103 := rfl
@[simp] theorem t75_cmp : t75.cmp = false := rfl
/-- map[int]*impl.link[loop.example/g03007/impl.Hand] -/
def t81 : TI := ⟨1, 8, .map none, .fm 0 [] .any [], .any, .map 3 85, false⟩
@[simp] theorem t81_size : t81.size = 1 := rfl
@[simp] theorem t81_bytes : t81.bytes = 8 := rfl
@[simp] theorem t81_z : t81.z = .fm 0 [] .any [] := rfl
@[simp] theorem t81_y : t81.y = .any := rfl
@[simp] theorem t81_kind : t81.kind = .map 3 85 := rfl
@[simp] theorem t81_cmp : t81.cmp = false := rfl
/-- impl.handsByThing = loop.example/g03007/impl.handsByThing -/
def t82 : TI := ⟨1, 8, .map none, .fm 0 [] .any [], .any, .map 3 85, false⟩
@[simp] theorem t82_size : t82.size = 1 := rfl
@[simp] theorem t82_bytes : t82.bytes = 8 := rfl
@[simp] theorem t82_z : t82.z = .fm 0 [] .any [] := rfl
@[simp] theorem t82_y : t82.y = .any := rfl
@[simp] theorem t82_kind : t82.kind = .map 3 85 := rfl
@[simp] theorem t82_cmp : t82.cmp = false := rfl
/-- *impl.link[loop.example/g03007/impl.Hand] -/
def t85 : TI := ⟨1, 8, .pointer none, .lit (.pointer none), .lit (.pointer none), .ptr 90, false⟩
@[simp] theorem t85_size : t85.size = 1 := rfl
@[simp] theorem t85_bytes : t85.bytes = 8 := rfl
@[simp] theorem t85_z : t85.z = .lit (.pointer none) := rfl
@[simp] theorem t85_y : t85.y = .lit (.pointer none) := rfl
@[simp] theorem t85_kind : t85.kind = .ptr 90 := rfl
@[simp] theorem t85_cmp : t85.cmp = false := rfl
/-- struct { item impl.Hand; before *impl.link[loop.example/g03007/impl.Hand] } -/
def t89 : TI := ⟨6, 48, .agg #[.int .i64 0, .int .i64 0, .int .i64 0, .int .i64 0, .int .i64 0, .pointer none], .agg [.lit (.int .i64 0), .lit (.int .i64 0), .lit (.int .i64 0), .lit (.int .i64 0), .lit (.int .i64 0), .lit (.pointer none)], .any, .st [(0, 25), (5, 85)], false⟩
@[simp] theorem t89_size : t89.size = 6 := rfl
@[simp] theorem t89_bytes : t89.bytes = 48 := rfl
@[simp] theorem t89_z : t89.z = .agg [.lit (.int .i64 0), .lit (.int .i64 0), .lit (.int .i64 0), .lit (.int .i64 0), .lit (.int .i64 0), .lit (.pointer none)] := rfl
@[simp] theorem t89_y : t89.y = .any := rfl
@[simp] theorem t89_kind : t89.kind = .st [(0, 25), (5, 85)] := rfl
@[simp] theorem t89_cmp : t89.cmp = false := rfl
/-- impl.link[loop.example/g03007/impl.Hand] = loop.example/g03007/impl.link[loop.example/g03007/impl.Hand] -/
def t90 : TI := ⟨6, 48, .agg #[.int .i64 0, .int .i64 0, .int .i64 0, .int .i64 0, .int .i64 0, .pointer none], .agg [.lit (.int .i64 0), .lit (.int .i64 0), .lit (.int .i64 0), .lit (.int .i64 0), .lit (.int .i64 0), .lit (.pointer none)], .any, .st [(0, 25), (5, 85)], false⟩
@[simp] theorem t90_size : t90.size = 6 := rfl
@[simp] theorem t90_bytes : t90.bytes = 48 := rfl
@[simp] theorem t90_z : t90.z = .agg [.lit (.int .i64 0), .lit (.int .i64 0), .lit (.int .i64 0), .lit (.int .i64 0), .lit (.int .i64 0), .lit (.pointer none)] := rfl
@[simp] theorem t90_y : t90.y = .any := rfl
@[simp] theorem t90_kind : t90.kind = .st [(0, 25), (5, 85)] := rfl
@[simp] theorem t90_cmp : t90.cmp = false := rfl
/-- []string -/
def t93 : TI := ⟨1, 24, .slice none 0 0, .sl true 0 .any [], yLS, .slice 9, false⟩
@[simp] theorem t93_size : t93.size = 1 := rfl
@[simp] theorem t93_bytes : t93.bytes = 24 := rfl
@[simp] theorem t93_z : t93.z = .sl true 0 .any [] := rfl
@[simp] theorem t93_y : t93.y = yLS := rfl
@[simp] theorem t93_kind : t93.kind = .slice 9 := rfl
@[simp] theorem t93_cmp : t93.cmp = false := rfl
/-- func(impl.Bid) bool -/
def t96 : TI := ⟨1, 8, .nilFunc, .lit .nilFunc, .lit .nilFunc, .func, false⟩
@[simp] theorem t96_size : t96.size = 1 := rfl
@[simp] theorem t96_bytes : t96.bytes = 8 := rfl
@[simp] theorem t96_z : t96.z = .lit .nilFunc := rfl
@[simp] theorem t96_y : t96.y = .lit .nilFunc := rfl
@[simp] theorem t96_kind : t96.kind = .func := rfl
@[simp] theorem t96_cmp : t96.cmp = false := rfl
/-- map[int]bool -/
def t97 : TI := ⟨1, 8, .map none, .fm 0 [] .any [], .any, .map 3 4, false⟩
@[simp] theorem t97_size : t97.size = 1 := rfl
@[simp] theorem t97_bytes : t97.bytes = 8 := rfl
@[simp] theorem t97_z : t97.z = .fm 0 [] .any [] := rfl
@[simp] theorem t97_y : t97.y = .any := rfl
@[simp] theorem t97_kind : t97.kind = .map 3 4 := rfl
@[simp] theorem t97_cmp : t97.cmp = false := rfl
/-- struct { Who int; Cents int } -/
def t102 : TI := ⟨2, 16, .agg #[.int .i64 0, .int .i64 0], .agg [.lit (.int .i64 0), .lit (.int .i64 0)], yTShare, .st [(0, 3), (1, 3)], true⟩
@[simp] theorem t102_size : t102.size = 2 := rfl
@[simp] theorem t102_bytes : t102.bytes = 16 := rfl
@[simp] theorem t102_z : t102.z = .agg [.lit (.int .i64 0), .lit (.int .i64 0)] := rfl
@[simp] theorem t102_y : t102.y = yTShare := rfl
@[simp] theorem t102_kind : t102.kind = .st [(0, 3), (1, 3)] := rfl
@[simp] theorem t102_cmp : t102.cmp = true := rfl
/-- impl.Share = loop.example/g03007/impl.Share -/
def t103 : TI := ⟨2, 16, .agg #[.int .i64 0, .int .i64 0], .agg [.lit (.int .i64 0), .lit (.int .i64 0)], yTShare, .st [(0, 3), (1, 3)], true⟩
@[simp] theorem t103_size : t103.size = 2 := rfl
@[simp] theorem t103_bytes : t103.bytes = 16 := rfl
@[simp] theorem t103_z : t103.z = .agg [.lit (.int .i64 0), .lit (.int .i64 0)] := rfl
@[simp] theorem t103_y : t103.y = yTShare := rfl
@[simp] theorem t103_kind : t103.kind = .st [(0, 3), (1, 3)] := rfl
@[simp] theorem t103_cmp : t103.cmp = true := rfl
/-- laws.Share = loop.example/g03007/laws.Share -/
def t105 : TI := ⟨2, 16, .agg #[.int .i64 0, .int .i64 0], .agg [.lit (.int .i64 0), .lit (.int .i64 0)], yTShare, .st [(0, 3), (1, 3)], true⟩
@[simp] theorem t105_size : t105.size = 2 := rfl
@[simp] theorem t105_bytes : t105.bytes = 16 := rfl
@[simp] theorem t105_z : t105.z = .agg [.lit (.int .i64 0), .lit (.int .i64 0)] := rfl
@[simp] theorem t105_y : t105.y = yTShare := rfl
@[simp] theorem t105_kind : t105.kind = .st [(0, 3), (1, 3)] := rfl
@[simp] theorem t105_cmp : t105.cmp = true := rfl
/-- uint -/
def t111 : TI := ⟨1, 8, .int .u64 0, .lit (.int .u64 0), .lit (.int .u64 0), .int .u64, false⟩
@[simp] theorem t111_size : t111.size = 1 := rfl
@[simp] theorem t111_bytes : t111.bytes = 8 := rfl
@[simp] theorem t111_z : t111.z = .lit (.int .u64 0) := rfl
@[simp] theorem t111_y : t111.y = .lit (.int .u64 0) := rfl
@[simp] theorem t111_kind : t111.kind = .int .u64 := rfl
@[simp] theorem t111_cmp : t111.cmp = false := rfl
/-- []func(impl.Bid) bool -/
def t113 : TI := ⟨1, 24, .slice none 0 0, .sl true 0 .any [], .any, .slice 96, false⟩
@[simp] theorem t113_size : t113.size = 1 := rfl
@[simp] theorem t113_bytes : t113.bytes = 24 := rfl
@[simp] theorem t113_z : t113.z = .sl true 0 .any [] := rfl
@[simp] theorem t113_y : t113.y = .any := rfl
@[simp] theorem t113_kind : t113.kind = .slice 96 := rfl
@[simp] theorem t113_cmp : t113.cmp = false := rfl
/-- impl.byHeight = loop.example/g03007/impl.byHeight -/
def t115 : TI := ⟨1, 24, .slice none 0 0, .sl true 0 .any [], yLTBid, .slice 53, false⟩
@[simp] theorem t115_size : t115.size = 1 := rfl
@[simp] theorem t115_bytes : t115.bytes = 24 := rfl
@[simp] theorem t115_z : t115.z = .sl true 0 .any [] := rfl
@[simp] theorem t115_y : t115.y = yLTBid := rfl
@[simp] theorem t115_kind : t115.kind = .slice 53 := rfl
@[simp] theorem t115_cmp : t115.cmp = false := rfl
/-- map[int]int -/
def t119 : TI := ⟨1, 8, .map none, .fm 0 [] .any [], .any, .map 3 3, false⟩
@[simp] theorem t119_size : t119.size = 1 := rfl
@[simp] theorem t119_bytes : t119.bytes = 8 := rfl
@[simp] theorem t119_z : t119.z = .fm 0 [] .any [] := rfl
@[simp] theorem t119_y : t119.y = .any := rfl
@[simp] theorem t119_kind : t119.kind = .map 3 3 := rfl
@[simp] theorem t119_cmp : t119.cmp = false := rfl
/-- slices.sortedHint -/
def t122 : TI := ⟨1, 8, .int .i64 0, .lit (.int .i64 0), .lit (.int .i64 0), .int .i64, false⟩
@[simp] theorem t122_size : t122.size = 1 := rfl
@[simp] theorem t122_bytes : t122.bytes = 8 := rfl
@[simp] theorem t122_z : t122.z = .lit (.int .i64 0) := rfl
@[simp] theorem t122_y : t122.y = .lit (.int .i64 0) := rfl
@[simp] theorem t122_kind : t122.kind = .int .i64 := rfl
@[simp] theorem t122_cmp : t122.cmp = false := rfl
/-- uint32 -/
def t129 : TI := ⟨1, 4, .int .u32 0, .lit (.int .u32 0), .lit (.int .u32 0), .int .u32, false⟩
@[simp] theorem t129_size : t129.size = 1 := rfl
@[simp] theorem t129_bytes : t129.bytes = 4 := rfl
@[simp] theorem t129_z : t129.z = .lit (.int .u32 0) := rfl
@[simp] theorem t129_y : t129.y = .lit (.int .u32 0) := rfl
@[simp] theorem t129_kind : t129.kind = .int .u32 := rfl
@[simp] theorem t129_cmp : t129.cmp = false := rfl
/-- uint64 -/
def t131 : TI := ⟨1, 8, .int .u64 0, .lit (.int .u64 0), .lit (.int .u64 0), .int .u64, false⟩
@[simp] theorem t131_size : t131.size = 1 := rfl
@[simp] theorem t131_bytes : t131.bytes = 8 := rfl
@[simp] theorem t131_z : t131.z = .lit (.int .u64 0) := rfl
@[simp] theorem t131_y : t131.y = .lit (.int .u64 0) := rfl
@[simp] theorem t131_kind : t131.kind = .int .u64 := rfl
@[simp] theorem t131_cmp : t131.cmp = false := rfl
/-- interface { Len() int; Less(int, int) bool; Swap(int, int) } -/
def t132 : TI := ⟨1, 16, .nilIface, .lit .nilIface, .lit .nilIface, .iface, false⟩
@[simp] theorem t132_size : t132.size = 1 := rfl
@[simp] theorem t132_bytes : t132.bytes = 16 := rfl
@[simp] theorem t132_z : t132.z = .lit .nilIface := rfl
@[simp] theorem t132_y : t132.y = .lit .nilIface := rfl
@[simp] theorem t132_kind : t132.kind = .iface := rfl
@[simp] theorem t132_cmp : t132.cmp = false := rfl
/-- sort.Interface -/
def t133 : TI := ⟨1, 16, .nilIface, .lit .nilIface, .lit .nilIface, .iface, false⟩
@[simp] theorem t133_size : t133.size = 1 := rfl
@[simp] theorem t133_bytes : t133.bytes = 16 := rfl
@[simp] theorem t133_z : t133.z = .lit .nilIface := rfl
@[simp] theorem t133_y : t133.y = .lit .nilIface := rfl
@[simp] theorem t133_kind : t133.kind = .iface := rfl
@[simp] theorem t133_cmp : t133.cmp = false := rfl
/-- slices.xorshift -/
def t136 : TI := ⟨1, 8, .int .u64 0, .lit (.int .u64 0), .lit (.int .u64 0), .int .u64, false⟩
@[simp] theorem t136_size : t136.size = 1 := rfl
@[simp] theorem t136_bytes : t136.bytes = 8 := rfl
@[simp] theorem t136_z : t136.z = .lit (.int .u64 0) := rfl
@[simp] theorem t136_y : t136.y = .lit (.int .u64 0) := rfl
@[simp] theorem t136_kind : t136.kind = .int .u64 := rfl
@[simp] theorem t136_cmp : t136.cmp = false := rfl
/-- *int -/
def t140 : TI := ⟨1, 8, .pointer none, .lit (.pointer none), .lit (.pointer none), .ptr 3, false⟩
@[simp] theorem t140_size : t140.size = 1 := rfl
@[simp] theorem t140_bytes : t140.bytes = 8 := rfl
@[simp] theorem t140_z : t140.z = .lit (.pointer none) := rfl
@[simp] theorem t140_y : t140.y = .lit (.pointer none) := rfl
@[simp] theorem t140_kind : t140.kind = .ptr 3 := rfl
@[simp] theorem t140_cmp : t140.cmp = false := rfl
/-- *slices.xorshift -/
def t144 : TI := ⟨1, 8, .pointer none, .lit (.pointer none), .lit (.pointer none), .ptr 136, false⟩
@[simp] theorem t144_size : t144.size = 1 := rfl
@[simp] theorem t144_bytes : t144.bytes = 8 := rfl
@[simp] theorem t144_z : t144.z = .lit (.pointer none) := rfl
@[simp] theorem t144_y : t144.y = .lit (.pointer none) := rfl
@[simp] theorem t144_kind : t144.kind = .ptr 136 := rfl
@[simp] theorem t144_cmp : t144.cmp = false := rfl
/-- func(unsafe.Pointer, unsafe.Pointer) bool -/
def t155 : TI := ⟨1, 8, .nilFunc, .lit .nilFunc, .lit .nilFunc, .func, false⟩
@[simp] theorem t155_size : t155.size = 1 := rfl
@[simp] theorem t155_bytes : t155.bytes = 8 := rfl
@[simp] theorem t155_z : t155.z = .lit .nilFunc := rfl
@[simp] theorem t155_y : t155.y = .lit .nilFunc := rfl
@[simp] theorem t155_kind : t155.kind = .func := rfl
@[simp] theorem t155_cmp : t155.cmp = false := rfl
/-- *uint8 -/
def t156 : TI := ⟨1, 8, .pointer none, .lit (.pointer none), .lit (.pointer none), .ptr 5, false⟩
@[simp] theorem t156_size : t156.size = 1 := rfl
@[simp] theorem t156_bytes : t156.bytes = 8 := rfl
@[simp] theorem t156_z : t156.z = .lit (.pointer none) := rfl
@[simp] theorem t156_y : t156.y = .lit (.pointer none) := rfl
@[simp] theorem t156_kind : t156.kind = .ptr 5 := rfl
@[simp] theorem t156_cmp : t156.cmp = false := rfl
/-- struct { Size_ uintptr; PtrBytes uintptr; Hash uint32; TFlag abi.TFlag; Align_ uint8; FieldAlign_ uint8; Kind_ abi.Kind; Equal func(unsafe.Pointer, unsafe.Pointer) bool; GCData *uint8; Str abi.NameOff; PtrToThis abi.TypeOff } -/
def t159 : TI := ⟨11, 48, .agg #[.int .u64 0, .int .u64 0, .int .u32 0, .int .u8 0, .int .u8 0, .int .u8 0, .int .u8 0, .nilFunc, .pointer none, .int .i32 0, .int .i32 0], .agg [.lit (.int .u64 0), .lit (.int .u64 0), .lit (.int .u32 0), .lit (.int .u8 0), .lit (.int .u8 0), .lit (.int .u8 0), .lit (.int .u8 0), .lit .nilFunc, .lit (.pointer none), .lit (.int .i32 0), .lit (.int .i32 0)], .any, .st [(0, 12), (1, 12), (2, 129), (3, 153), (4, 5), (5, 5), (6, 154), (7, 155), (8, 156), (9, 157), (10, 158)], false⟩
@[simp] theorem t159_size : t159.size = 11 := rfl
@[simp] theorem t159_bytes : t159.bytes = 48 := rfl
@[simp] theorem t159_z : t159.z = .agg [.lit (.int .u64 0), .lit (.int .u64 0), .lit (.int .u32 0), .lit (.int .u8 0), .lit (.int .u8 0), .lit (.int .u8 0), .lit (.int .u8 0), .lit .nilFunc, .lit (.pointer none), .lit (.int .i32 0), .lit (.int .i32 0)] := rfl
@[simp] theorem t159_y : t159.y = .any := rfl
@[simp] theorem t159_kind : t159.kind = .st [(0, 12), (1, 12), (2, 129), (3, 153), (4, 5), (5, 5), (6, 154), (7, 155), (8, 156), (9, 157), (10, 158)] := rfl
@[simp] theorem t159_cmp : t159.cmp = false := rfl
theorem t2_ok : t2.ok Try.prog 2 := ⟨by kernel_rfl, by kernel_rfl, by kernel_rfl, Try.underlying2, (fun h => by cases h), ⟨rfl, rfl, rfl, rfl, fun F h β => by simp [t2, Rep, Reps]⟩⟩
theorem t3_ok : t3.ok Try.prog 3 := ⟨by kernel_rfl, by kernel_rfl, by kernel_rfl, Try.underlying3, (fun h => by cases h), ⟨rfl, rfl, rfl, rfl, fun F h β => by simp [t3, Rep, Reps]⟩⟩
theorem t4_ok : t4.ok Try.prog 4 := ⟨by kernel_rfl, by kernel_rfl, by kernel_rfl, Try.underlying4, (fun h => by cases h), ⟨rfl, rfl, rfl, rfl, fun F h β => by simp [t4, Rep, Reps]⟩⟩
theorem t5_ok : t5.ok Try.prog 5 := ⟨by kernel_rfl, by kernel_rfl, by kernel_rfl, Try.underlying5, (fun h => by cases h), ⟨rfl, rfl, rfl, rfl, fun F h β => by simp [t5, Rep, Reps]⟩⟩
theorem t9_ok : t9.ok Try.prog 9 := ⟨by kernel_rfl, by kernel_rfl, by kernel_rfl, Try.underlying9, (fun h => by cases h), ⟨rfl, rfl, rfl, rfl, fun F h β => by simp [t9, Rep, Reps]⟩⟩
theorem t12_ok : t12.ok Try.prog 12 := ⟨by kernel_rfl, by kernel_rfl, by kernel_rfl, Try.underlying12, (fun h => by cases h), ⟨rfl, rfl, rfl, rfl, fun F h β => by simp [t12, Rep, Reps]⟩⟩
theorem t20_ok : t20.ok Try.prog 20 := ⟨by kernel_rfl, by kernel_rfl, by kernel_rfl, ⟨_, Try.underlying20⟩, (fun h => by cases h), ⟨rfl, rfl, rfl, rfl, fun F h β => by simp [t20, Rep, Reps]⟩⟩
theorem t21_ok : t21.ok Try.prog 21 := ⟨by kernel_rfl, by kernel_rfl, by kernel_rfl, Try.underlying21, (fun h => by cases h), ⟨rfl, rfl, rfl, rfl, fun F h β => by simp [t21, Rep, Reps]⟩⟩
theorem t22_ok : t22.ok Try.prog 22 := ⟨by kernel_rfl, by kernel_rfl, by kernel_rfl, ⟨_, Try.underlying22, rfl⟩, (fun _ => eqInts_of (by kernel_rfl) (by kernel_rfl) (by kernel_rfl)), ⟨rfl, rfl, rfl, rfl, fun F h β => by simp [t22, Rep, Reps]⟩⟩
theorem t23_ok : t23.ok Try.prog 23 := ⟨by kernel_rfl, by kernel_rfl, by kernel_rfl, ⟨_, Try.underlying23, rfl⟩, (fun _ => eqInts_of (by kernel_rfl) (by kernel_rfl) (by kernel_rfl)), ⟨rfl, rfl, rfl, rfl, fun F h β => by simp [t23, Rep, Reps]⟩⟩
theorem t25_ok : t25.ok Try.prog 25 := ⟨by kernel_rfl, by kernel_rfl, by kernel_rfl, ⟨_, Try.underlying25, rfl⟩, (fun _ => eqInts_of (by kernel_rfl) (by kernel_rfl) (by kernel_rfl)), ⟨rfl, rfl, rfl, rfl, fun F h β => by simp [t25, Rep, Reps]⟩⟩
theorem t28_ok : t28.ok Try.prog 28 := ⟨by kernel_rfl, by kernel_rfl, by kernel_rfl, Try.underlying28, (fun h => by cases h), ⟨rfl, rfl, rfl, rfl, fun F h β => by simp [t28, Rep, Reps]⟩⟩
theorem t31_ok : t31.ok Try.prog 31 := ⟨by kernel_rfl, by kernel_rfl, by kernel_rfl, Try.underlying31, (fun h => by cases h), ⟨rfl, rfl, rfl, rfl, fun F h β => by simp [t31, Rep, Reps]⟩⟩
theorem t38_ok : t38.ok Try.prog 38 := ⟨by kernel_rfl, by kernel_rfl, by kernel_rfl, Try.underlying38, (fun h => by cases h), ⟨rfl, rfl, rfl, rfl, fun F h β => by simp [t38, Rep, Reps]⟩⟩
theorem t50_ok : t50.ok Try.prog 50 := ⟨by kernel_rfl, by kernel_rfl, by kernel_rfl, ⟨_, Try.underlying50, rfl⟩, (fun _ => eqInts_of (by kernel_rfl) (by kernel_rfl) (by kernel_rfl)), ⟨rfl, rfl, rfl, rfl, fun F h β => by simp [t50, Rep, Reps]⟩⟩
theorem t51_ok : t51.ok Try.prog 51 := ⟨by kernel_rfl, by kernel_rfl, by kernel_rfl, ⟨_, Try.underlying51, rfl⟩, (fun _ => eqInts_of (by kernel_rfl) (by kernel_rfl) (by kernel_rfl)), ⟨rfl, rfl, rfl, rfl, fun F h β => by simp [t51, Rep, Reps]⟩⟩
theorem t53_ok : t53.ok Try.prog 53 := ⟨by kernel_rfl, by kernel_rfl, by kernel_rfl, ⟨_, Try.underlying53, rfl⟩, (fun _ => eqInts_of (by kernel_rfl) (by kernel_rfl) (by kernel_rfl)), ⟨rfl, rfl, rfl, rfl, fun F h β => by simp [t53, Rep, Reps]⟩⟩
theorem t56_ok : t56.ok Try.prog 56 := ⟨by kernel_rfl, by kernel_rfl, by kernel_rfl, Try.underlying56, (fun h => by cases h), ⟨rfl, rfl, rfl, rfl, fun F h β => by simp [t56, Rep, Reps]⟩⟩
theorem t59_ok : t59.ok Try.prog 59 := ⟨by kernel_rfl, by kernel_rfl, by kernel_rfl, Try.underlying59, (fun h => by cases h), ⟨rfl, rfl, rfl, rfl, fun F h β => by simp [t59, Rep, Reps]⟩⟩
theorem t64_ok : t64.ok Try.prog 64 := ⟨by kernel_rfl, by kernel_rfl, by kernel_rfl, ⟨_, Try.underlying64, rfl⟩, (fun _ => eqInts_of (by kernel_rfl) (by kernel_rfl) (by kernel_rfl)), ⟨rfl, rfl, rfl, rfl, fun F h β => by simp [t64, Rep, Reps]⟩⟩
theorem t65_ok : t65.ok Try.prog 65 := ⟨by kernel_rfl, by kernel_rfl, by kernel_rfl, ⟨_, Try.underlying65, rfl⟩, (fun _ => eqInts_of (by kernel_rfl) (by kernel_rfl) (by kernel_rfl)), ⟨rfl, rfl, rfl, rfl, fun F h β => by simp [t65, Rep, Reps]⟩⟩
theorem t67_ok : t67.ok Try.prog 67 := ⟨by kernel_rfl, by kernel_rfl, by kernel_rfl, ⟨_, Try.underlying67, rfl⟩, (fun _ => eqInts_of (by kernel_rfl) (by kernel_rfl) (by kernel_rfl)), ⟨rfl, rfl, rfl, rfl, fun F h β => by simp [t67, Rep, Reps]⟩⟩
theorem t72_ok : t72.ok Try.prog 72 := ⟨by kernel_rfl, by kernel_rfl, by kernel_rfl, Try.underlying72, (fun h => by cases h), ⟨rfl, rfl, rfl, rfl, fun F h β => by simp [t72, Rep, Reps]⟩⟩
theorem t75_ok : t75.ok Try.prog 75 := ⟨by kernel_rfl, by kernel_rfl, by kernel_rfl, Try.underlying75, (fun h => by cases h), ⟨rfl, rfl, rfl, rfl, fun F h β => by simp [t75, Rep, Reps]⟩⟩
theorem t81_ok : t81.ok Try.prog 81 := ⟨by kernel_rfl, by kernel_rfl, by kernel_rfl, Try.underlying81, (fun h => by cases h), ⟨rfl, rfl, rfl, rfl, fun F h β => by simp [t81, Rep, Reps]⟩⟩
theorem t82_ok : t82.ok Try.prog 82 := ⟨by kernel_rfl, by kernel_rfl, by kernel_rfl, Try.underlying82, (fun h => by cases h), ⟨rfl, rfl, rfl, rfl, fun F h β => by simp [t82, Rep, Reps]⟩⟩
theorem t85_ok : t85.ok Try.prog 85 := ⟨by kernel_rfl, by kernel_rfl, by kernel_rfl, Try.underlying85, (fun h => by cases h), ⟨rfl, rfl, rfl, rfl, fun F h β => by simp [t85, Rep, Reps]⟩⟩
theorem t89_ok : t89.ok Try.prog 89 := ⟨by kernel_rfl, by kernel_rfl, by kernel_rfl, ⟨_, Try.underlying89, rfl⟩, (fun h => by cases h), ⟨rfl, rfl, rfl, rfl, fun F h β => by simp [t89, Rep, Reps]⟩⟩
theorem t90_ok : t90.ok Try.prog 90 := ⟨by kernel_rfl, by kernel_rfl, by kernel_rfl, ⟨_, Try.underlying90, rfl⟩, (fun h => by cases h), ⟨rfl, rfl, rfl, rfl, fun F h β => by simp [t90, Rep, Reps]⟩⟩
theorem t93_ok : t93.ok Try.prog 93 := ⟨by kernel_rfl, by kernel_rfl, by kernel_rfl, Try.underlying93, (fun h => by cases h), ⟨rfl, rfl, rfl, rfl, fun F h β => by simp [t93, Rep, Reps]⟩⟩
theorem t96_ok : t96.ok Try.prog 96 := ⟨by kernel_rfl, by kernel_rfl, by kernel_rfl, ⟨_, _, _, Try.underlying96⟩, (fun h => by cases h), ⟨rfl, rfl, rfl, rfl, fun F h β => by simp [t96, Rep, Reps]⟩⟩
theorem t97_ok : t97.ok Try.prog 97 := ⟨by kernel_rfl, by kernel_rfl, by kernel_rfl, Try.underlying97, (fun h => by cases h), ⟨rfl, rfl, rfl, rfl, fun F h β => by simp [t97, Rep, Reps]⟩⟩
theorem t102_ok : t102.ok Try.prog 102 := ⟨by kernel_rfl, by kernel_rfl, by kernel_rfl, ⟨_, Try.underlying102, rfl⟩, (fun _ => eqInts_of (by kernel_rfl) (by kernel_rfl) (by kernel_rfl)), ⟨rfl, rfl, rfl, rfl, fun F h β => by simp [t102, Rep, Reps]⟩⟩
theorem t103_ok : t103.ok Try.prog 103 := ⟨by kernel_rfl, by kernel_rfl, by kernel_rfl, ⟨_, Try.underlying103, rfl⟩, (fun _ => eqInts_of (by kernel_rfl) (by kernel_rfl) (by kernel_rfl)), ⟨rfl, rfl, rfl, rfl, fun F h β => by simp [t103, Rep, Reps]⟩⟩
theorem t105_ok : t105.ok Try.prog 105 := ⟨by kernel_rfl, by kernel_rfl, by kernel_rfl, ⟨_, Try.underlying105, rfl⟩, (fun _ => eqInts_of (by kernel_rfl) (by kernel_rfl) (by kernel_rfl)), ⟨rfl, rfl, rfl, rfl, fun F h β => by simp [t105, Rep, Reps]⟩⟩
theorem t111_ok : t111.ok Try.prog 111 := ⟨by kernel_rfl, by kernel_rfl, by kernel_rfl, Try.underlying111, (fun h => by cases h), ⟨rfl, rfl, rfl, rfl, fun F h β => by simp [t111, Rep, Reps]⟩⟩
theorem t113_ok : t113.ok Try.prog 113 := ⟨by kernel_rfl, by kernel_rfl, by kernel_rfl, Try.underlying113, (fun h => by cases h), ⟨rfl, rfl, rfl, rfl, fun F h β => by simp [t113, Rep, Reps]⟩⟩
theorem t115_ok : t115.ok Try.prog 115 := ⟨by kernel_rfl, by kernel_rfl, by kernel_rfl, Try.underlying115, (fun h => by cases h), ⟨rfl, rfl, rfl, rfl, fun F h β => by simp [t115, Rep, Reps]⟩⟩
theorem t119_ok : t119.ok Try.prog 119 := ⟨by kernel_rfl, by kernel_rfl, by kernel_rfl, Try.underlying119, (fun h => by cases h), ⟨rfl, rfl, rfl, rfl, fun F h β => by simp [t119, Rep, Reps]⟩⟩
theorem t122_ok : t122.ok Try.prog 122 := ⟨by kernel_rfl, by kernel_rfl, by kernel_rfl, Try.underlying122, (fun h => by cases h), ⟨rfl, rfl, rfl, rfl, fun F h β => by simp [t122, Rep, Reps]⟩⟩
theorem t129_ok : t129.ok Try.prog 129 := ⟨by kernel_rfl, by kernel_rfl, by kernel_rfl, Try.underlying129, (fun h => by cases h), ⟨rfl, rfl, rfl, rfl, fun F h β => by simp [t129, Rep, Reps]⟩⟩
theorem t131_ok : t131.ok Try.prog 131 := ⟨by kernel_rfl, by kernel_rfl, by kernel_rfl, Try.underlying131, (fun h => by cases h), ⟨rfl, rfl, rfl, rfl, fun F h β => by simp [t131, Rep, Reps]⟩⟩
theorem t132_ok : t132.ok Try.prog 132 := ⟨by kernel_rfl, by kernel_rfl, by kernel_rfl, ⟨_, Try.underlying132⟩, (fun h => by cases h), ⟨rfl, rfl, rfl, rfl, fun F h β => by simp [t132, Rep, Reps]⟩⟩
theorem t133_ok : t133.ok Try.prog 133 := ⟨by kernel_rfl, by kernel_rfl, by kernel_rfl, ⟨_, Try.underlying133⟩, (fun h => by cases h), ⟨rfl, rfl, rfl, rfl, fun F h β => by simp [t133, Rep, Reps]⟩⟩
theorem t136_ok : t136.ok Try.prog 136 := ⟨by kernel_rfl, by kernel_rfl, by kernel_rfl, Try.underlying136, (fun h => by cases h), ⟨rfl, rfl, rfl, rfl, fun F h β => by simp [t136, Rep, Reps]⟩⟩
theorem t140_ok : t140.ok Try.prog 140 := ⟨by kernel_rfl, by kernel_rfl, by kernel_rfl, Try.underlying140, (fun h => by cases h), ⟨rfl, rfl, rfl, rfl, fun F h β => by simp [t140, Rep, Reps]⟩⟩
theorem t144_ok : t144.ok Try.prog 144 := ⟨by kernel_rfl, by kernel_rfl, by kernel_rfl, Try.underlying144, (fun h => by cases h), ⟨rfl, rfl, rfl, rfl, fun F h β => by simp [t144, Rep, Reps]⟩⟩
theorem t155_ok : t155.ok Try.prog 155 := ⟨by kernel_rfl, by kernel_rfl, by kernel_rfl, ⟨_, _, _, Try.underlying155⟩, (fun h => by cases h), ⟨rfl, rfl, rfl, rfl, fun F h β => by simp [t155, Rep, Reps]⟩⟩
theorem t156_ok : t156.ok Try.prog 156 := ⟨by kernel_rfl, by kernel_rfl, by kernel_rfl, Try.underlying156, (fun h => by cases h), ⟨rfl, rfl, rfl, rfl, fun F h β => by simp [t156, Rep, Reps]⟩⟩
theorem t159_ok : t159.ok Try.prog 159 := ⟨by kernel_rfl, by kernel_rfl, by kernel_rfl, ⟨_, Try.underlying159, rfl⟩, (fun h => by cases h), ⟨rfl, rfl, rfl, rfl, fun F h β => by simp [t159, Rep, Reps]⟩⟩
def G : Ctx := [(2, t2), (3, t3), (4, t4), (5, t5), (9, t9), (12, t12), (20, t20), (21, t21), (22, t22), (23, t23), (25, t25), (28, t28), (31, t31), (38, t38), (50, t50), (51, t51), (53, t53), (56, t56), (59, t59), (64, t64), (65, t65), (67, t67), (72, t72), (75, t75), (81, t81), (82, t82), (85, t85), (89, t89), (90, t90), (93, t93), (96, t96), (97, t97), (102, t102), (103, t103), (105, t105), (111, t111), (113, t113), (115, t115), (119, t119), (122, t122), (129, t129), (131, t131), (132, t132), (133, t133), (136, t136), (140, t140), (144, t144), (155, t155), (156, t156), (159, t159)]
@[simp] theorem G_2 : G.get 2 = some t2 := rfl
@[simp] theorem G_3 : G.get 3 = some t3 := rfl
@[simp] theorem G_4 : G.get 4 = some t4 := rfl
@[simp] theorem G_5 : G.get 5 = some t5 := rfl
@[simp] theorem G_9 : G.get 9 = some t9 := rfl
@[simp] theorem G_12 : G.get 12 = some t12 := rfl
@[simp] theorem G_20 : G.get 20 = some t20 := rfl
@[simp] theorem G_21 : G.get 21 = some t21 := rfl
@[simp] theorem G_22 : G.get 22 = some t22 := rfl
@[simp] theorem G_23 : G.get 23 = some t23 := rfl
@[simp] theorem G_25 : G.get 25 = some t25 := rfl
@[simp] theorem G_28 : G.get 28 = some t28 := rfl
@[simp] theorem G_31 : G.get 31 = some t31 := rfl
@[simp] theorem G_38 : G.get 38 = some t38 := rfl
@[simp] theorem G_50 : G.get 50 = some t50 := rfl
@[simp] theorem G_51 : G.get 51 = some t51 := rfl
@[simp] theorem G_53 : G.get 53 = some t53 := rfl
@[simp] theorem G_56 : G.get 56 = some t56 := rfl
@[simp] theorem G_59 : G.get 59 = some t59 := rfl
@[simp] theorem G_64 : G.get 64 = some t64 := rfl
@[simp] theorem G_65 : G.get 65 = some t65 := rfl
@[simp] theorem G_67 : G.get 67 = some t67 := rfl
@[simp] theorem G_72 : G.get 72 = some t72 := rfl
@[simp] theorem G_75 : G.get 75 = some t75 := rfl
@[simp] theorem G_81 : G.get 81 = some t81 := rfl
@[simp] theorem G_82 : G.get 82 = some t82 := rfl
@[simp] theorem G_85 : G.get 85 = some t85 := rfl
@[simp] theorem G_89 : G.get 89 = some t89 := rfl
@[simp] theorem G_90 : G.get 90 = some t90 := rfl
@[simp] theorem G_93 : G.get 93 = some t93 := rfl
@[simp] theorem G_96 : G.get 96 = some t96 := rfl
@[simp] theorem G_97 : G.get 97 = some t97 := rfl
@[simp] theorem G_102 : G.get 102 = some t102 := rfl
@[simp] theorem G_103 : G.get 103 = some t103 := rfl
@[simp] theorem G_105 : G.get 105 = some t105 := rfl
@[simp] theorem G_111 : G.get 111 = some t111 := rfl
@[simp] theorem G_113 : G.get 113 = some t113 := rfl
@[simp] theorem G_115 : G.get 115 = some t115 := rfl
@[simp] theorem G_119 : G.get 119 = some t119 := rfl
@[simp] theorem G_122 : G.get 122 = some t122 := rfl
@[simp] theorem G_129 : G.get 129 = some t129 := rfl
@[simp] theorem G_131 : G.get 131 = some t131 := rfl
@[simp] theorem G_132 : G.get 132 = some t132 := rfl
@[simp] theorem G_133 : G.get 133 = some t133 := rfl
@[simp] theorem G_136 : G.get 136 = some t136 := rfl
@[simp] theorem G_140 : G.get 140 = some t140 := rfl
@[simp] theorem G_144 : G.get 144 = some t144 := rfl
@[simp] theorem G_155 : G.get 155 = some t155 := rfl
@[simp] theorem G_156 : G.get 156 = some t156 := rfl
@[simp] theorem G_159 : G.get 159 = some t159 := rfl
theorem G_ok : G.ok Try.prog := by
  intro p hp
  simp only [G, List.mem_cons, List.not_mem_nil, or_false] at hp
  rcases hp with rfl | rfl | rfl | rfl | rfl | rfl | rfl | rfl | rfl | rfl | rfl | rfl | rfl | rfl | rfl | rfl | rfl | rfl | rfl | rfl | rfl | rfl | rfl | rfl | rfl | rfl | rfl | rfl | rfl | rfl | rfl | rfl | rfl | rfl | rfl | rfl | rfl | rfl | rfl | rfl | rfl | rfl | rfl | rfl | rfl | rfl | rfl | rfl | rfl | rfl
  · exact t2_ok
  · exact t3_ok
  · exact t4_ok
  · exact t5_ok
  · exact t9_ok
  · exact t12_ok
  · exact t20_ok
  · exact t21_ok
  · exact t22_ok
  · exact t23_ok
  · exact t25_ok
  · exact t28_ok
  · exact t31_ok
  · exact t38_ok
  · exact t50_ok
  · exact t51_ok
  · exact t53_ok
  · exact t56_ok
  · exact t59_ok
  · exact t64_ok
  · exact t65_ok
  · exact t67_ok
  · exact t72_ok
  · exact t75_ok
  · exact t81_ok
  · exact t82_ok
  · exact t85_ok
  · exact t89_ok
  · exact t90_ok
  · exact t93_ok
  · exact t96_ok
  · exact t97_ok
  · exact t102_ok
  · exact t103_ok
  · exact t105_ok
  · exact t111_ok
  · exact t113_ok
  · exact t115_ok
  · exact t119_ok
  · exact t122_ok
  · exact t129_ok
  · exact t131_ok
  · exact t132_ok
  · exact t133_ok
  · exact t136_ok
  · exact t140_ok
  · exact t144_ok
  · exact t155_ok
  · exact t156_ok
  · exact t159_ok
theorem mix : Try.prog.follows .mixedOrders = true := by kernel_rfl
end Go.Proofs.Ytljamnanhmpdnaa
