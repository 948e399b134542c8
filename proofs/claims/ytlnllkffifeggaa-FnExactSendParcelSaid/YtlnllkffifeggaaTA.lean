/- What is known of the types of this program: their sizes, zero values and parts. -/
import Derived.Test.YtlnllkffifeggaaProg
import Derived.Test.YtlnllkffifeggaaTY
import Derived.KernelRfl
namespace Go.Proofs.Ytlnllkffifeggaa
open Go Go.Eng
set_option linter.unusedSimpArgs false
set_option linter.unusedVariables false
set_option maxRecDepth 20000
/-- int64 -/
def t2 : TI := ⟨1, 8, .int .i64 0, .lit (.int .i64 0), .lit (.int .i64 0), .int .i64, false⟩
@[simp] theorem t2_size : t2.size = 1 := rfl
@[simp] theorem t2_bytes : t2.bytes = 8 := rfl
@[simp] theorem t2_z : t2.z = .lit (.int .i64 0) := rfl
@[simp] theorem t2_y : t2.y = .lit (.int .i64 0) := rfl
@[simp] theorem t2_kind : t2.kind = .int .i64 := rfl
@[simp] theorem t2_cmp : t2.cmp = false := rfl
/-- int -/
def t3 : TI := ⟨1, 8, .int .i64 0, .lit (.int .i64 0), .lit (.int .i64 0), .int .i64, false⟩
@[simp] theorem t3_size : t3.size = 1 := rfl
@[simp] theorem t3_bytes : t3.bytes = 8 := rfl
@[simp] theorem t3_z : t3.z = .lit (.int .i64 0) := rfl
@[simp] theorem t3_y : t3.y = .lit (.int .i64 0) := rfl
@[simp] theorem t3_kind : t3.kind = .int .i64 := rfl
@[simp] theorem t3_cmp : t3.cmp = false := rfl
/-- bool -/
def t4 : TI := ⟨1, 1, .bool false, .lit (.bool false), .lit (.bool false), .bool, false⟩
@[simp] theorem t4_size : t4.size = 1 := rfl
@[simp] theorem t4_bytes : t4.bytes = 1 := rfl
@[simp] theorem t4_z : t4.z = .lit (.bool false) := rfl
@[simp] theorem t4_y : t4.y = .lit (.bool false) := rfl
@[simp] theorem t4_kind : t4.kind = .bool := rfl
@[simp] theorem t4_cmp : t4.cmp = false := rfl
/-- uint8 -/
def t5 : TI := ⟨1, 1, .int .u8 0, .lit (.int .u8 0), .lit (.int .u8 0), .int .u8, false⟩
@[simp] theorem t5_size : t5.size = 1 := rfl
@[simp] theorem t5_bytes : t5.bytes = 1 := rfl
@[simp] theorem t5_z : t5.z = .lit (.int .u8 0) := rfl
@[simp] theorem t5_y : t5.y = .lit (.int .u8 0) := rfl
@[simp] theorem t5_kind : t5.kind = .int .u8 := rfl
@[simp] theorem t5_cmp : t5.cmp = false := rfl
/-- string -/
def t9 : TI := ⟨1, 16, .string ⟨#[]⟩, .lit (.string ⟨#[]⟩), .lit (.string ⟨#[]⟩), .str, false⟩
@[simp] theorem t9_size : t9.size = 1 := rfl
@[simp] theorem t9_bytes : t9.bytes = 16 := rfl
@[simp] theorem t9_z : t9.z = .lit (.string ⟨#[]⟩) := rfl
@[simp] theorem t9_y : t9.y = .lit (.string ⟨#[]⟩) := rfl
@[simp] theorem t9_kind : t9.kind = .str := rfl
@[simp] theorem t9_cmp : t9.cmp = false := rfl
/-- uintptr -/
def t12 : TI := ⟨1, 8, .int .u64 0, .lit (.int .u64 0), .lit (.int .u64 0), .int .u64, false⟩
@[simp] theorem t12_size : t12.size = 1 := rfl
@[simp] theorem t12_bytes : t12.bytes = 8 := rfl
@[simp] theorem t12_z : t12.z = .lit (.int .u64 0) := rfl
@[simp] theorem t12_y : t12.y = .lit (.int .u64 0) := rfl
@[simp] theorem t12_kind : t12.kind = .int .u64 := rfl
@[simp] theorem t12_cmp : t12.cmp = false := rfl
/-- interface {} -/
def t20 : TI := ⟨1, 16, .nilIface, .lit .nilIface, .lit .nilIface, .iface, false⟩
@[simp] theorem t20_size : t20.size = 1 := rfl
@[simp] theorem t20_bytes : t20.bytes = 16 := rfl
@[simp] theorem t20_z : t20.z = .lit .nilIface := rfl
@[simp] theorem t20_y : t20.y = .lit .nilIface := rfl
@[simp] theorem t20_kind : t20.kind = .iface := rfl
@[simp] theorem t20_cmp : t20.cmp = false := rfl
/-- int32 -/
def t21 : TI := ⟨1, 4, .int .i32 0, .lit (.int .i32 0), .lit (.int .i32 0), .int .i32, false⟩
@[simp] theorem t21_size : t21.size = 1 := rfl
@[simp] theorem t21_bytes : t21.bytes = 4 := rfl
@[simp] theorem t21_z : t21.z = .lit (.int .i32 0) := rfl
@[simp] theorem t21_y : t21.y = .lit (.int .i32 0) := rfl
@[simp] theorem t21_kind : t21.kind = .int .i32 := rfl
@[simp] theorem t21_cmp : t21.cmp = false := rfl
/-- []laws.Hand -/
def t22 : TI := ⟨1, 24, .slice none 0 0, .sl true 0 .any [], yLTHand, .slice 47, false⟩
@[simp] theorem t22_size : t22.size = 1 := rfl
@[simp] theorem t22_bytes : t22.bytes = 24 := rfl
@[simp] theorem t22_z : t22.z = .sl true 0 .any [] := rfl
@[simp] theorem t22_y : t22.y = yLTHand := rfl
@[simp] theorem t22_kind : t22.kind = .slice 47 := rfl
@[simp] theorem t22_cmp : t22.cmp = false := rfl
/-- []int -/
def t23 : TI := ⟨1, 24, .slice none 0 0, .sl true 0 .any [], yLI, .slice 3, false⟩
@[simp] theorem t23_size : t23.size = 1 := rfl
@[simp] theorem t23_bytes : t23.bytes = 24 := rfl
@[simp] theorem t23_z : t23.z = .sl true 0 .any [] := rfl
@[simp] theorem t23_y : t23.y = yLI := rfl
@[simp] theorem t23_kind : t23.kind = .slice 3 := rfl
@[simp] theorem t23_cmp : t23.cmp = false := rfl
/-- struct { From int; To int; Things []int; At int } -/
def t24 : TI := ⟨4, 48, .agg #[.int .i64 0, .int .i64 0, .slice none 0 0, .int .i64 0], .agg [.lit (.int .i64 0), .lit (.int .i64 0), .sl true 0 .any [], .lit (.int .i64 0)], yTParcel, .st [(0, 3), (1, 3), (2, 23), (3, 3)], false⟩
@[simp] theorem t24_size : t24.size = 4 := rfl
@[simp] theorem t24_bytes : t24.bytes = 48 := rfl
@[simp] theorem t24_z : t24.z = .agg [.lit (.int .i64 0), .lit (.int .i64 0), .sl true 0 .any [], .lit (.int .i64 0)] := rfl
@[simp] theorem t24_y : t24.y = yTParcel := rfl
@[simp] theorem t24_kind : t24.kind = .st [(0, 3), (1, 3), (2, 23), (3, 3)] := rfl
@[simp] theorem t24_cmp : t24.cmp = false := rfl
/-- laws.Parcel = loop.example/g03007/laws.Parcel -/
def t25 : TI := ⟨4, 48, .agg #[.int .i64 0, .int .i64 0, .slice none 0 0, .int .i64 0], .agg [.lit (.int .i64 0), .lit (.int .i64 0), .sl true 0 .any [], .lit (.int .i64 0)], yTParcel, .st [(0, 3), (1, 3), (2, 23), (3, 3)], false⟩
@[simp] theorem t25_size : t25.size = 4 := rfl
@[simp] theorem t25_bytes : t25.bytes = 48 := rfl
@[simp] theorem t25_z : t25.z = .agg [.lit (.int .i64 0), .lit (.int .i64 0), .sl true 0 .any [], .lit (.int .i64 0)] := rfl
@[simp] theorem t25_y : t25.y = yTParcel := rfl
@[simp] theorem t25_kind : t25.kind = .st [(0, 3), (1, 3), (2, 23), (3, 3)] := rfl
@[simp] theorem t25_cmp : t25.cmp = false := rfl
/-- []impl.Hand -/
def t28 : TI := ⟨1, 24, .slice none 0 0, .sl true 0 .any [], yLTHand, .slice 44, false⟩
@[simp] theorem t28_size : t28.size = 1 := rfl
@[simp] theorem t28_bytes : t28.bytes = 24 := rfl
@[simp] theorem t28_z : t28.z = .sl true 0 .any [] := rfl
@[simp] theorem t28_y : t28.y = yLTHand := rfl
@[simp] theorem t28_kind : t28.kind = .slice 44 := rfl
@[simp] theorem t28_cmp : t28.cmp = false := rfl
/-- impl.Parcel = loop.example/g03007/impl.Parcel -/
def t32 : TI := ⟨4, 48, .agg #[.int .i64 0, .int .i64 0, .slice none 0 0, .int .i64 0], .agg [.lit (.int .i64 0), .lit (.int .i64 0), .sl true 0 .any [], .lit (.int .i64 0)], yTParcel, .st [(0, 3), (1, 3), (2, 23), (3, 3)], false⟩
@[simp] theorem t32_size : t32.size = 4 := rfl
@[simp] theorem t32_bytes : t32.bytes = 48 := rfl
@[simp] theorem t32_z : t32.z = .agg [.lit (.int .i64 0), .lit (.int .i64 0), .sl true 0 .any [], .lit (.int .i64 0)] := rfl
@[simp] theorem t32_y : t32.y = yTParcel := rfl
@[simp] theorem t32_kind : t32.kind = .st [(0, 3), (1, 3), (2, 23), (3, 3)] := rfl
@[simp] theorem t32_cmp : t32.cmp = false := rfl
/-- struct { Thing int; Holder int; Who int; At int; Seal int } -/
def t43 : TI := ⟨5, 40, .agg #[.int .i64 0, .int .i64 0, .int .i64 0, .int .i64 0, .int .i64 0], .agg [.lit (.int .i64 0), .lit (.int .i64 0), .lit (.int .i64 0), .lit (.int .i64 0), .lit (.int .i64 0)], yTHand, .st [(0, 3), (1, 3), (2, 3), (3, 3), (4, 3)], true⟩
@[simp] theorem t43_size : t43.size = 5 := rfl
@[simp] theorem t43_bytes : t43.bytes = 40 := rfl
@[simp] theorem t43_z : t43.z = .agg [.lit (.int .i64 0), .lit (.int .i64 0), .lit (.int .i64 0), .lit (.int .i64 0), .lit (.int .i64 0)] := rfl
@[simp] theorem t43_y : t43.y = yTHand := rfl
@[simp] theorem t43_kind : t43.kind = .st [(0, 3), (1, 3), (2, 3), (3, 3), (4, 3)] := rfl
@[simp] theorem t43_cmp : t43.cmp = true := rfl
/-- impl.Hand = loop.example/g03007/impl.Hand -/
def t44 : TI := ⟨5, 40, .agg #[.int .i64 0, .int .i64 0, .int .i64 0, .int .i64 0, .int .i64 0], .agg [.lit (.int .i64 0), .lit (.int .i64 0), .lit (.int .i64 0), .lit (.int .i64 0), .lit (.int .i64 0)], yTHand, .st [(0, 3), (1, 3), (2, 3), (3, 3), (4, 3)], true⟩
@[simp] theorem t44_size : t44.size = 5 := rfl
@[simp] theorem t44_bytes : t44.bytes = 40 := rfl
@[simp] theorem t44_z : t44.z = .agg [.lit (.int .i64 0), .lit (.int .i64 0), .lit (.int .i64 0), .lit (.int .i64 0), .lit (.int .i64 0)] := rfl
@[simp] theorem t44_y : t44.y = yTHand := rfl
@[simp] theorem t44_kind : t44.kind = .st [(0, 3), (1, 3), (2, 3), (3, 3), (4, 3)] := rfl
@[simp] theorem t44_cmp : t44.cmp = true := rfl
/-- laws.Hand = loop.example/g03007/laws.Hand -/
def t47 : TI := ⟨5, 40, .agg #[.int .i64 0, .int .i64 0, .int .i64 0, .int .i64 0, .int .i64 0], .agg [.lit (.int .i64 0), .lit (.int .i64 0), .lit (.int .i64 0), .lit (.int .i64 0), .lit (.int .i64 0)], yTHand, .st [(0, 3), (1, 3), (2, 3), (3, 3), (4, 3)], true⟩
@[simp] theorem t47_size : t47.size = 5 := rfl
@[simp] theorem t47_bytes : t47.bytes = 40 := rfl
@[simp] theorem t47_z : t47.z = .agg [.lit (.int .i64 0), .lit (.int .i64 0), .lit (.int .i64 0), .lit (.int .i64 0), .lit (.int .i64 0)] := rfl
@[simp] theorem t47_y : t47.y = yTHand := rfl
@[simp] theorem t47_kind : t47.kind = .st [(0, 3), (1, 3), (2, 3), (3, 3), (4, 3)] := rfl
@[simp] theorem t47_cmp : t47.cmp = true := rfl
/-- impl.only = loop.example/g03007/impl.only -/
def t51 : TI := ⟨1, 24, .slice none 0 0, .sl true 0 .any [], yLI, .slice 3, false⟩
@[simp] theorem t51_size : t51.size = 1 := rfl
@[simp] theorem t51_bytes : t51.bytes = 24 := rfl
@[simp] theorem t51_z : t51.z = .sl true 0 .any [] := rfl
@[simp] theorem t51_y : t51.y = yLI := rfl
@[simp] theorem t51_kind : t51.kind = .slice 3 := rfl
@[simp] theorem t51_cmp : t51.cmp = false := rfl
/-- interface { impl.has(int) bool } -/
def t61 : TI := ⟨1, 16, .nilIface, .lit .nilIface, .lit .nilIface, .iface, false⟩
@[simp] theorem t61_size : t61.size = 1 := rfl
@[simp] theorem t61_bytes : t61.bytes = 16 := rfl
@[simp] theorem t61_z : t61.z = .lit .nilIface := rfl
@[simp] theorem t61_y : t61.y = .lit .nilIface := rfl
@[simp] theorem t61_kind : t61.kind = .iface := rfl
@[simp] theorem t61_cmp : t61.cmp = false := rfl
/-- impl.choice = loop.example/g03007/impl.choice -/
def t62 : TI := ⟨1, 16, .nilIface, .lit .nilIface, .lit .nilIface, .iface, false⟩
@[simp] theorem t62_size : t62.size = 1 := rfl
@[simp] theorem t62_bytes : t62.bytes = 16 := rfl
@[simp] theorem t62_z : t62.z = .lit .nilIface := rfl
@[simp] theorem t62_y : t62.y = .lit .nilIface := rfl
@[simp] theorem t62_kind : t62.kind = .iface := rfl
@[simp] theorem t62_cmp : t62.cmp = false := rfl
/-- struct {} -/
def t64 : TI := ⟨0, 0, .agg #[], .agg [], .any, .st [], false⟩
@[simp] theorem t64_size : t64.size = 0 := rfl
@[simp] theorem t64_bytes : t64.bytes = 0 := rfl
@[simp] theorem t64_z : t64.z = .agg [] := rfl
@[simp] theorem t64_y : t64.y = .any := rfl
@[simp] theorem t64_kind : t64.kind = .st [] := rfl
@[simp] theorem t64_cmp : t64.cmp = false := rfl
/-- impl.everything = loop.example/g03007/impl.everything -/
def t65 : TI := ⟨0, 0, .agg #[], .agg [], .any, .st [], false⟩
@[simp] theorem t65_size : t65.size = 0 := rfl
@[simp] theorem t65_bytes : t65.bytes = 0 := rfl
@[simp] theorem t65_z : t65.z = .agg [] := rfl
@[simp] theorem t65_y : t65.y = .any := rfl
@[simp] theorem t65_kind : t65.kind = .st [] := rfl
@[simp] theorem t65_cmp : t65.cmp = false := rfl
/-- map[int]*impl.link[loop.example/g03007/impl.Hand] -/
def t68 : TI := ⟨1, 8, .map none, .fm 0 [] .any [], .any, .map 3 71, false⟩
@[simp] theorem t68_size : t68.size = 1 := rfl
@[simp] theorem t68_bytes : t68.bytes = 8 := rfl
@[simp] theorem t68_z : t68.z = .fm 0 [] .any [] := rfl
@[simp] theorem t68_y : t68.y = .any := rfl
@[simp] theorem t68_kind : t68.kind = .map 3 71 := rfl
@[simp] theorem t68_cmp : t68.cmp = false := rfl
/-- impl.handsByThing = loop.example/g03007/impl.handsByThing -/
def t69 : TI := ⟨1, 8, .map none, .fm 0 [] .any [], .any, .map 3 71, false⟩
@[simp] theorem t69_size : t69.size = 1 := rfl
@[simp] theorem t69_bytes : t69.bytes = 8 := rfl
@[simp] theorem t69_z : t69.z = .fm 0 [] .any [] := rfl
@[simp] theorem t69_y : t69.y = .any := rfl
@[simp] theorem t69_kind : t69.kind = .map 3 71 := rfl
@[simp] theorem t69_cmp : t69.cmp = false := rfl
/-- *impl.link[loop.example/g03007/impl.Hand] -/
def t71 : TI := ⟨1, 8, .pointer none, .lit (.pointer none), .lit (.pointer none), .ptr 73, false⟩
@[simp] theorem t71_size : t71.size = 1 := rfl
@[simp] theorem t71_bytes : t71.bytes = 8 := rfl
@[simp] theorem t71_z : t71.z = .lit (.pointer none) := rfl
@[simp] theorem t71_y : t71.y = .lit (.pointer none) := rfl
@[simp] theorem t71_kind : t71.kind = .ptr 73 := rfl
@[simp] theorem t71_cmp : t71.cmp = false := rfl
/-- struct { item impl.Hand; before *impl.link[loop.example/g03007/impl.Hand] } -/
def t72 : TI := ⟨6, 48, .agg #[.int .i64 0, .int .i64 0, .int .i64 0, .int .i64 0, .int .i64 0, .pointer none], .agg [.lit (.int .i64 0), .lit (.int .i64 0), .lit (.int .i64 0), .lit (.int .i64 0), .lit (.int .i64 0), .lit (.pointer none)], .any, .st [(0, 44), (5, 71)], false⟩
@[simp] theorem t72_size : t72.size = 6 := rfl
@[simp] theorem t72_bytes : t72.bytes = 48 := rfl
@[simp] theorem t72_z : t72.z = .agg [.lit (.int .i64 0), .lit (.int .i64 0), .lit (.int .i64 0), .lit (.int .i64 0), .lit (.int .i64 0), .lit (.pointer none)] := rfl
@[simp] theorem t72_y : t72.y = .any := rfl
@[simp] theorem t72_kind : t72.kind = .st [(0, 44), (5, 71)] := rfl
@[simp] theorem t72_cmp : t72.cmp = false := rfl
/-- impl.link[loop.example/g03007/impl.Hand] = loop.example/g03007/impl.link[loop.example/g03007/impl.Hand] -/
def t73 : TI := ⟨6, 48, .agg #[.int .i64 0, .int .i64 0, .int .i64 0, .int .i64 0, .int .i64 0, .pointer none], .agg [.lit (.int .i64 0), .lit (.int .i64 0), .lit (.int .i64 0), .lit (.int .i64 0), .lit (.int .i64 0), .lit (.pointer none)], .any, .st [(0, 44), (5, 71)], false⟩
@[simp] theorem t73_size : t73.size = 6 := rfl
@[simp] theorem t73_bytes : t73.bytes = 48 := rfl
@[simp] theorem t73_z : t73.z = .agg [.lit (.int .i64 0), .lit (.int .i64 0), .lit (.int .i64 0), .lit (.int .i64 0), .lit (.int .i64 0), .lit (.pointer none)] := rfl
@[simp] theorem t73_y : t73.y = .any := rfl
@[simp] theorem t73_kind : t73.kind = .st [(0, 44), (5, 71)] := rfl
@[simp] theorem t73_cmp : t73.cmp = false := rfl
/-- uint -/
def t83 : TI := ⟨1, 8, .int .u64 0, .lit (.int .u64 0), .lit (.int .u64 0), .int .u64, false⟩
@[simp] theorem t83_size : t83.size = 1 := rfl
@[simp] theorem t83_bytes : t83.bytes = 8 := rfl
@[simp] theorem t83_z : t83.z = .lit (.int .u64 0) := rfl
@[simp] theorem t83_y : t83.y = .lit (.int .u64 0) := rfl
@[simp] theorem t83_kind : t83.kind = .int .u64 := rfl
@[simp] theorem t83_cmp : t83.cmp = false := rfl
/-- slices.sortedHint -/
def t86 : TI := ⟨1, 8, .int .i64 0, .lit (.int .i64 0), .lit (.int .i64 0), .int .i64, false⟩
@[simp] theorem t86_size : t86.size = 1 := rfl
@[simp] theorem t86_bytes : t86.bytes = 8 := rfl
@[simp] theorem t86_z : t86.z = .lit (.int .i64 0) := rfl
@[simp] theorem t86_y : t86.y = .lit (.int .i64 0) := rfl
@[simp] theorem t86_kind : t86.kind = .int .i64 := rfl
@[simp] theorem t86_cmp : t86.cmp = false := rfl
/-- uint32 -/
def t94 : TI := ⟨1, 4, .int .u32 0, .lit (.int .u32 0), .lit (.int .u32 0), .int .u32, false⟩
@[simp] theorem t94_size : t94.size = 1 := rfl
@[simp] theorem t94_bytes : t94.bytes = 4 := rfl
@[simp] theorem t94_z : t94.z = .lit (.int .u32 0) := rfl
@[simp] theorem t94_y : t94.y = .lit (.int .u32 0) := rfl
@[simp] theorem t94_kind : t94.kind = .int .u32 := rfl
@[simp] theorem t94_cmp : t94.cmp = false := rfl
/-- uint64 -/
def t96 : TI := ⟨1, 8, .int .u64 0, .lit (.int .u64 0), .lit (.int .u64 0), .int .u64, false⟩
@[simp] theorem t96_size : t96.size = 1 := rfl
@[simp] theorem t96_bytes : t96.bytes = 8 := rfl
@[simp] theorem t96_z : t96.z = .lit (.int .u64 0) := rfl
@[simp] theorem t96_y : t96.y = .lit (.int .u64 0) := rfl
@[simp] theorem t96_kind : t96.kind = .int .u64 := rfl
@[simp] theorem t96_cmp : t96.cmp = false := rfl
/-- slices.xorshift -/
def t99 : TI := ⟨1, 8, .int .u64 0, .lit (.int .u64 0), .lit (.int .u64 0), .int .u64, false⟩
@[simp] theorem t99_size : t99.size = 1 := rfl
@[simp] theorem t99_bytes : t99.bytes = 8 := rfl
@[simp] theorem t99_z : t99.z = .lit (.int .u64 0) := rfl
@[simp] theorem t99_y : t99.y = .lit (.int .u64 0) := rfl
@[simp] theorem t99_kind : t99.kind = .int .u64 := rfl
@[simp] theorem t99_cmp : t99.cmp = false := rfl
/-- *int -/
def t103 : TI := ⟨1, 8, .pointer none, .lit (.pointer none), .lit (.pointer none), .ptr 3, false⟩
@[simp] theorem t103_size : t103.size = 1 := rfl
@[simp] theorem t103_bytes : t103.bytes = 8 := rfl
@[simp] theorem t103_z : t103.z = .lit (.pointer none) := rfl
@[simp] theorem t103_y : t103.y = .lit (.pointer none) := rfl
@[simp] theorem t103_kind : t103.kind = .ptr 3 := rfl
@[simp] theorem t103_cmp : t103.cmp = false := rfl
/-- map[int]int -/
def t105 : TI := ⟨1, 8, .map none, .fm 0 [] .any [], .any, .map 3 3, false⟩
@[simp] theorem t105_size : t105.size = 1 := rfl
@[simp] theorem t105_bytes : t105.bytes = 8 := rfl
@[simp] theorem t105_z : t105.z = .fm 0 [] .any [] := rfl
@[simp] theorem t105_y : t105.y = .any := rfl
@[simp] theorem t105_kind : t105.kind = .map 3 3 := rfl
@[simp] theorem t105_cmp : t105.cmp = false := rfl
/-- *slices.xorshift -/
def t106 : TI := ⟨1, 8, .pointer none, .lit (.pointer none), .lit (.pointer none), .ptr 99, false⟩
@[simp] theorem t106_size : t106.size = 1 := rfl
@[simp] theorem t106_bytes : t106.bytes = 8 := rfl
@[simp] theorem t106_z : t106.z = .lit (.pointer none) := rfl
@[simp] theorem t106_y : t106.y = .lit (.pointer none) := rfl
@[simp] theorem t106_kind : t106.kind = .ptr 99 := rfl
@[simp] theorem t106_cmp : t106.cmp = false := rfl
/-- func(unsafe.Pointer, unsafe.Pointer) bool -/
def t118 : TI := ⟨1, 8, .nilFunc, .lit .nilFunc, .lit .nilFunc, .func, false⟩
@[simp] theorem t118_size : t118.size = 1 := rfl
@[simp] theorem t118_bytes : t118.bytes = 8 := rfl
@[simp] theorem t118_z : t118.z = .lit .nilFunc := rfl
@[simp] theorem t118_y : t118.y = .lit .nilFunc := rfl
@[simp] theorem t118_kind : t118.kind = .func := rfl
@[simp] theorem t118_cmp : t118.cmp = false := rfl
/-- *uint8 -/
def t119 : TI := ⟨1, 8, .pointer none, .lit (.pointer none), .lit (.pointer none), .ptr 5, false⟩
@[simp] theorem t119_size : t119.size = 1 := rfl
@[simp] theorem t119_bytes : t119.bytes = 8 := rfl
@[simp] theorem t119_z : t119.z = .lit (.pointer none) := rfl
@[simp] theorem t119_y : t119.y = .lit (.pointer none) := rfl
@[simp] theorem t119_kind : t119.kind = .ptr 5 := rfl
@[simp] theorem t119_cmp : t119.cmp = false := rfl
/-- struct { Size_ uintptr; PtrBytes uintptr; Hash uint32; TFlag abi.TFlag; Align_ uint8; FieldAlign_ uint8; Kind_ abi.Kind; Equal func(unsafe.Pointer, unsafe.Pointer) bool; GCData *uint8; Str abi.NameOff; PtrToThis abi.TypeOff } -/
def t122 : TI := ⟨11, 48, .agg #[.int .u64 0, .int .u64 0, .int .u32 0, .int .u8 0, .int .u8 0, .int .u8 0, .int .u8 0, .nilFunc, .pointer none, .int .i32 0, .int .i32 0], .agg [.lit (.int .u64 0), .lit (.int .u64 0), .lit (.int .u32 0), .lit (.int .u8 0), .lit (.int .u8 0), .lit (.int .u8 0), .lit (.int .u8 0), .lit .nilFunc, .lit (.pointer none), .lit (.int .i32 0), .lit (.int .i32 0)], .any, .st [(0, 12), (1, 12), (2, 94), (3, 116), (4, 5), (5, 5), (6, 117), (7, 118), (8, 119), (9, 120), (10, 121)], false⟩
@[simp] theorem t122_size : t122.size = 11 := rfl
@[simp] theorem t122_bytes : t122.bytes = 48 := rfl
@[simp] theorem t122_z : t122.z = .agg [.lit (.int .u64 0), .lit (.int .u64 0), .lit (.int .u32 0), .lit (.int .u8 0), .lit (.int .u8 0), .lit (.int .u8 0), .lit (.int .u8 0), .lit .nilFunc, .lit (.pointer none), .lit (.int .i32 0), .lit (.int .i32 0)] := rfl
@[simp] theorem t122_y : t122.y = .any := rfl
@[simp] theorem t122_kind : t122.kind = .st [(0, 12), (1, 12), (2, 94), (3, 116), (4, 5), (5, 5), (6, 117), (7, 118), (8, 119), (9, 120), (10, 121)] := rfl
@[simp] theorem t122_cmp : t122.cmp = false := rfl
theorem t2_ok : t2.ok Try.prog 2 := ⟨by kernel_rfl, by kernel_rfl, by kernel_rfl, Try.underlying2, (fun h => by cases h), ⟨rfl, rfl, rfl, rfl, fun F h β => by simp [t2, Rep, Reps]⟩⟩
theorem t3_ok : t3.ok Try.prog 3 := ⟨by kernel_rfl, by kernel_rfl, by kernel_rfl, Try.underlying3, (fun h => by cases h), ⟨rfl, rfl, rfl, rfl, fun F h β => by simp [t3, Rep, Reps]⟩⟩
theorem t4_ok : t4.ok Try.prog 4 := ⟨by kernel_rfl, by kernel_rfl, by kernel_rfl, Try.underlying4, (fun h => by cases h), ⟨rfl, rfl, rfl, rfl, fun F h β => by simp [t4, Rep, Reps]⟩⟩
theorem t5_ok : t5.ok Try.prog 5 := ⟨by kernel_rfl, by kernel_rfl, by kernel_rfl, Try.underlying5, (fun h => by cases h), ⟨rfl, rfl, rfl, rfl, fun F h β => by simp [t5, Rep, Reps]⟩⟩
theorem t9_ok : t9.ok Try.prog 9 := ⟨by kernel_rfl, by kernel_rfl, by kernel_rfl, Try.underlying9, (fun h => by cases h), ⟨rfl, rfl, rfl, rfl, fun F h β => by simp [t9, Rep, Reps]⟩⟩
theorem t12_ok : t12.ok Try.prog 12 := ⟨by kernel_rfl, by kernel_rfl, by kernel_rfl, Try.underlying12, (fun h => by cases h), ⟨rfl, rfl, rfl, rfl, fun F h β => by simp [t12, Rep, Reps]⟩⟩
theorem t20_ok : t20.ok Try.prog 20 := ⟨by kernel_rfl, by kernel_rfl, by kernel_rfl, ⟨_, Try.underlying20⟩, (fun h => by cases h), ⟨rfl, rfl, rfl, rfl, fun F h β => by simp [t20, Rep, Reps]⟩⟩
theorem t21_ok : t21.ok Try.prog 21 := ⟨by kernel_rfl, by kernel_rfl, by kernel_rfl, Try.underlying21, (fun h => by cases h), ⟨rfl, rfl, rfl, rfl, fun F h β => by simp [t21, Rep, Reps]⟩⟩
theorem t22_ok : t22.ok Try.prog 22 := ⟨by kernel_rfl, by kernel_rfl, by kernel_rfl, Try.underlying22, (fun h => by cases h), ⟨rfl, rfl, rfl, rfl, fun F h β => by simp [t22, Rep, Reps]⟩⟩
theorem t23_ok : t23.ok Try.prog 23 := ⟨by kernel_rfl, by kernel_rfl, by kernel_rfl, Try.underlying23, (fun h => by cases h), ⟨rfl, rfl, rfl, rfl, fun F h β => by simp [t23, Rep, Reps]⟩⟩
theorem t24_ok : t24.ok Try.prog 24 := ⟨by kernel_rfl, by kernel_rfl, by kernel_rfl, ⟨_, Try.underlying24, rfl⟩, (fun h => by cases h), ⟨rfl, rfl, rfl, rfl, fun F h β => by
    show Rep F h β t24.z t24.zero
    simp only [t24, Rep, Reps]
    exact ⟨_, rfl, _, _, rfl, (by trivial), _, _, rfl, (by trivial), _, _, rfl, (.inl ⟨by trivial, none, 0, by trivial, by intros; rfl⟩), _, _, rfl, (by trivial), rfl⟩⟩⟩
theorem t25_ok : t25.ok Try.prog 25 := ⟨by kernel_rfl, by kernel_rfl, by kernel_rfl, ⟨_, Try.underlying25, rfl⟩, (fun h => by cases h), ⟨rfl, rfl, rfl, rfl, fun F h β => by
    show Rep F h β t25.z t25.zero
    simp only [t25, Rep, Reps]
    exact ⟨_, rfl, _, _, rfl, (by trivial), _, _, rfl, (by trivial), _, _, rfl, (.inl ⟨by trivial, none, 0, by trivial, by intros; rfl⟩), _, _, rfl, (by trivial), rfl⟩⟩⟩
theorem t28_ok : t28.ok Try.prog 28 := ⟨by kernel_rfl, by kernel_rfl, by kernel_rfl, Try.underlying28, (fun h => by cases h), ⟨rfl, rfl, rfl, rfl, fun F h β => by simp [t28, Rep, Reps]⟩⟩
theorem t32_ok : t32.ok Try.prog 32 := ⟨by kernel_rfl, by kernel_rfl, by kernel_rfl, ⟨_, Try.underlying32, rfl⟩, (fun h => by cases h), ⟨rfl, rfl, rfl, rfl, fun F h β => by
    show Rep F h β t32.z t32.zero
    simp only [t32, Rep, Reps]
    exact ⟨_, rfl, _, _, rfl, (by trivial), _, _, rfl, (by trivial), _, _, rfl, (.inl ⟨by trivial, none, 0, by trivial, by intros; rfl⟩), _, _, rfl, (by trivial), rfl⟩⟩⟩
theorem t43_ok : t43.ok Try.prog 43 := ⟨by kernel_rfl, by kernel_rfl, by kernel_rfl, ⟨_, Try.underlying43, rfl⟩, (fun _ => eqInts_of (by kernel_rfl) (by kernel_rfl) (by kernel_rfl)), ⟨rfl, rfl, rfl, rfl, fun F h β => by simp [t43, Rep, Reps]⟩⟩
theorem t44_ok : t44.ok Try.prog 44 := ⟨by kernel_rfl, by kernel_rfl, by kernel_rfl, ⟨_, Try.underlying44, rfl⟩, (fun _ => eqInts_of (by kernel_rfl) (by kernel_rfl) (by kernel_rfl)), ⟨rfl, rfl, rfl, rfl, fun F h β => by simp [t44, Rep, Reps]⟩⟩
theorem t47_ok : t47.ok Try.prog 47 := ⟨by kernel_rfl, by kernel_rfl, by kernel_rfl, ⟨_, Try.underlying47, rfl⟩, (fun _ => eqInts_of (by kernel_rfl) (by kernel_rfl) (by kernel_rfl)), ⟨rfl, rfl, rfl, rfl, fun F h β => by simp [t47, Rep, Reps]⟩⟩
theorem t51_ok : t51.ok Try.prog 51 := ⟨by kernel_rfl, by kernel_rfl, by kernel_rfl, Try.underlying51, (fun h => by cases h), ⟨rfl, rfl, rfl, rfl, fun F h β => by simp [t51, Rep, Reps]⟩⟩
theorem t61_ok : t61.ok Try.prog 61 := ⟨by kernel_rfl, by kernel_rfl, by kernel_rfl, ⟨_, Try.underlying61⟩, (fun h => by cases h), ⟨rfl, rfl, rfl, rfl, fun F h β => by simp [t61, Rep, Reps]⟩⟩
theorem t62_ok : t62.ok Try.prog 62 := ⟨by kernel_rfl, by kernel_rfl, by kernel_rfl, ⟨_, Try.underlying62⟩, (fun h => by cases h), ⟨rfl, rfl, rfl, rfl, fun F h β => by simp [t62, Rep, Reps]⟩⟩
theorem t64_ok : t64.ok Try.prog 64 := ⟨by kernel_rfl, by kernel_rfl, by kernel_rfl, ⟨_, Try.underlying64, rfl⟩, (fun h => by cases h), ⟨rfl, rfl, rfl, rfl, fun F h β => by simp [t64, Rep, Reps]⟩⟩
theorem t65_ok : t65.ok Try.prog 65 := ⟨by kernel_rfl, by kernel_rfl, by kernel_rfl, ⟨_, Try.underlying65, rfl⟩, (fun h => by cases h), ⟨rfl, rfl, rfl, rfl, fun F h β => by simp [t65, Rep, Reps]⟩⟩
theorem t68_ok : t68.ok Try.prog 68 := ⟨by kernel_rfl, by kernel_rfl, by kernel_rfl, Try.underlying68, (fun h => by cases h), ⟨rfl, rfl, rfl, rfl, fun F h β => by simp [t68, Rep, Reps]⟩⟩
theorem t69_ok : t69.ok Try.prog 69 := ⟨by kernel_rfl, by kernel_rfl, by kernel_rfl, Try.underlying69, (fun h => by cases h), ⟨rfl, rfl, rfl, rfl, fun F h β => by simp [t69, Rep, Reps]⟩⟩
theorem t71_ok : t71.ok Try.prog 71 := ⟨by kernel_rfl, by kernel_rfl, by kernel_rfl, Try.underlying71, (fun h => by cases h), ⟨rfl, rfl, rfl, rfl, fun F h β => by simp [t71, Rep, Reps]⟩⟩
theorem t72_ok : t72.ok Try.prog 72 := ⟨by kernel_rfl, by kernel_rfl, by kernel_rfl, ⟨_, Try.underlying72, rfl⟩, (fun h => by cases h), ⟨rfl, rfl, rfl, rfl, fun F h β => by simp [t72, Rep, Reps]⟩⟩
theorem t73_ok : t73.ok Try.prog 73 := ⟨by kernel_rfl, by kernel_rfl, by kernel_rfl, ⟨_, Try.underlying73, rfl⟩, (fun h => by cases h), ⟨rfl, rfl, rfl, rfl, fun F h β => by simp [t73, Rep, Reps]⟩⟩
theorem t83_ok : t83.ok Try.prog 83 := ⟨by kernel_rfl, by kernel_rfl, by kernel_rfl, Try.underlying83, (fun h => by cases h), ⟨rfl, rfl, rfl, rfl, fun F h β => by simp [t83, Rep, Reps]⟩⟩
theorem t86_ok : t86.ok Try.prog 86 := ⟨by kernel_rfl, by kernel_rfl, by kernel_rfl, Try.underlying86, (fun h => by cases h), ⟨rfl, rfl, rfl, rfl, fun F h β => by simp [t86, Rep, Reps]⟩⟩
theorem t94_ok : t94.ok Try.prog 94 := ⟨by kernel_rfl, by kernel_rfl, by kernel_rfl, Try.underlying94, (fun h => by cases h), ⟨rfl, rfl, rfl, rfl, fun F h β => by simp [t94, Rep, Reps]⟩⟩
theorem t96_ok : t96.ok Try.prog 96 := ⟨by kernel_rfl, by kernel_rfl, by kernel_rfl, Try.underlying96, (fun h => by cases h), ⟨rfl, rfl, rfl, rfl, fun F h β => by simp [t96, Rep, Reps]⟩⟩
theorem t99_ok : t99.ok Try.prog 99 := ⟨by kernel_rfl, by kernel_rfl, by kernel_rfl, Try.underlying99, (fun h => by cases h), ⟨rfl, rfl, rfl, rfl, fun F h β => by simp [t99, Rep, Reps]⟩⟩
theorem t103_ok : t103.ok Try.prog 103 := ⟨by kernel_rfl, by kernel_rfl, by kernel_rfl, Try.underlying103, (fun h => by cases h), ⟨rfl, rfl, rfl, rfl, fun F h β => by simp [t103, Rep, Reps]⟩⟩
theorem t105_ok : t105.ok Try.prog 105 := ⟨by kernel_rfl, by kernel_rfl, by kernel_rfl, Try.underlying105, (fun h => by cases h), ⟨rfl, rfl, rfl, rfl, fun F h β => by simp [t105, Rep, Reps]⟩⟩
theorem t106_ok : t106.ok Try.prog 106 := ⟨by kernel_rfl, by kernel_rfl, by kernel_rfl, Try.underlying106, (fun h => by cases h), ⟨rfl, rfl, rfl, rfl, fun F h β => by simp [t106, Rep, Reps]⟩⟩
theorem t118_ok : t118.ok Try.prog 118 := ⟨by kernel_rfl, by kernel_rfl, by kernel_rfl, ⟨_, _, _, Try.underlying118⟩, (fun h => by cases h), ⟨rfl, rfl, rfl, rfl, fun F h β => by simp [t118, Rep, Reps]⟩⟩
theorem t119_ok : t119.ok Try.prog 119 := ⟨by kernel_rfl, by kernel_rfl, by kernel_rfl, Try.underlying119, (fun h => by cases h), ⟨rfl, rfl, rfl, rfl, fun F h β => by simp [t119, Rep, Reps]⟩⟩
theorem t122_ok : t122.ok Try.prog 122 := ⟨by kernel_rfl, by kernel_rfl, by kernel_rfl, ⟨_, Try.underlying122, rfl⟩, (fun h => by cases h), ⟨rfl, rfl, rfl, rfl, fun F h β => by simp [t122, Rep, Reps]⟩⟩
def G : Ctx := [(2, t2), (3, t3), (4, t4), (5, t5), (9, t9), (12, t12), (20, t20), (21, t21), (22, t22), (23, t23), (24, t24), (25, t25), (28, t28), (32, t32), (43, t43), (44, t44), (47, t47), (51, t51), (61, t61), (62, t62), (64, t64), (65, t65), (68, t68), (69, t69), (71, t71), (72, t72), (73, t73), (83, t83), (86, t86), (94, t94), (96, t96), (99, t99), (103, t103), (105, t105), (106, t106), (118, t118), (119, t119), (122, t122)]
@[simp] theorem G_2 : G.get 2 = some t2 := rfl
@[simp] theorem G_3 : G.get 3 = some t3 := rfl
@[simp] theorem G_4 : G.get 4 = some t4 := rfl
@[simp] theorem G_5 : G.get 5 = some t5 := rfl
@[simp] theorem G_9 : G.get 9 = some t9 := rfl
@[simp] theorem G_12 : G.get 12 = some t12 := rfl
@[simp] theorem G_20 : G.get 20 = some t20 := rfl
@[simp] theorem G_21 : G.get 21 = some t21 := rfl
@[simp] theorem G_22 : G.get 22 = some t22 := rfl
@[simp] theorem G_23 : G.get 23 = some t23 := rfl
@[simp] theorem G_24 : G.get 24 = some t24 := rfl
@[simp] theorem G_25 : G.get 25 = some t25 := rfl
@[simp] theorem G_28 : G.get 28 = some t28 := rfl
@[simp] theorem G_32 : G.get 32 = some t32 := rfl
@[simp] theorem G_43 : G.get 43 = some t43 := rfl
@[simp] theorem G_44 : G.get 44 = some t44 := rfl
@[simp] theorem G_47 : G.get 47 = some t47 := rfl
@[simp] theorem G_51 : G.get 51 = some t51 := rfl
@[simp] theorem G_61 : G.get 61 = some t61 := rfl
@[simp] theorem G_62 : G.get 62 = some t62 := rfl
@[simp] theorem G_64 : G.get 64 = some t64 := rfl
@[simp] theorem G_65 : G.get 65 = some t65 := rfl
@[simp] theorem G_68 : G.get 68 = some t68 := rfl
@[simp] theorem G_69 : G.get 69 = some t69 := rfl
@[simp] theorem G_71 : G.get 71 = some t71 := rfl
@[simp] theorem G_72 : G.get 72 = some t72 := rfl
@[simp] theorem G_73 : G.get 73 = some t73 := rfl
@[simp] theorem G_83 : G.get 83 = some t83 := rfl
@[simp] theorem G_86 : G.get 86 = some t86 := rfl
@[simp] theorem G_94 : G.get 94 = some t94 := rfl
@[simp] theorem G_96 : G.get 96 = some t96 := rfl
@[simp] theorem G_99 : G.get 99 = some t99 := rfl
@[simp] theorem G_103 : G.get 103 = some t103 := rfl
@[simp] theorem G_105 : G.get 105 = some t105 := rfl
@[simp] theorem G_106 : G.get 106 = some t106 := rfl
@[simp] theorem G_118 : G.get 118 = some t118 := rfl
@[simp] theorem G_119 : G.get 119 = some t119 := rfl
@[simp] theorem G_122 : G.get 122 = some t122 := rfl
theorem G_ok : G.ok Try.prog := by
  intro p hp
  simp only [G, List.mem_cons, List.not_mem_nil, or_false] at hp
  rcases hp with rfl | rfl | rfl | rfl | rfl | rfl | rfl | rfl | rfl | rfl | rfl | rfl | rfl | rfl | rfl | rfl | rfl | rfl | rfl | rfl | rfl | rfl | rfl | rfl | rfl | rfl | rfl | rfl | rfl | rfl | rfl | rfl | rfl | rfl | rfl | rfl | rfl | rfl
  · exact t2_ok
  · exact t3_ok
  · exact t4_ok
  · exact t5_ok
  · exact t9_ok
  · exact t12_ok
  · exact t20_ok
  · exact t21_ok
  · exact t22_ok
  · exact t23_ok
  · exact t24_ok
  · exact t25_ok
  · exact t28_ok
  · exact t32_ok
  · exact t43_ok
  · exact t44_ok
  · exact t47_ok
  · exact t51_ok
  · exact t61_ok
  · exact t62_ok
  · exact t64_ok
  · exact t65_ok
  · exact t68_ok
  · exact t69_ok
  · exact t71_ok
  · exact t72_ok
  · exact t73_ok
  · exact t83_ok
  · exact t86_ok
  · exact t94_ok
  · exact t96_ok
  · exact t99_ok
  · exact t103_ok
  · exact t105_ok
  · exact t106_ok
  · exact t118_ok
  · exact t119_ok
  · exact t122_ok
theorem mix : Try.prog.follows .mixedOrders = true := by kernel_rfl
end Go.Proofs.Ytlnllkffifeggaa
