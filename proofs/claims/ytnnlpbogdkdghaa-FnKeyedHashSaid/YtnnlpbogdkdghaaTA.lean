/- What is known of the types of this program: their sizes, zero values and parts. -/
import Derived.Test.YtnnlpbogdkdghaaProg
import Derived.Test.YtnnlpbogdkdghaaTY
import Derived.KernelRfl
namespace Go.Proofs.Ytnnlpbogdkdghaa
open Go Go.Eng
set_option linter.unusedSimpArgs false
set_option linter.unusedVariables false
set_option maxRecDepth 20000
/-- int64 -/
def t2 : TI := ⟨1, 8, .int .i64 0, .lit (.int .i64 0), .lit (.int .i64 0), .int .i64, false⟩
@[simp] theorem t2_size : t2.size = 1 := rfl
@[simp] theorem t2_bytes : t2.bytes = 8 := rfl
@[simp] theorem t2_z : t2.z = .lit (.int .i64 0) := rfl
@[simp] theorem t2_y : t2.y = .lit (.int .i64 0) := rfl
@[simp] theorem t2_kind : t2.kind = .int .i64 := rfl
@[simp] theorem t2_cmp : t2.cmp = false := rfl
/-- int -/
def t3 : TI := ⟨1, 8, .int .i64 0, .lit (.int .i64 0), .lit (.int .i64 0), .int .i64, false⟩
@[simp] theorem t3_size : t3.size = 1 := rfl
@[simp] theorem t3_bytes : t3.bytes = 8 := rfl
@[simp] theorem t3_z : t3.z = .lit (.int .i64 0) := rfl
@[simp] theorem t3_y : t3.y = .lit (.int .i64 0) := rfl
@[simp] theorem t3_kind : t3.kind = .int .i64 := rfl
@[simp] theorem t3_cmp : t3.cmp = false := rfl
/-- bool -/
def t4 : TI := ⟨1, 1, .bool false, .lit (.bool false), .lit (.bool false), .bool, false⟩
@[simp] theorem t4_size : t4.size = 1 := rfl
@[simp] theorem t4_bytes : t4.bytes = 1 := rfl
@[simp] theorem t4_z : t4.z = .lit (.bool false) := rfl
@[simp] theorem t4_y : t4.y = .lit (.bool false) := rfl
@[simp] theorem t4_kind : t4.kind = .bool := rfl
@[simp] theorem t4_cmp : t4.cmp = false := rfl
/-- uint8 -/
def t5 : TI := ⟨1, 1, .int .u8 0, .lit (.int .u8 0), .lit (.int .u8 0), .int .u8, false⟩
@[simp] theorem t5_size : t5.size = 1 := rfl
@[simp] theorem t5_bytes : t5.bytes = 1 := rfl
@[simp] theorem t5_z : t5.z = .lit (.int .u8 0) := rfl
@[simp] theorem t5_y : t5.y = .lit (.int .u8 0) := rfl
@[simp] theorem t5_kind : t5.kind = .int .u8 := rfl
@[simp] theorem t5_cmp : t5.cmp = false := rfl
/-- string -/
def t9 : TI := ⟨1, 16, .string ⟨#[]⟩, .lit (.string ⟨#[]⟩), .lit (.string ⟨#[]⟩), .str, false⟩
@[simp] theorem t9_size : t9.size = 1 := rfl
@[simp] theorem t9_bytes : t9.bytes = 16 := rfl
@[simp] theorem t9_z : t9.z = .lit (.string ⟨#[]⟩) := rfl
@[simp] theorem t9_y : t9.y = .lit (.string ⟨#[]⟩) := rfl
@[simp] theorem t9_kind : t9.kind = .str := rfl
@[simp] theorem t9_cmp : t9.cmp = false := rfl
/-- uintptr -/
def t12 : TI := ⟨1, 8, .int .u64 0, .lit (.int .u64 0), .lit (.int .u64 0), .int .u64, false⟩
@[simp] theorem t12_size : t12.size = 1 := rfl
@[simp] theorem t12_bytes : t12.bytes = 8 := rfl
@[simp] theorem t12_z : t12.z = .lit (.int .u64 0) := rfl
@[simp] theorem t12_y : t12.y = .lit (.int .u64 0) := rfl
@[simp] theorem t12_kind : t12.kind = .int .u64 := rfl
@[simp] theorem t12_cmp : t12.cmp = false := rfl
/-- interface {} -/
def t20 : TI := ⟨1, 16, .nilIface, .lit .nilIface, .lit .nilIface, .iface, false⟩
@[simp] theorem t20_size : t20.size = 1 := rfl
@[simp] theorem t20_bytes : t20.bytes = 16 := rfl
@[simp] theorem t20_z : t20.z = .lit .nilIface := rfl
@[simp] theorem t20_y : t20.y = .lit .nilIface := rfl
@[simp] theorem t20_kind : t20.kind = .iface := rfl
@[simp] theorem t20_cmp : t20.cmp = false := rfl
/-- int32 -/
def t21 : TI := ⟨1, 4, .int .i32 0, .lit (.int .i32 0), .lit (.int .i32 0), .int .i32, false⟩
@[simp] theorem t21_size : t21.size = 1 := rfl
@[simp] theorem t21_bytes : t21.bytes = 4 := rfl
@[simp] theorem t21_z : t21.z = .lit (.int .i32 0) := rfl
@[simp] theorem t21_y : t21.y = .lit (.int .i32 0) := rfl
@[simp] theorem t21_kind : t21.kind = .int .i32 := rfl
@[simp] theorem t21_cmp : t21.cmp = false := rfl
/-- []uint8 -/
def t22 : TI := ⟨1, 24, .slice none 0 0, .sl true 0 .any [], yLU, .slice 5, false⟩
@[simp] theorem t22_size : t22.size = 1 := rfl
@[simp] theorem t22_bytes : t22.bytes = 24 := rfl
@[simp] theorem t22_z : t22.z = .sl true 0 .any [] := rfl
@[simp] theorem t22_y : t22.y = yLU := rfl
@[simp] theorem t22_kind : t22.kind = .slice 5 := rfl
@[simp] theorem t22_cmp : t22.cmp = false := rfl
/-- []int -/
def t35 : TI := ⟨1, 24, .slice none 0 0, .sl true 0 .any [], yLI, .slice 3, false⟩
@[simp] theorem t35_size : t35.size = 1 := rfl
@[simp] theorem t35_bytes : t35.bytes = 24 := rfl
@[simp] theorem t35_z : t35.z = .sl true 0 .any [] := rfl
@[simp] theorem t35_y : t35.y = yLI := rfl
@[simp] theorem t35_kind : t35.kind = .slice 3 := rfl
@[simp] theorem t35_cmp : t35.cmp = false := rfl
/-- *spec.l1Cur -/
def t53 : TI := ⟨1, 8, .pointer none, .lit (.pointer none), .lit (.pointer none), .ptr 72, false⟩
@[simp] theorem t53_size : t53.size = 1 := rfl
@[simp] theorem t53_bytes : t53.bytes = 8 := rfl
@[simp] theorem t53_z : t53.z = .lit (.pointer none) := rfl
@[simp] theorem t53_y : t53.y = .lit (.pointer none) := rfl
@[simp] theorem t53_kind : t53.kind = .ptr 72 := rfl
@[simp] theorem t53_cmp : t53.cmp = false := rfl
/-- []string -/
def t69 : TI := ⟨1, 24, .slice none 0 0, .sl true 0 .any [], yLS, .slice 9, false⟩
@[simp] theorem t69_size : t69.size = 1 := rfl
@[simp] theorem t69_bytes : t69.bytes = 24 := rfl
@[simp] theorem t69_z : t69.z = .sl true 0 .any [] := rfl
@[simp] theorem t69_y : t69.y = yLS := rfl
@[simp] theorem t69_kind : t69.kind = .slice 9 := rfl
@[simp] theorem t69_cmp : t69.cmp = false := rfl
/-- struct { b []uint8; i int; h int } -/
def t71 : TI := ⟨3, 40, .agg #[.slice none 0 0, .int .i64 0, .int .i64 0], .agg [.sl true 0 .any [], .lit (.int .i64 0), .lit (.int .i64 0)], yTL1Cur, .st [(0, 22), (1, 3), (2, 3)], false⟩
@[simp] theorem t71_size : t71.size = 3 := rfl
@[simp] theorem t71_bytes : t71.bytes = 40 := rfl
@[simp] theorem t71_z : t71.z = .agg [.sl true 0 .any [], .lit (.int .i64 0), .lit (.int .i64 0)] := rfl
@[simp] theorem t71_y : t71.y = yTL1Cur := rfl
@[simp] theorem t71_kind : t71.kind = .st [(0, 22), (1, 3), (2, 3)] := rfl
@[simp] theorem t71_cmp : t71.cmp = false := rfl
/-- spec.l1Cur = loop.example/g03007/spec.l1Cur -/
def t72 : TI := ⟨3, 40, .agg #[.slice none 0 0, .int .i64 0, .int .i64 0], .agg [.sl true 0 .any [], .lit (.int .i64 0), .lit (.int .i64 0)], yTL1Cur, .st [(0, 22), (1, 3), (2, 3)], false⟩
@[simp] theorem t72_size : t72.size = 3 := rfl
@[simp] theorem t72_bytes : t72.bytes = 40 := rfl
@[simp] theorem t72_z : t72.z = .agg [.sl true 0 .any [], .lit (.int .i64 0), .lit (.int .i64 0)] := rfl
@[simp] theorem t72_y : t72.y = yTL1Cur := rfl
@[simp] theorem t72_kind : t72.kind = .st [(0, 22), (1, 3), (2, 3)] := rfl
@[simp] theorem t72_cmp : t72.cmp = false := rfl
/-- uint -/
def t73 : TI := ⟨1, 8, .int .u64 0, .lit (.int .u64 0), .lit (.int .u64 0), .int .u64, false⟩
@[simp] theorem t73_size : t73.size = 1 := rfl
@[simp] theorem t73_bytes : t73.bytes = 8 := rfl
@[simp] theorem t73_z : t73.z = .lit (.int .u64 0) := rfl
@[simp] theorem t73_y : t73.y = .lit (.int .u64 0) := rfl
@[simp] theorem t73_kind : t73.kind = .int .u64 := rfl
@[simp] theorem t73_cmp : t73.cmp = false := rfl
/-- [][]int -/
def t76 : TI := ⟨1, 24, .slice none 0 0, .sl true 0 .any [], yLLI, .slice 35, false⟩
@[simp] theorem t76_size : t76.size = 1 := rfl
@[simp] theorem t76_bytes : t76.bytes = 24 := rfl
@[simp] theorem t76_z : t76.z = .sl true 0 .any [] := rfl
@[simp] theorem t76_y : t76.y = yLLI := rfl
@[simp] theorem t76_kind : t76.kind = .slice 35 := rfl
@[simp] theorem t76_cmp : t76.cmp = false := rfl
/-- map[int]int -/
def t78 : TI := ⟨1, 8, .map none, .fm 0 [] .any [], .any, .map 3 3, false⟩
@[simp] theorem t78_size : t78.size = 1 := rfl
@[simp] theorem t78_bytes : t78.bytes = 8 := rfl
@[simp] theorem t78_z : t78.z = .fm 0 [] .any [] := rfl
@[simp] theorem t78_y : t78.y = .any := rfl
@[simp] theorem t78_kind : t78.kind = .map 3 3 := rfl
@[simp] theorem t78_cmp : t78.cmp = false := rfl
/-- uint32 -/
def t87 : TI := ⟨1, 4, .int .u32 0, .lit (.int .u32 0), .lit (.int .u32 0), .int .u32, false⟩
@[simp] theorem t87_size : t87.size = 1 := rfl
@[simp] theorem t87_bytes : t87.bytes = 4 := rfl
@[simp] theorem t87_z : t87.z = .lit (.int .u32 0) := rfl
@[simp] theorem t87_y : t87.y = .lit (.int .u32 0) := rfl
@[simp] theorem t87_kind : t87.kind = .int .u32 := rfl
@[simp] theorem t87_cmp : t87.cmp = false := rfl
/-- func(unsafe.Pointer, unsafe.Pointer) bool -/
def t90 : TI := ⟨1, 8, .nilFunc, .lit .nilFunc, .lit .nilFunc, .func, false⟩
@[simp] theorem t90_size : t90.size = 1 := rfl
@[simp] theorem t90_bytes : t90.bytes = 8 := rfl
@[simp] theorem t90_z : t90.z = .lit .nilFunc := rfl
@[simp] theorem t90_y : t90.y = .lit .nilFunc := rfl
@[simp] theorem t90_kind : t90.kind = .func := rfl
@[simp] theorem t90_cmp : t90.cmp = false := rfl
/-- *uint8 -/
def t91 : TI := ⟨1, 8, .pointer none, .lit (.pointer none), .lit (.pointer none), .ptr 5, false⟩
@[simp] theorem t91_size : t91.size = 1 := rfl
@[simp] theorem t91_bytes : t91.bytes = 8 := rfl
@[simp] theorem t91_z : t91.z = .lit (.pointer none) := rfl
@[simp] theorem t91_y : t91.y = .lit (.pointer none) := rfl
@[simp] theorem t91_kind : t91.kind = .ptr 5 := rfl
@[simp] theorem t91_cmp : t91.cmp = false := rfl
/-- struct { Size_ uintptr; PtrBytes uintptr; Hash uint32; TFlag abi.TFlag; Align_ uint8; FieldAlign_ uint8; Kind_ abi.Kind; Equal func(unsafe.Pointer, unsafe.Pointer) bool; GCData *uint8; Str abi.NameOff; PtrToThis abi.TypeOff } -/
def t94 : TI := ⟨11, 48, .agg #[.int .u64 0, .int .u64 0, .int .u32 0, .int .u8 0, .int .u8 0, .int .u8 0, .int .u8 0, .nilFunc, .pointer none, .int .i32 0, .int .i32 0], .agg [.lit (.int .u64 0), .lit (.int .u64 0), .lit (.int .u32 0), .lit (.int .u8 0), .lit (.int .u8 0), .lit (.int .u8 0), .lit (.int .u8 0), .lit .nilFunc, .lit (.pointer none), .lit (.int .i32 0), .lit (.int .i32 0)], .any, .st [(0, 12), (1, 12), (2, 87), (3, 88), (4, 5), (5, 5), (6, 89), (7, 90), (8, 91), (9, 92), (10, 93)], false⟩
@[simp] theorem t94_size : t94.size = 11 := rfl
@[simp] theorem t94_bytes : t94.bytes = 48 := rfl
@[simp] theorem t94_z : t94.z = .agg [.lit (.int .u64 0), .lit (.int .u64 0), .lit (.int .u32 0), .lit (.int .u8 0), .lit (.int .u8 0), .lit (.int .u8 0), .lit (.int .u8 0), .lit .nilFunc, .lit (.pointer none), .lit (.int .i32 0), .lit (.int .i32 0)] := rfl
@[simp] theorem t94_y : t94.y = .any := rfl
@[simp] theorem t94_kind : t94.kind = .st [(0, 12), (1, 12), (2, 87), (3, 88), (4, 5), (5, 5), (6, 89), (7, 90), (8, 91), (9, 92), (10, 93)] := rfl
@[simp] theorem t94_cmp : t94.cmp = false := rfl
theorem t2_ok : t2.ok Try.prog 2 := ⟨by kernel_rfl, by kernel_rfl, by kernel_rfl, Try.underlying2, (fun h => by cases h), ⟨rfl, rfl, rfl, rfl, fun F h β => by simp [t2, Rep, Reps]⟩⟩
theorem t3_ok : t3.ok Try.prog 3 := ⟨by kernel_rfl, by kernel_rfl, by kernel_rfl, Try.underlying3, (fun h => by cases h), ⟨rfl, rfl, rfl, rfl, fun F h β => by simp [t3, Rep, Reps]⟩⟩
theorem t4_ok : t4.ok Try.prog 4 := ⟨by kernel_rfl, by kernel_rfl, by kernel_rfl, Try.underlying4, (fun h => by cases h), ⟨rfl, rfl, rfl, rfl, fun F h β => by simp [t4, Rep, Reps]⟩⟩
theorem t5_ok : t5.ok Try.prog 5 := ⟨by kernel_rfl, by kernel_rfl, by kernel_rfl, Try.underlying5, (fun h => by cases h), ⟨rfl, rfl, rfl, rfl, fun F h β => by simp [t5, Rep, Reps]⟩⟩
theorem t9_ok : t9.ok Try.prog 9 := ⟨by kernel_rfl, by kernel_rfl, by kernel_rfl, Try.underlying9, (fun h => by cases h), ⟨rfl, rfl, rfl, rfl, fun F h β => by simp [t9, Rep, Reps]⟩⟩
theorem t12_ok : t12.ok Try.prog 12 := ⟨by kernel_rfl, by kernel_rfl, by kernel_rfl, Try.underlying12, (fun h => by cases h), ⟨rfl, rfl, rfl, rfl, fun F h β => by simp [t12, Rep, Reps]⟩⟩
theorem t20_ok : t20.ok Try.prog 20 := ⟨by kernel_rfl, by kernel_rfl, by kernel_rfl, ⟨_, Try.underlying20⟩, (fun h => by cases h), ⟨rfl, rfl, rfl, rfl, fun F h β => by simp [t20, Rep, Reps]⟩⟩
theorem t21_ok : t21.ok Try.prog 21 := ⟨by kernel_rfl, by kernel_rfl, by kernel_rfl, Try.underlying21, (fun h => by cases h), ⟨rfl, rfl, rfl, rfl, fun F h β => by simp [t21, Rep, Reps]⟩⟩
theorem t22_ok : t22.ok Try.prog 22 := ⟨by kernel_rfl, by kernel_rfl, by kernel_rfl, Try.underlying22, (fun h => by cases h), ⟨rfl, rfl, rfl, rfl, fun F h β => by simp [t22, Rep, Reps]⟩⟩
theorem t35_ok : t35.ok Try.prog 35 := ⟨by kernel_rfl, by kernel_rfl, by kernel_rfl, Try.underlying35, (fun h => by cases h), ⟨rfl, rfl, rfl, rfl, fun F h β => by simp [t35, Rep, Reps]⟩⟩
theorem t53_ok : t53.ok Try.prog 53 := ⟨by kernel_rfl, by kernel_rfl, by kernel_rfl, Try.underlying53, (fun h => by cases h), ⟨rfl, rfl, rfl, rfl, fun F h β => by simp [t53, Rep, Reps]⟩⟩
theorem t69_ok : t69.ok Try.prog 69 := ⟨by kernel_rfl, by kernel_rfl, by kernel_rfl, Try.underlying69, (fun h => by cases h), ⟨rfl, rfl, rfl, rfl, fun F h β => by simp [t69, Rep, Reps]⟩⟩
theorem t71_ok : t71.ok Try.prog 71 := ⟨by kernel_rfl, by kernel_rfl, by kernel_rfl, ⟨_, Try.underlying71, rfl⟩, (fun h => by cases h), ⟨rfl, rfl, rfl, rfl, fun F h β => by
    show Rep F h β t71.z t71.zero
    simp only [t71, Rep, Reps]
    exact ⟨_, rfl, _, _, rfl, (.inl ⟨by trivial, none, 0, by trivial, by intros; rfl⟩), _, _, rfl, (by trivial), _, _, rfl, (by trivial), rfl⟩⟩⟩
theorem t72_ok : t72.ok Try.prog 72 := ⟨by kernel_rfl, by kernel_rfl, by kernel_rfl, ⟨_, Try.underlying72, rfl⟩, (fun h => by cases h), ⟨rfl, rfl, rfl, rfl, fun F h β => by
    show Rep F h β t72.z t72.zero
    simp only [t72, Rep, Reps]
    exact ⟨_, rfl, _, _, rfl, (.inl ⟨by trivial, none, 0, by trivial, by intros; rfl⟩), _, _, rfl, (by trivial), _, _, rfl, (by trivial), rfl⟩⟩⟩
theorem t73_ok : t73.ok Try.prog 73 := ⟨by kernel_rfl, by kernel_rfl, by kernel_rfl, Try.underlying73, (fun h => by cases h), ⟨rfl, rfl, rfl, rfl, fun F h β => by simp [t73, Rep, Reps]⟩⟩
theorem t76_ok : t76.ok Try.prog 76 := ⟨by kernel_rfl, by kernel_rfl, by kernel_rfl, Try.underlying76, (fun h => by cases h), ⟨rfl, rfl, rfl, rfl, fun F h β => by simp [t76, Rep, Reps]⟩⟩
theorem t78_ok : t78.ok Try.prog 78 := ⟨by kernel_rfl, by kernel_rfl, by kernel_rfl, Try.underlying78, (fun h => by cases h), ⟨rfl, rfl, rfl, rfl, fun F h β => by simp [t78, Rep, Reps]⟩⟩
theorem t87_ok : t87.ok Try.prog 87 := ⟨by kernel_rfl, by kernel_rfl, by kernel_rfl, Try.underlying87, (fun h => by cases h), ⟨rfl, rfl, rfl, rfl, fun F h β => by simp [t87, Rep, Reps]⟩⟩
theorem t90_ok : t90.ok Try.prog 90 := ⟨by kernel_rfl, by kernel_rfl, by kernel_rfl, ⟨_, _, _, Try.underlying90⟩, (fun h => by cases h), ⟨rfl, rfl, rfl, rfl, fun F h β => by simp [t90, Rep, Reps]⟩⟩
theorem t91_ok : t91.ok Try.prog 91 := ⟨by kernel_rfl, by kernel_rfl, by kernel_rfl, Try.underlying91, (fun h => by cases h), ⟨rfl, rfl, rfl, rfl, fun F h β => by simp [t91, Rep, Reps]⟩⟩
theorem t94_ok : t94.ok Try.prog 94 := ⟨by kernel_rfl, by kernel_rfl, by kernel_rfl, ⟨_, Try.underlying94, rfl⟩, (fun h => by cases h), ⟨rfl, rfl, rfl, rfl, fun F h β => by simp [t94, Rep, Reps]⟩⟩
def G : Ctx := [(2, t2), (3, t3), (4, t4), (5, t5), (9, t9), (12, t12), (20, t20), (21, t21), (22, t22), (35, t35), (53, t53), (69, t69), (71, t71), (72, t72), (73, t73), (76, t76), (78, t78), (87, t87), (90, t90), (91, t91), (94, t94)]
@[simp] theorem G_2 : G.get 2 = some t2 := rfl
@[simp] theorem G_3 : G.get 3 = some t3 := rfl
@[simp] theorem G_4 : G.get 4 = some t4 := rfl
@[simp] theorem G_5 : G.get 5 = some t5 := rfl
@[simp] theorem G_9 : G.get 9 = some t9 := rfl
@[simp] theorem G_12 : G.get 12 = some t12 := rfl
@[simp] theorem G_20 : G.get 20 = some t20 := rfl
@[simp] theorem G_21 : G.get 21 = some t21 := rfl
@[simp] theorem G_22 : G.get 22 = some t22 := rfl
@[simp] theorem G_35 : G.get 35 = some t35 := rfl
@[simp] theorem G_53 : G.get 53 = some t53 := rfl
@[simp] theorem G_69 : G.get 69 = some t69 := rfl
@[simp] theorem G_71 : G.get 71 = some t71 := rfl
@[simp] theorem G_72 : G.get 72 = some t72 := rfl
@[simp] theorem G_73 : G.get 73 = some t73 := rfl
@[simp] theorem G_76 : G.get 76 = some t76 := rfl
@[simp] theorem G_78 : G.get 78 = some t78 := rfl
@[simp] theorem G_87 : G.get 87 = some t87 := rfl
@[simp] theorem G_90 : G.get 90 = some t90 := rfl
@[simp] theorem G_91 : G.get 91 = some t91 := rfl
@[simp] theorem G_94 : G.get 94 = some t94 := rfl
theorem G_ok : G.ok Try.prog := by
  intro p hp
  simp only [G, List.mem_cons, List.not_mem_nil, or_false] at hp
  rcases hp with rfl | rfl | rfl | rfl | rfl | rfl | rfl | rfl | rfl | rfl | rfl | rfl | rfl | rfl | rfl | rfl | rfl | rfl | rfl | rfl | rfl
  · exact t2_ok
  · exact t3_ok
  · exact t4_ok
  · exact t5_ok
  · exact t9_ok
  · exact t12_ok
  · exact t20_ok
  · exact t21_ok
  · exact t22_ok
  · exact t35_ok
  · exact t53_ok
  · exact t69_ok
  · exact t71_ok
  · exact t72_ok
  · exact t73_ok
  · exact t76_ok
  · exact t78_ok
  · exact t87_ok
  · exact t90_ok
  · exact t91_ok
  · exact t94_ok
theorem mix : Try.prog.follows .mixedOrders = true := by kernel_rfl
end Go.Proofs.Ytnnlpbogdkdghaa
