/- What is known of the types of this program: their sizes, zero values and parts. -/
import Derived.Test.YtmkhcehomcpkfaaProg
import Derived.Test.YtmkhcehomcpkfaaTY
import Derived.KernelRfl
namespace Go.Proofs.Ytmkhcehomcpkfaa
open Go Go.Eng
set_option linter.unusedSimpArgs false
set_option linter.unusedVariables false
set_option maxRecDepth 20000
/-- int64 -/
def t2 : TI := ⟨1, 8, .int .i64 0, .lit (.int .i64 0), .lit (.int .i64 0), .int .i64, false⟩
@[simp] theorem t2_size : t2.size = 1 := rfl
@[simp] theorem t2_bytes : t2.bytes = 8 := rfl
@[simp] theorem t2_z : t2.z = .lit (.int .i64 0) := rfl
@[simp] theorem t2_y : t2.y = .lit (.int .i64 0) := rfl
@[simp] theorem t2_kind : t2.kind = .int .i64 := rfl
@[simp] theorem t2_cmp : t2.cmp = false := rfl
/-- int -/
def t3 : TI := ⟨1, 8, .int .i64 0, .lit (.int .i64 0), .lit (.int .i64 0), .int .i64, false⟩
@[simp] theorem t3_size : t3.size = 1 := rfl
@[simp] theorem t3_bytes : t3.bytes = 8 := rfl
@[simp] theorem t3_z : t3.z = .lit (.int .i64 0) := rfl
@[simp] theorem t3_y : t3.y = .lit (.int .i64 0) := rfl
@[simp] theorem t3_kind : t3.kind = .int .i64 := rfl
@[simp] theorem t3_cmp : t3.cmp = false := rfl
/-- bool -/
def t4 : TI := ⟨1, 1, .bool false, .lit (.bool false), .lit (.bool false), .bool, false⟩
@[simp] theorem t4_size : t4.size = 1 := rfl
@[simp] theorem t4_bytes : t4.bytes = 1 := rfl
@[simp] theorem t4_z : t4.z = .lit (.bool false) := rfl
@[simp] theorem t4_y : t4.y = .lit (.bool false) := rfl
@[simp] theorem t4_kind : t4.kind = .bool := rfl
@[simp] theorem t4_cmp : t4.cmp = false := rfl
/-- uint8 -/
def t5 : TI := ⟨1, 1, .int .u8 0, .lit (.int .u8 0), .lit (.int .u8 0), .int .u8, false⟩
@[simp] theorem t5_size : t5.size = 1 := rfl
@[simp] theorem t5_bytes : t5.bytes = 1 := rfl
@[simp] theorem t5_z : t5.z = .lit (.int .u8 0) := rfl
@[simp] theorem t5_y : t5.y = .lit (.int .u8 0) := rfl
@[simp] theorem t5_kind : t5.kind = .int .u8 := rfl
@[simp] theorem t5_cmp : t5.cmp = false := rfl
/-- string -/
def t9 : TI := ⟨1, 16, .string ⟨#[]⟩, .lit (.string ⟨#[]⟩), .lit (.string ⟨#[]⟩), .str, false⟩
@[simp] theorem t9_size : t9.size = 1 := rfl
@[simp] theorem t9_bytes : t9.bytes = 16 := rfl
@[simp] theorem t9_z : t9.z = .lit (.string ⟨#[]⟩) := rfl
@[simp] theorem t9_y : t9.y = .lit (.string ⟨#[]⟩) := rfl
@[simp] theorem t9_kind : t9.kind = .str := rfl
@[simp] theorem t9_cmp : t9.cmp = false := rfl
/-- uintptr -/
def t12 : TI := ⟨1, 8, .int .u64 0, .lit (.int .u64 0), .lit (.int .u64 0), .int .u64, false⟩
@[simp] theorem t12_size : t12.size = 1 := rfl
@[simp] theorem t12_bytes : t12.bytes = 8 := rfl
@[simp] theorem t12_z : t12.z = .lit (.int .u64 0) := rfl
@[simp] theorem t12_y : t12.y = .lit (.int .u64 0) := rfl
@[simp] theorem t12_kind : t12.kind = .int .u64 := rfl
@[simp] theorem t12_cmp : t12.cmp = false := rfl
/-- interface {} -/
def t20 : TI := ⟨1, 16, .nilIface, .lit .nilIface, .lit .nilIface, .iface, false⟩
@[simp] theorem t20_size : t20.size = 1 := rfl
@[simp] theorem t20_bytes : t20.bytes = 16 := rfl
@[simp] theorem t20_z : t20.z = .lit .nilIface := rfl
@[simp] theorem t20_y : t20.y = .lit .nilIface := rfl
@[simp] theorem t20_kind : t20.kind = .iface := rfl
@[simp] theorem t20_cmp : t20.cmp = false := rfl
/-- int32 -/
def t21 : TI := ⟨1, 4, .int .i32 0, .lit (.int .i32 0), .lit (.int .i32 0), .int .i32, false⟩
@[simp] theorem t21_size : t21.size = 1 := rfl
@[simp] theorem t21_bytes : t21.bytes = 4 := rfl
@[simp] theorem t21_z : t21.z = .lit (.int .i32 0) := rfl
@[simp] theorem t21_y : t21.y = .lit (.int .i32 0) := rfl
@[simp] theorem t21_kind : t21.kind = .int .i32 := rfl
@[simp] theorem t21_cmp : t21.cmp = false := rfl
/-- []int -/
def t22 : TI := ⟨1, 24, .slice none 0 0, .sl true 0 .any [], yLI, .slice 3, false⟩
@[simp] theorem t22_size : t22.size = 1 := rfl
@[simp] theorem t22_bytes : t22.bytes = 24 := rfl
@[simp] theorem t22_z : t22.z = .sl true 0 .any [] := rfl
@[simp] theorem t22_y : t22.y = yLI := rfl
@[simp] theorem t22_kind : t22.kind = .slice 3 := rfl
@[simp] theorem t22_cmp : t22.cmp = false := rfl
/-- struct { From int; To int; Things []int; At int } -/
def t23 : TI := ⟨4, 48, .agg #[.int .i64 0, .int .i64 0, .slice none 0 0, .int .i64 0], .agg [.lit (.int .i64 0), .lit (.int .i64 0), .sl true 0 .any [], .lit (.int .i64 0)], yTParcel, .st [(0, 3), (1, 3), (2, 22), (3, 3)], false⟩
@[simp] theorem t23_size : t23.size = 4 := rfl
@[simp] theorem t23_bytes : t23.bytes = 48 := rfl
@[simp] theorem t23_z : t23.z = .agg [.lit (.int .i64 0), .lit (.int .i64 0), .sl true 0 .any [], .lit (.int .i64 0)] := rfl
@[simp] theorem t23_y : t23.y = yTParcel := rfl
@[simp] theorem t23_kind : t23.kind = .st [(0, 3), (1, 3), (2, 22), (3, 3)] := rfl
@[simp] theorem t23_cmp : t23.cmp = false := rfl
/-- laws.Parcel = loop.example/g03007/laws.Parcel -/
def t24 : TI := ⟨4, 48, .agg #[.int .i64 0, .int .i64 0, .slice none 0 0, .int .i64 0], .agg [.lit (.int .i64 0), .lit (.int .i64 0), .sl true 0 .any [], .lit (.int .i64 0)], yTParcel, .st [(0, 3), (1, 3), (2, 22), (3, 3)], false⟩
@[simp] theorem t24_size : t24.size = 4 := rfl
@[simp] theorem t24_bytes : t24.bytes = 48 := rfl
@[simp] theorem t24_z : t24.z = .agg [.lit (.int .i64 0), .lit (.int .i64 0), .sl true 0 .any [], .lit (.int .i64 0)] := rfl
@[simp] theorem t24_y : t24.y = yTParcel := rfl
@[simp] theorem t24_kind : t24.kind = .st [(0, 3), (1, 3), (2, 22), (3, 3)] := rfl
@[simp] theorem t24_cmp : t24.cmp = false := rfl
/-- impl.Parcel = loop.example/g03007/impl.Parcel -/
def t27 : TI := ⟨4, 48, .agg #[.int .i64 0, .int .i64 0, .slice none 0 0, .int .i64 0], .agg [.lit (.int .i64 0), .lit (.int .i64 0), .sl true 0 .any [], .lit (.int .i64 0)], yTParcel, .st [(0, 3), (1, 3), (2, 22), (3, 3)], false⟩
@[simp] theorem t27_size : t27.size = 4 := rfl
@[simp] theorem t27_bytes : t27.bytes = 48 := rfl
@[simp] theorem t27_z : t27.z = .agg [.lit (.int .i64 0), .lit (.int .i64 0), .sl true 0 .any [], .lit (.int .i64 0)] := rfl
@[simp] theorem t27_y : t27.y = yTParcel := rfl
@[simp] theorem t27_kind : t27.kind = .st [(0, 3), (1, 3), (2, 22), (3, 3)] := rfl
@[simp] theorem t27_cmp : t27.cmp = false := rfl
/-- uint32 -/
def t44 : TI := ⟨1, 4, .int .u32 0, .lit (.int .u32 0), .lit (.int .u32 0), .int .u32, false⟩
@[simp] theorem t44_size : t44.size = 1 := rfl
@[simp] theorem t44_bytes : t44.bytes = 4 := rfl
@[simp] theorem t44_z : t44.z = .lit (.int .u32 0) := rfl
@[simp] theorem t44_y : t44.y = .lit (.int .u32 0) := rfl
@[simp] theorem t44_kind : t44.kind = .int .u32 := rfl
@[simp] theorem t44_cmp : t44.cmp = false := rfl
/-- func(unsafe.Pointer, unsafe.Pointer) bool -/
def t47 : TI := ⟨1, 8, .nilFunc, .lit .nilFunc, .lit .nilFunc, .func, false⟩
@[simp] theorem t47_size : t47.size = 1 := rfl
@[simp] theorem t47_bytes : t47.bytes = 8 := rfl
@[simp] theorem t47_z : t47.z = .lit .nilFunc := rfl
@[simp] theorem t47_y : t47.y = .lit .nilFunc := rfl
@[simp] theorem t47_kind : t47.kind = .func := rfl
@[simp] theorem t47_cmp : t47.cmp = false := rfl
/-- *uint8 -/
def t48 : TI := ⟨1, 8, .pointer none, .lit (.pointer none), .lit (.pointer none), .ptr 5, false⟩
@[simp] theorem t48_size : t48.size = 1 := rfl
@[simp] theorem t48_bytes : t48.bytes = 8 := rfl
@[simp] theorem t48_z : t48.z = .lit (.pointer none) := rfl
@[simp] theorem t48_y : t48.y = .lit (.pointer none) := rfl
@[simp] theorem t48_kind : t48.kind = .ptr 5 := rfl
@[simp] theorem t48_cmp : t48.cmp = false := rfl
/-- struct { Size_ uintptr; PtrBytes uintptr; Hash uint32; TFlag abi.TFlag; Align_ uint8; FieldAlign_ uint8; Kind_ abi.Kind; Equal func(unsafe.Pointer, unsafe.Pointer) bool; GCData *uint8; Str abi.NameOff; PtrToThis abi.TypeOff } -/
def t51 : TI := ⟨11, 48, .agg #[.int .u64 0, .int .u64 0, .int .u32 0, .int .u8 0, .int .u8 0, .int .u8 0, .int .u8 0, .nilFunc, .pointer none, .int .i32 0, .int .i32 0], .agg [.lit (.int .u64 0), .lit (.int .u64 0), .lit (.int .u32 0), .lit (.int .u8 0), .lit (.int .u8 0), .lit (.int .u8 0), .lit (.int .u8 0), .lit .nilFunc, .lit (.pointer none), .lit (.int .i32 0), .lit (.int .i32 0)], .any, .st [(0, 12), (1, 12), (2, 44), (3, 45), (4, 5), (5, 5), (6, 46), (7, 47), (8, 48), (9, 49), (10, 50)], false⟩
@[simp] theorem t51_size : t51.size = 11 := rfl
@[simp] theorem t51_bytes : t51.bytes = 48 := rfl
@[simp] theorem t51_z : t51.z = .agg [.lit (.int .u64 0), .lit (.int .u64 0), .lit (.int .u32 0), .lit (.int .u8 0), .lit (.int .u8 0), .lit (.int .u8 0), .lit (.int .u8 0), .lit .nilFunc, .lit (.pointer none), .lit (.int .i32 0), .lit (.int .i32 0)] := rfl
@[simp] theorem t51_y : t51.y = .any := rfl
@[simp] theorem t51_kind : t51.kind = .st [(0, 12), (1, 12), (2, 44), (3, 45), (4, 5), (5, 5), (6, 46), (7, 47), (8, 48), (9, 49), (10, 50)] := rfl
@[simp] theorem t51_cmp : t51.cmp = false := rfl
theorem t2_ok : t2.ok Try.prog 2 := ⟨by kernel_rfl, by kernel_rfl, by kernel_rfl, Try.underlying2, (fun h => by cases h), ⟨rfl, rfl, rfl, rfl, fun F h β => by simp [t2, Rep, Reps]⟩⟩
theorem t3_ok : t3.ok Try.prog 3 := ⟨by kernel_rfl, by kernel_rfl, by kernel_rfl, Try.underlying3, (fun h => by cases h), ⟨rfl, rfl, rfl, rfl, fun F h β => by simp [t3, Rep, Reps]⟩⟩
theorem t4_ok : t4.ok Try.prog 4 := ⟨by kernel_rfl, by kernel_rfl, by kernel_rfl, Try.underlying4, (fun h => by cases h), ⟨rfl, rfl, rfl, rfl, fun F h β => by simp [t4, Rep, Reps]⟩⟩
theorem t5_ok : t5.ok Try.prog 5 := ⟨by kernel_rfl, by kernel_rfl, by kernel_rfl, Try.underlying5, (fun h => by cases h), ⟨rfl, rfl, rfl, rfl, fun F h β => by simp [t5, Rep, Reps]⟩⟩
theorem t9_ok : t9.ok Try.prog 9 := ⟨by kernel_rfl, by kernel_rfl, by kernel_rfl, Try.underlying9, (fun h => by cases h), ⟨rfl, rfl, rfl, rfl, fun F h β => by simp [t9, Rep, Reps]⟩⟩
theorem t12_ok : t12.ok Try.prog 12 := ⟨by kernel_rfl, by kernel_rfl, by kernel_rfl, Try.underlying12, (fun h => by cases h), ⟨rfl, rfl, rfl, rfl, fun F h β => by simp [t12, Rep, Reps]⟩⟩
theorem t20_ok : t20.ok Try.prog 20 := ⟨by kernel_rfl, by kernel_rfl, by kernel_rfl, ⟨_, Try.underlying20⟩, (fun h => by cases h), ⟨rfl, rfl, rfl, rfl, fun F h β => by simp [t20, Rep, Reps]⟩⟩
theorem t21_ok : t21.ok Try.prog 21 := ⟨by kernel_rfl, by kernel_rfl, by kernel_rfl, Try.underlying21, (fun h => by cases h), ⟨rfl, rfl, rfl, rfl, fun F h β => by simp [t21, Rep, Reps]⟩⟩
theorem t22_ok : t22.ok Try.prog 22 := ⟨by kernel_rfl, by kernel_rfl, by kernel_rfl, Try.underlying22, (fun h => by cases h), ⟨rfl, rfl, rfl, rfl, fun F h β => by simp [t22, Rep, Reps]⟩⟩
theorem t23_ok : t23.ok Try.prog 23 := ⟨by kernel_rfl, by kernel_rfl, by kernel_rfl, ⟨_, Try.underlying23, rfl⟩, (fun h => by cases h), ⟨rfl, rfl, rfl, rfl, fun F h β => by
    show Rep F h β t23.z t23.zero
    simp only [t23, Rep, Reps]
    exact ⟨_, rfl, _, _, rfl, (by trivial), _, _, rfl, (by trivial), _, _, rfl, (.inl ⟨by trivial, none, 0, by trivial, by intros; rfl⟩), _, _, rfl, (by trivial), rfl⟩⟩⟩
theorem t24_ok : t24.ok Try.prog 24 := ⟨by kernel_rfl, by kernel_rfl, by kernel_rfl, ⟨_, Try.underlying24, rfl⟩, (fun h => by cases h), ⟨rfl, rfl, rfl, rfl, fun F h β => by
    show Rep F h β t24.z t24.zero
    simp only [t24, Rep, Reps]
    exact ⟨_, rfl, _, _, rfl, (by trivial), _, _, rfl, (by trivial), _, _, rfl, (.inl ⟨by trivial, none, 0, by trivial, by intros; rfl⟩), _, _, rfl, (by trivial), rfl⟩⟩⟩
theorem t27_ok : t27.ok Try.prog 27 := ⟨by kernel_rfl, by kernel_rfl, by kernel_rfl, ⟨_, Try.underlying27, rfl⟩, (fun h => by cases h), ⟨rfl, rfl, rfl, rfl, fun F h β => by
    show Rep F h β t27.z t27.zero
    simp only [t27, Rep, Reps]
    exact ⟨_, rfl, _, _, rfl, (by trivial), _, _, rfl, (by trivial), _, _, rfl, (.inl ⟨by trivial, none, 0, by trivial, by intros; rfl⟩), _, _, rfl, (by trivial), rfl⟩⟩⟩
theorem t44_ok : t44.ok Try.prog 44 := ⟨by kernel_rfl, by kernel_rfl, by kernel_rfl, Try.underlying44, (fun h => by cases h), ⟨rfl, rfl, rfl, rfl, fun F h β => by simp [t44, Rep, Reps]⟩⟩
theorem t47_ok : t47.ok Try.prog 47 := ⟨by kernel_rfl, by kernel_rfl, by kernel_rfl, ⟨_, _, _, Try.underlying47⟩, (fun h => by cases h), ⟨rfl, rfl, rfl, rfl, fun F h β => by simp [t47, Rep, Reps]⟩⟩
theorem t48_ok : t48.ok Try.prog 48 := ⟨by kernel_rfl, by kernel_rfl, by kernel_rfl, Try.underlying48, (fun h => by cases h), ⟨rfl, rfl, rfl, rfl, fun F h β => by simp [t48, Rep, Reps]⟩⟩
theorem t51_ok : t51.ok Try.prog 51 := ⟨by kernel_rfl, by kernel_rfl, by kernel_rfl, ⟨_, Try.underlying51, rfl⟩, (fun h => by cases h), ⟨rfl, rfl, rfl, rfl, fun F h β => by simp [t51, Rep, Reps]⟩⟩
def G : Ctx := [(2, t2), (3, t3), (4, t4), (5, t5), (9, t9), (12, t12), (20, t20), (21, t21), (22, t22), (23, t23), (24, t24), (27, t27), (44, t44), (47, t47), (48, t48), (51, t51)]
@[simp] theorem G_2 : G.get 2 = some t2 := rfl
@[simp] theorem G_3 : G.get 3 = some t3 := rfl
@[simp] theorem G_4 : G.get 4 = some t4 := rfl
@[simp] theorem G_5 : G.get 5 = some t5 := rfl
@[simp] theorem G_9 : G.get 9 = some t9 := rfl
@[simp] theorem G_12 : G.get 12 = some t12 := rfl
@[simp] theorem G_20 : G.get 20 = some t20 := rfl
@[simp] theorem G_21 : G.get 21 = some t21 := rfl
@[simp] theorem G_22 : G.get 22 = some t22 := rfl
@[simp] theorem G_23 : G.get 23 = some t23 := rfl
@[simp] theorem G_24 : G.get 24 = some t24 := rfl
@[simp] theorem G_27 : G.get 27 = some t27 := rfl
@[simp] theorem G_44 : G.get 44 = some t44 := rfl
@[simp] theorem G_47 : G.get 47 = some t47 := rfl
@[simp] theorem G_48 : G.get 48 = some t48 := rfl
@[simp] theorem G_51 : G.get 51 = some t51 := rfl
theorem G_ok : G.ok Try.prog := by
  intro p hp
  simp only [G, List.mem_cons, List.not_mem_nil, or_false] at hp
  rcases hp with rfl | rfl | rfl | rfl | rfl | rfl | rfl | rfl | rfl | rfl | rfl | rfl | rfl | rfl | rfl | rfl
  · exact t2_ok
  · exact t3_ok
  · exact t4_ok
  · exact t5_ok
  · exact t9_ok
  · exact t12_ok
  · exact t20_ok
  · exact t21_ok
  · exact t22_ok
  · exact t23_ok
  · exact t24_ok
  · exact t27_ok
  · exact t44_ok
  · exact t47_ok
  · exact t48_ok
  · exact t51_ok
theorem mix : Try.prog.follows .mixedOrders = true := by kernel_rfl
end Go.Proofs.Ytmkhcehomcpkfaa
