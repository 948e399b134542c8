/- Contracts of the functions that the laws run. -/
import Derived.Test.YtelhilcdlfjafaaTS
import Derived.Test.YtelhilcdlfjafaaEngB
namespace Go.Proofs.Ytelhilcdlfjafaa
open Go Go.Eng
set_option linter.unusedSimpArgs false
set_option linter.unusedVariables false
set_option maxRecDepth 10000
set_option maxHeartbeats 1000000
def mIn (x y z : Int) : Bool := decide (y ≤ x) && decide (x ≤ z)
/-- loop.example/g03007/spec.l1In -/
noncomputable def c41 : Con := mkCon 41 false (α := Int × Int × Int) (fun x => (fun (x : Int) (y : Int) (z : Int) => [dI x, dI y, dI z]) x.1 x.2.1 x.2.2) (fun _ => []) (fun x => (fun (x : Int) (y : Int) (z : Int) => True) x.1 x.2.1 x.2.2) (fun x => (fun (x : Int) (y : Int) (z : Int) => (dB (mIn x y z) : D)) x.1 x.2.1 x.2.2) (fun x => (fun (x : Int) (y : Int) (z : Int) => []) x.1 x.2.1 x.2.2)
@[simp] theorem c41_f : c41.f = 41 := rfl
@[simp] theorem c41_own : c41.own = false := rfl
theorem c41_inj : ∀ u_ v_ : Int × Int × Int, ((fun x => (fun (x : Int) (y : Int) (z : Int) => [dI x, dI y, dI z]) x.1 x.2.1 x.2.2) u_).map nz = ((fun x => (fun (x : Int) (y : Int) (z : Int) => [dI x, dI y, dI z]) x.1 x.2.1 x.2.2) v_).map nz → u_ = v_ := by
  intro u_ v_ h
  obtain ⟨x, y, z⟩ := u_
  obtain ⟨x', y', z'⟩ := v_
  simp [nz_lit, nz1_lit, nz_agg, nz_sl, nz1_sl] at h
  first | (simp [h]; done) | (obtain ⟨⟩ := h; simp_all; done) | simp_all
@[simp] theorem c41_fn (x : Int) (y : Int) (z : Int) : c41.fn [.lit (.int .i64 x), .lit (.int .i64 y), .lit (.int .i64 z)] [] = some ((fun (x : Int) (y : Int) (z : Int) => True) x y z, (fun (x : Int) (y : Int) (z : Int) => (dB (mIn x y z) : D)) x y z, (fun (x : Int) (y : Int) (z : Int) => []) x y z) :=
  mkCon_fn (fun x y h _ => c41_inj x y h) ((x, y, z) : Int × Int × Int) (by simp [nz, nz1, ML_nil]) rfl
theorem c41_pc (x : Int) (y : Int) (z : Int) : PCo Try.prog 41 [dI x, dI y, dI z] (Tab.of []) (dB (mIn x y z)) (Tab.of []) := by
  refine pco_of_run [] (E := ⟨[], [], []⟩) (m := false) (base := 0) Env.ok_nil G_ok mix 300 6 Try.func41 (by kernel_rfl) rfl (by kernel_rfl) (by kernel_rfl) rfl ?_
  simp [Try.f41]
  simp [mIn]
theorem c41_ok : c41.ok Try.prog := mkCon_ok fun ⟨x, y, z⟩ hpre => c41_pc x y z
/-- loop.example/g03007/impl.InRange -/
noncomputable def c43 : Con := mkCon 43 false (α := Int × Int × Int) (fun x => (fun (x : Int) (y : Int) (z : Int) => [dI x, dI y, dI z]) x.1 x.2.1 x.2.2) (fun _ => []) (fun x => (fun (x : Int) (y : Int) (z : Int) => True) x.1 x.2.1 x.2.2) (fun x => (fun (x : Int) (y : Int) (z : Int) => (dB (mIn x y z) : D)) x.1 x.2.1 x.2.2) (fun x => (fun (x : Int) (y : Int) (z : Int) => []) x.1 x.2.1 x.2.2)
@[simp] theorem c43_f : c43.f = 43 := rfl
@[simp] theorem c43_own : c43.own = false := rfl
theorem c43_inj : ∀ u_ v_ : Int × Int × Int, ((fun x => (fun (x : Int) (y : Int) (z : Int) => [dI x, dI y, dI z]) x.1 x.2.1 x.2.2) u_).map nz = ((fun x => (fun (x : Int) (y : Int) (z : Int) => [dI x, dI y, dI z]) x.1 x.2.1 x.2.2) v_).map nz → u_ = v_ := by
  intro u_ v_ h
  obtain ⟨x, y, z⟩ := u_
  obtain ⟨x', y', z'⟩ := v_
  simp [nz_lit, nz1_lit, nz_agg, nz_sl, nz1_sl] at h
  first | (simp [h]; done) | (obtain ⟨⟩ := h; simp_all; done) | simp_all
@[simp] theorem c43_fn (x : Int) (y : Int) (z : Int) : c43.fn [.lit (.int .i64 x), .lit (.int .i64 y), .lit (.int .i64 z)] [] = some ((fun (x : Int) (y : Int) (z : Int) => True) x y z, (fun (x : Int) (y : Int) (z : Int) => (dB (mIn x y z) : D)) x y z, (fun (x : Int) (y : Int) (z : Int) => []) x y z) :=
  mkCon_fn (fun x y h _ => c43_inj x y h) ((x, y, z) : Int × Int × Int) (by simp [nz, nz1, ML_nil]) rfl
theorem c43_pc (x : Int) (y : Int) (z : Int) : PCo Try.prog 43 [dI x, dI y, dI z] (Tab.of []) (dB (mIn x y z)) (Tab.of []) := by
  refine pco_of_run [] (E := ⟨[], [], []⟩) (m := false) (base := 0) Env.ok_nil G_ok mix 300 6 Try.func43 (by kernel_rfl) rfl (by kernel_rfl) (by kernel_rfl) rfl ?_
  simp [Try.f43]
  simp [mIn]
theorem c43_ok : c43.ok Try.prog := mkCon_ok fun ⟨x, y, z⟩ hpre => c43_pc x y z
/-- loop.example/g03007/spec.Min -/
noncomputable def c32 : Con := mkCon 32 false (α := Int × Int) (fun x => (fun (a : Int) (b : Int) => [dI a, dI b]) x.1 x.2) (fun _ => []) (fun x => (fun (a : Int) (b : Int) => True) x.1 x.2) (fun x => (fun (a : Int) (b : Int) => (dI (min a b) : D)) x.1 x.2) (fun x => (fun (a : Int) (b : Int) => []) x.1 x.2)
@[simp] theorem c32_f : c32.f = 32 := rfl
@[simp] theorem c32_own : c32.own = false := rfl
theorem c32_inj : ∀ u_ v_ : Int × Int, ((fun x => (fun (a : Int) (b : Int) => [dI a, dI b]) x.1 x.2) u_).map nz = ((fun x => (fun (a : Int) (b : Int) => [dI a, dI b]) x.1 x.2) v_).map nz → u_ = v_ := by
  intro u_ v_ h
  obtain ⟨a, b⟩ := u_
  obtain ⟨a', b'⟩ := v_
  simp [nz_lit, nz1_lit, nz_agg, nz_sl, nz1_sl] at h
  first | (simp [h]; done) | (obtain ⟨⟩ := h; simp_all; done) | simp_all
@[simp] theorem c32_fn (a : Int) (b : Int) : c32.fn [.lit (.int .i64 a), .lit (.int .i64 b)] [] = some ((fun (a : Int) (b : Int) => True) a b, (fun (a : Int) (b : Int) => (dI (min a b) : D)) a b, (fun (a : Int) (b : Int) => []) a b) :=
  mkCon_fn (fun x y h _ => c32_inj x y h) ((a, b) : Int × Int) (by simp [nz, nz1, ML_nil]) rfl
theorem c32_pc (a : Int) (b : Int) : PCo Try.prog 32 [dI a, dI b] (Tab.of []) (dI (min a b)) (Tab.of []) := by
  refine pco_of_run [] (E := ⟨[], [], []⟩) (m := false) (base := 0) Env.ok_nil G_ok mix 300 6 Try.func32 (by kernel_rfl) rfl (by kernel_rfl) (by kernel_rfl) rfl ?_
  simp [Try.f32]
  all_goals first | omega | (rw [Bool.eq_iff_iff]; simp; omega) | grind
theorem c32_ok : c32.ok Try.prog := mkCon_ok fun ⟨a, b⟩ hpre => c32_pc a b
/-- loop.example/g03007/spec.Max -/
noncomputable def c31 : Con := mkCon 31 false (α := Int × Int) (fun x => (fun (a : Int) (b : Int) => [dI a, dI b]) x.1 x.2) (fun _ => []) (fun x => (fun (a : Int) (b : Int) => True) x.1 x.2) (fun x => (fun (a : Int) (b : Int) => (dI (max a b) : D)) x.1 x.2) (fun x => (fun (a : Int) (b : Int) => []) x.1 x.2)
@[simp] theorem c31_f : c31.f = 31 := rfl
@[simp] theorem c31_own : c31.own = false := rfl
theorem c31_inj : ∀ u_ v_ : Int × Int, ((fun x => (fun (a : Int) (b : Int) => [dI a, dI b]) x.1 x.2) u_).map nz = ((fun x => (fun (a : Int) (b : Int) => [dI a, dI b]) x.1 x.2) v_).map nz → u_ = v_ := by
  intro u_ v_ h
  obtain ⟨a, b⟩ := u_
  obtain ⟨a', b'⟩ := v_
  simp [nz_lit, nz1_lit, nz_agg, nz_sl, nz1_sl] at h
  first | (simp [h]; done) | (obtain ⟨⟩ := h; simp_all; done) | simp_all
@[simp] theorem c31_fn (a : Int) (b : Int) : c31.fn [.lit (.int .i64 a), .lit (.int .i64 b)] [] = some ((fun (a : Int) (b : Int) => True) a b, (fun (a : Int) (b : Int) => (dI (max a b) : D)) a b, (fun (a : Int) (b : Int) => []) a b) :=
  mkCon_fn (fun x y h _ => c31_inj x y h) ((a, b) : Int × Int) (by simp [nz, nz1, ML_nil]) rfl
theorem c31_pc (a : Int) (b : Int) : PCo Try.prog 31 [dI a, dI b] (Tab.of []) (dI (max a b)) (Tab.of []) := by
  refine pco_of_run [] (E := ⟨[], [], []⟩) (m := false) (base := 0) Env.ok_nil G_ok mix 300 6 Try.func31 (by kernel_rfl) rfl (by kernel_rfl) (by kernel_rfl) rfl ?_
  simp [Try.f31]
  all_goals first | omega | (rw [Bool.eq_iff_iff]; simp; omega) | grind
theorem c31_ok : c31.ok Try.prog := mkCon_ok fun ⟨a, b⟩ hpre => c31_pc a b
/-- cmp.isNaN[int] -/
noncomputable def c68 : Con := mkCon 68 false (α := Int) (fun x => (fun (a : Int) => [dI a]) x) (fun _ => []) (fun x => (fun (a : Int) => True) x) (fun x => (fun (a : Int) => (dB false : D)) x) (fun x => (fun (a : Int) => []) x)
@[simp] theorem c68_f : c68.f = 68 := rfl
@[simp] theorem c68_own : c68.own = false := rfl
theorem c68_inj : ∀ u_ v_ : Int, ((fun x => (fun (a : Int) => [dI a]) x) u_).map nz = ((fun x => (fun (a : Int) => [dI a]) x) v_).map nz → u_ = v_ := by
  intro u_ v_ h
  obtain a := u_
  obtain a' := v_
  simp [nz_lit, nz1_lit, nz_agg, nz_sl, nz1_sl] at h
  first | (simp [h]; done) | (obtain ⟨⟩ := h; simp_all; done) | simp_all
@[simp] theorem c68_fn (a : Int) : c68.fn [.lit (.int .i64 a)] [] = some ((fun (a : Int) => True) a, (fun (a : Int) => (dB false : D)) a, (fun (a : Int) => []) a) :=
  mkCon_fn (fun x y h _ => c68_inj x y h) (a : Int) (by simp [nz, nz1, ML_nil]) rfl
theorem c68_pc (a : Int) : PCo Try.prog 68 [dI a] (Tab.of []) (dB false) (Tab.of []) := by
  refine pco_of_run [] (E := ⟨[], [], []⟩) (m := false) (base := 0) Env.ok_nil G_ok mix 300 6 Try.func68 (by kernel_rfl) rfl (by kernel_rfl) (by kernel_rfl) rfl ?_
  simp [Try.f68]
  all_goals first | omega | (rw [Bool.eq_iff_iff]; simp; omega) | grind
theorem c68_ok : c68.ok Try.prog := mkCon_ok fun a hpre => c68_pc a
/-- cmp.Less[int] -/
noncomputable def c65 : Con := mkCon 65 false (α := Int × Int) (fun x => (fun (a : Int) (b : Int) => [dI a, dI b]) x.1 x.2) (fun _ => []) (fun x => (fun (a : Int) (b : Int) => True) x.1 x.2) (fun x => (fun (a : Int) (b : Int) => (dB (decide (a < b)) : D)) x.1 x.2) (fun x => (fun (a : Int) (b : Int) => []) x.1 x.2)
@[simp] theorem c65_f : c65.f = 65 := rfl
@[simp] theorem c65_own : c65.own = false := rfl
theorem c65_inj : ∀ u_ v_ : Int × Int, ((fun x => (fun (a : Int) (b : Int) => [dI a, dI b]) x.1 x.2) u_).map nz = ((fun x => (fun (a : Int) (b : Int) => [dI a, dI b]) x.1 x.2) v_).map nz → u_ = v_ := by
  intro u_ v_ h
  obtain ⟨a, b⟩ := u_
  obtain ⟨a', b'⟩ := v_
  simp [nz_lit, nz1_lit, nz_agg, nz_sl, nz1_sl] at h
  first | (simp [h]; done) | (obtain ⟨⟩ := h; simp_all; done) | simp_all
@[simp] theorem c65_fn (a : Int) (b : Int) : c65.fn [.lit (.int .i64 a), .lit (.int .i64 b)] [] = some ((fun (a : Int) (b : Int) => True) a b, (fun (a : Int) (b : Int) => (dB (decide (a < b)) : D)) a b, (fun (a : Int) (b : Int) => []) a b) :=
  mkCon_fn (fun x y h _ => c65_inj x y h) ((a, b) : Int × Int) (by simp [nz, nz1, ML_nil]) rfl
theorem c65_pc (a : Int) (b : Int) : PCo Try.prog 65 [dI a, dI b] (Tab.of []) (dB (decide (a < b))) (Tab.of []) := by
  refine pco_of_run [] (E := ⟨[c68], [], []⟩) (m := false) (base := 0) (Env.ok_cons c68_ok Env.ok_nil) G_ok mix 300 6 Try.func65 (by kernel_rfl) rfl (by kernel_rfl) (by kernel_rfl) rfl ?_
  simp [Try.f65]
  all_goals first | omega | (rw [Bool.eq_iff_iff]; simp; omega) | grind
theorem c65_ok : c65.ok Try.prog := mkCon_ok fun ⟨a, b⟩ hpre => c65_pc a b
/-- loop.example/g03007/impl.isGreater -/
noncomputable def c64 : Con := mkCon 64 false (α := Int × Int) (fun x => (fun (a : Int) (b : Int) => [dI a, dI b]) x.1 x.2) (fun _ => []) (fun x => (fun (a : Int) (b : Int) => True) x.1 x.2) (fun x => (fun (a : Int) (b : Int) => (dB (decide (b < a)) : D)) x.1 x.2) (fun x => (fun (a : Int) (b : Int) => []) x.1 x.2)
@[simp] theorem c64_f : c64.f = 64 := rfl
@[simp] theorem c64_own : c64.own = false := rfl
theorem c64_inj : ∀ u_ v_ : Int × Int, ((fun x => (fun (a : Int) (b : Int) => [dI a, dI b]) x.1 x.2) u_).map nz = ((fun x => (fun (a : Int) (b : Int) => [dI a, dI b]) x.1 x.2) v_).map nz → u_ = v_ := by
  intro u_ v_ h
  obtain ⟨a, b⟩ := u_
  obtain ⟨a', b'⟩ := v_
  simp [nz_lit, nz1_lit, nz_agg, nz_sl, nz1_sl] at h
  first | (simp [h]; done) | (obtain ⟨⟩ := h; simp_all; done) | simp_all
@[simp] theorem c64_fn (a : Int) (b : Int) : c64.fn [.lit (.int .i64 a), .lit (.int .i64 b)] [] = some ((fun (a : Int) (b : Int) => True) a b, (fun (a : Int) (b : Int) => (dB (decide (b < a)) : D)) a b, (fun (a : Int) (b : Int) => []) a b) :=
  mkCon_fn (fun x y h _ => c64_inj x y h) ((a, b) : Int × Int) (by simp [nz, nz1, ML_nil]) rfl
theorem c64_pc (a : Int) (b : Int) : PCo Try.prog 64 [dI a, dI b] (Tab.of []) (dB (decide (b < a))) (Tab.of []) := by
  refine pco_of_run [] (E := ⟨[], [], []⟩) (m := false) (base := 0) Env.ok_nil G_ok mix 300 6 Try.func64 (by kernel_rfl) rfl (by kernel_rfl) (by kernel_rfl) rfl ?_
  simp [Try.f64]
  all_goals first | omega | (rw [Bool.eq_iff_iff]; simp; omega) | grind
theorem c64_ok : c64.ok Try.prog := mkCon_ok fun ⟨a, b⟩ hpre => c64_pc a b
/-- loop.example/g03007/impl.firstInOrder -/
noncomputable def c63 : Con := mkCon 63 false (α := FuncId × Int × Int) (fun x => (fun (g : FuncId) (a : Int) (b : Int) => ([.fn (.func g) [] [], dI a, .sl false 1 (dI 0) [dI b]] : List D)) x.1 x.2.1 x.2.2) (fun x => (fun (g : FuncId) (a : Int) (b : Int) => ([] : List (Nm × OO))) x.1 x.2.1 x.2.2) (fun x => (fun (g : FuncId) (a : Int) (b : Int) => g = 65 ∨ g = 64) x.1 x.2.1 x.2.2) (fun x => (fun (g : FuncId) (a : Int) (b : Int) => (dI (if g = 65 then min a b else max a b) : D)) x.1 x.2.1 x.2.2) (fun x => (fun (g : FuncId) (a : Int) (b : Int) => ([] : List (Nm × OO))) x.1 x.2.1 x.2.2)
@[simp] theorem c63_f : c63.f = 63 := rfl
@[simp] theorem c63_own : c63.own = false := rfl
theorem c63_inj : ∀ u_ v_ : FuncId × Int × Int, ((fun x => (fun (g : FuncId) (a : Int) (b : Int) => ([.fn (.func g) [] [], dI a, .sl false 1 (dI 0) [dI b]] : List D)) x.1 x.2.1 x.2.2) u_).map nz = ((fun x => (fun (g : FuncId) (a : Int) (b : Int) => ([.fn (.func g) [] [], dI a, .sl false 1 (dI 0) [dI b]] : List D)) x.1 x.2.1 x.2.2) v_).map nz → (fun x => (fun (g : FuncId) (a : Int) (b : Int) => ([] : List (Nm × OO))) x.1 x.2.1 x.2.2) u_ = (fun x => (fun (g : FuncId) (a : Int) (b : Int) => ([] : List (Nm × OO))) x.1 x.2.1 x.2.2) v_ → u_ = v_ := by
  intro u_ v_ h h2_
  obtain ⟨g, a, b⟩ := u_
  obtain ⟨g', a', b'⟩ := v_
  simp [nz_lit, nz1_lit, nz_agg, nz_sl, nz1_sl, nz_sx, nz_el, nz1_el, nz_own, nz1_own, nz_ptr, nz_fn, nz_iface] at h h2_
  first | (simp [h, h2_]; done) | (obtain ⟨h3_, h4_⟩ := List.append_inj h2_ h.1; simp_all; done) | simp_all | grind
@[simp] theorem c63_fn (g : FuncId) (a : Int) (b : Int) : c63.fn ([.fn (.func g) [] [], dI a, .sl false 1 (dI 0) [dI b]]) ([]) = some (g = 65 ∨ g = 64, dI (if g = 65 then min a b else max a b), []) :=
  mkCon_fn c63_inj ((g, a, b) : FuncId × Int × Int) rfl rfl
theorem c63_pc (g : FuncId) (a : Int) (b : Int) (hpre : g = 65 ∨ g = 64) : PCo Try.prog 63 ([.fn (.func g) [] [], dI a, .sl false 1 (dI 0) [dI b]]) (Tab.of ([])) (dI (if g = 65 then min a b else max a b)) (Tab.of ([])) := by
  refine pco_of_run [] (E := ⟨[c65, c64], [], []⟩) (m := false) (base := 0) (Env.ok_cons c65_ok (Env.ok_cons c64_ok Env.ok_nil)) G_ok mix 300 6 Try.func63 (by kernel_rfl) rfl (by kernel_rfl) (by kernel_rfl) rfl ?_
  rcases hpre with rfl | rfl
  · simp [Try.f63]
    refine loop_unroll 100 ?_
    simp
    omega
  · simp [Try.f63]
    refine loop_unroll 100 ?_
    simp
    omega
theorem c63_ok : c63.ok Try.prog := mkCon_ok fun ⟨g, a, b⟩ hpre => c63_pc g a b hpre
/-- loop.example/g03007/impl.Min -/
noncomputable def c60 : Con := mkCon 60 false (α := Int × Int) (fun x => (fun (a : Int) (b : Int) => [dI a, dI b]) x.1 x.2) (fun _ => []) (fun x => (fun (a : Int) (b : Int) => True) x.1 x.2) (fun x => (fun (a : Int) (b : Int) => (dI (min a b) : D)) x.1 x.2) (fun x => (fun (a : Int) (b : Int) => []) x.1 x.2)
@[simp] theorem c60_f : c60.f = 60 := rfl
@[simp] theorem c60_own : c60.own = false := rfl
theorem c60_inj : ∀ u_ v_ : Int × Int, ((fun x => (fun (a : Int) (b : Int) => [dI a, dI b]) x.1 x.2) u_).map nz = ((fun x => (fun (a : Int) (b : Int) => [dI a, dI b]) x.1 x.2) v_).map nz → u_ = v_ := by
  intro u_ v_ h
  obtain ⟨a, b⟩ := u_
  obtain ⟨a', b'⟩ := v_
  simp [nz_lit, nz1_lit, nz_agg, nz_sl, nz1_sl] at h
  first | (simp [h]; done) | (obtain ⟨⟩ := h; simp_all; done) | simp_all
@[simp] theorem c60_fn (a : Int) (b : Int) : c60.fn [.lit (.int .i64 a), .lit (.int .i64 b)] [] = some ((fun (a : Int) (b : Int) => True) a b, (fun (a : Int) (b : Int) => (dI (min a b) : D)) a b, (fun (a : Int) (b : Int) => []) a b) :=
  mkCon_fn (fun x y h _ => c60_inj x y h) ((a, b) : Int × Int) (by simp [nz, nz1, ML_nil]) rfl
theorem c60_pc (a : Int) (b : Int) : PCo Try.prog 60 [dI a, dI b] (Tab.of []) (dI (min a b)) (Tab.of []) := by
  refine pco_of_run [] (E := ⟨[c63, c65], [], []⟩) (m := false) (base := 0) (Env.ok_cons c63_ok (Env.ok_cons c65_ok Env.ok_nil)) G_ok mix 300 6 Try.func60 (by kernel_rfl) rfl (by kernel_rfl) (by kernel_rfl) rfl ?_
  simp [Try.f60]
  all_goals first | omega | (rw [Bool.eq_iff_iff]; simp; omega) | grind
theorem c60_ok : c60.ok Try.prog := mkCon_ok fun ⟨a, b⟩ hpre => c60_pc a b
/-- loop.example/g03007/impl.Max -/
noncomputable def c59 : Con := mkCon 59 false (α := Int × Int) (fun x => (fun (a : Int) (b : Int) => [dI a, dI b]) x.1 x.2) (fun _ => []) (fun x => (fun (a : Int) (b : Int) => True) x.1 x.2) (fun x => (fun (a : Int) (b : Int) => (dI (max a b) : D)) x.1 x.2) (fun x => (fun (a : Int) (b : Int) => []) x.1 x.2)
@[simp] theorem c59_f : c59.f = 59 := rfl
@[simp] theorem c59_own : c59.own = false := rfl
theorem c59_inj : ∀ u_ v_ : Int × Int, ((fun x => (fun (a : Int) (b : Int) => [dI a, dI b]) x.1 x.2) u_).map nz = ((fun x => (fun (a : Int) (b : Int) => [dI a, dI b]) x.1 x.2) v_).map nz → u_ = v_ := by
  intro u_ v_ h
  obtain ⟨a, b⟩ := u_
  obtain ⟨a', b'⟩ := v_
  simp [nz_lit, nz1_lit, nz_agg, nz_sl, nz1_sl] at h
  first | (simp [h]; done) | (obtain ⟨⟩ := h; simp_all; done) | simp_all
@[simp] theorem c59_fn (a : Int) (b : Int) : c59.fn [.lit (.int .i64 a), .lit (.int .i64 b)] [] = some ((fun (a : Int) (b : Int) => True) a b, (fun (a : Int) (b : Int) => (dI (max a b) : D)) a b, (fun (a : Int) (b : Int) => []) a b) :=
  mkCon_fn (fun x y h _ => c59_inj x y h) ((a, b) : Int × Int) (by simp [nz, nz1, ML_nil]) rfl
theorem c59_pc (a : Int) (b : Int) : PCo Try.prog 59 [dI a, dI b] (Tab.of []) (dI (max a b)) (Tab.of []) := by
  refine pco_of_run [] (E := ⟨[c63, c64], [], []⟩) (m := false) (base := 0) (Env.ok_cons c63_ok (Env.ok_cons c64_ok Env.ok_nil)) G_ok mix 300 6 Try.func59 (by kernel_rfl) rfl (by kernel_rfl) (by kernel_rfl) rfl ?_
  simp [Try.f59]
  all_goals first | omega | (rw [Bool.eq_iff_iff]; simp; omega) | grind
theorem c59_ok : c59.ok Try.prog := mkCon_ok fun ⟨a, b⟩ hpre => c59_pc a b
/-- loop.example/g03007/laws.toSpan -/
noncomputable def c23 : Con := mkCon 23 false (α := TSpan) (fun x => (fun (s : TSpan) => [encTSpan s]) x) (fun _ => []) (fun x => (fun (s : TSpan) => True) x) (fun x => (fun (s : TSpan) => (encTSpan s : D)) x) (fun x => (fun (s : TSpan) => []) x)
@[simp] theorem c23_f : c23.f = 23 := rfl
@[simp] theorem c23_own : c23.own = false := rfl
theorem c23_inj : ∀ u_ v_ : TSpan, ((fun x => (fun (s : TSpan) => [encTSpan s]) x) u_).map nz = ((fun x => (fun (s : TSpan) => [encTSpan s]) x) v_).map nz → u_ = v_ := by
  intro u_ v_ h
  obtain ⟨s_From, s_Until⟩ := u_
  obtain ⟨s_From', s_Until'⟩ := v_
  simp [nz_lit, nz1_lit, nz_agg, nz_sl, nz1_sl, encTSpan] at h
  first | (simp [h]; done) | (obtain ⟨⟩ := h; simp_all; done) | simp_all
@[simp] theorem c23_fn (s_From : Int) (s_Until : Int) : c23.fn [.agg [.lit (.int .i64 s_From), .lit (.int .i64 s_Until)]] [] = some ((fun (s : TSpan) => True) ⟨s_From, s_Until⟩, (fun (s : TSpan) => (encTSpan s : D)) ⟨s_From, s_Until⟩, (fun (s : TSpan) => []) ⟨s_From, s_Until⟩) :=
  mkCon_fn (fun x y h _ => c23_inj x y h) (⟨s_From, s_Until⟩ : TSpan) (by simp [nz, nz1, ML_nil, encTSpan]) rfl
theorem c23_pc (s : TSpan) : PCo Try.prog 23 [encTSpan s] (Tab.of []) (encTSpan s) (Tab.of []) := by
  obtain ⟨s_From, s_Until⟩ := s
  refine pco_of_run [] (E := ⟨[], [], []⟩) (m := false) (base := 0) Env.ok_nil G_ok mix 300 6 Try.func23 (by kernel_rfl) rfl (by kernel_rfl) (by kernel_rfl) rfl ?_
  simp [Try.f23]
  all_goals first | omega | (rw [Bool.eq_iff_iff]; simp; omega) | grind
theorem c23_ok : c23.ok Try.prog := mkCon_ok fun s hpre => c23_pc s
/-- loop.example/g03007/laws.eqSpan -/
noncomputable def c26 : Con := mkCon 26 false (α := TSpan × TSpan) (fun x => (fun (a : TSpan) (b : TSpan) => [encTSpan a, encTSpan b]) x.1 x.2) (fun _ => []) (fun x => (fun (a : TSpan) (b : TSpan) => True) x.1 x.2) (fun x => (fun (a : TSpan) (b : TSpan) => (dB (decide (a = b)) : D)) x.1 x.2) (fun x => (fun (a : TSpan) (b : TSpan) => []) x.1 x.2)
@[simp] theorem c26_f : c26.f = 26 := rfl
@[simp] theorem c26_own : c26.own = false := rfl
theorem c26_inj : ∀ u_ v_ : TSpan × TSpan, ((fun x => (fun (a : TSpan) (b : TSpan) => [encTSpan a, encTSpan b]) x.1 x.2) u_).map nz = ((fun x => (fun (a : TSpan) (b : TSpan) => [encTSpan a, encTSpan b]) x.1 x.2) v_).map nz → u_ = v_ := by
  intro u_ v_ h
  obtain ⟨⟨a_From, a_Until⟩, ⟨b_From, b_Until⟩⟩ := u_
  obtain ⟨⟨a_From', a_Until'⟩, ⟨b_From', b_Until'⟩⟩ := v_
  simp [nz_lit, nz1_lit, nz_agg, nz_sl, nz1_sl, encTSpan] at h
  first | (simp [h]; done) | (obtain ⟨⟩ := h; simp_all; done) | simp_all
@[simp] theorem c26_fn (a_From : Int) (a_Until : Int) (b_From : Int) (b_Until : Int) : c26.fn [.agg [.lit (.int .i64 a_From), .lit (.int .i64 a_Until)], .agg [.lit (.int .i64 b_From), .lit (.int .i64 b_Until)]] [] = some ((fun (a : TSpan) (b : TSpan) => True) ⟨a_From, a_Until⟩ ⟨b_From, b_Until⟩, (fun (a : TSpan) (b : TSpan) => (dB (decide (a = b)) : D)) ⟨a_From, a_Until⟩ ⟨b_From, b_Until⟩, (fun (a : TSpan) (b : TSpan) => []) ⟨a_From, a_Until⟩ ⟨b_From, b_Until⟩) :=
  mkCon_fn (fun x y h _ => c26_inj x y h) ((⟨a_From, a_Until⟩, ⟨b_From, b_Until⟩) : TSpan × TSpan) (by simp [nz, nz1, ML_nil, encTSpan]) rfl
theorem c26_pc (a : TSpan) (b : TSpan) : PCo Try.prog 26 [encTSpan a, encTSpan b] (Tab.of []) (dB (decide (a = b))) (Tab.of []) := by
  obtain ⟨a_From, a_Until⟩ := a
  obtain ⟨b_From, b_Until⟩ := b
  refine pco_of_run [] (E := ⟨[], [], []⟩) (m := false) (base := 0) Env.ok_nil G_ok mix 300 6 Try.func26 (by kernel_rfl) rfl (by kernel_rfl) (by kernel_rfl) rfl ?_
  simp [Try.f26]
  all_goals first | omega | (rw [Bool.eq_iff_iff]; simp; omega) | grind
theorem c26_ok : c26.ok Try.prog := mkCon_ok fun ⟨a, b⟩ hpre => c26_pc a b
def mIsSpan (s : TSpan) : Bool := decide (0 ≤ s.From) && decide (s.From ≤ s.Until) && decide (s.Until ≤ 100000)
/-- loop.example/g03007/spec.IsSpan -/
noncomputable def c33 : Con := mkCon 33 false (α := TSpan) (fun x => (fun (s : TSpan) => [encTSpan s]) x) (fun _ => []) (fun x => (fun (s : TSpan) => True) x) (fun x => (fun (s : TSpan) => (dB (mIsSpan s) : D)) x) (fun x => (fun (s : TSpan) => []) x)
@[simp] theorem c33_f : c33.f = 33 := rfl
@[simp] theorem c33_own : c33.own = false := rfl
theorem c33_inj : ∀ u_ v_ : TSpan, ((fun x => (fun (s : TSpan) => [encTSpan s]) x) u_).map nz = ((fun x => (fun (s : TSpan) => [encTSpan s]) x) v_).map nz → u_ = v_ := by
  intro u_ v_ h
  obtain ⟨s_From, s_Until⟩ := u_
  obtain ⟨s_From', s_Until'⟩ := v_
  simp [nz_lit, nz1_lit, nz_agg, nz_sl, nz1_sl, encTSpan] at h
  first | (simp [h]; done) | (obtain ⟨⟩ := h; simp_all; done) | simp_all
@[simp] theorem c33_fn (s_From : Int) (s_Until : Int) : c33.fn [.agg [.lit (.int .i64 s_From), .lit (.int .i64 s_Until)]] [] = some ((fun (s : TSpan) => True) ⟨s_From, s_Until⟩, (fun (s : TSpan) => (dB (mIsSpan s) : D)) ⟨s_From, s_Until⟩, (fun (s : TSpan) => []) ⟨s_From, s_Until⟩) :=
  mkCon_fn (fun x y h _ => c33_inj x y h) (⟨s_From, s_Until⟩ : TSpan) (by simp [nz, nz1, ML_nil, encTSpan]) rfl
theorem c33_pc (s : TSpan) : PCo Try.prog 33 [encTSpan s] (Tab.of []) (dB (mIsSpan s)) (Tab.of []) := by
  obtain ⟨s_From, s_Until⟩ := s
  refine pco_of_run [] (E := ⟨[c41], [], []⟩) (m := false) (base := 0) (Env.ok_cons c41_ok Env.ok_nil) G_ok mix 300 6 Try.func33 (by kernel_rfl) rfl (by kernel_rfl) (by kernel_rfl) rfl ?_
  simp [Try.f33]
  rw [Bool.eq_iff_iff]; simp [mIsSpan, mIn]; omega
theorem c33_ok : c33.ok Try.prog := mkCon_ok fun s hpre => c33_pc s
/-- loop.example/g03007/impl.IsSpan -/
noncomputable def c45 : Con := mkCon 45 false (α := TSpan) (fun x => (fun (s : TSpan) => [encTSpan s]) x) (fun _ => []) (fun x => (fun (s : TSpan) => True) x) (fun x => (fun (s : TSpan) => (dB (mIsSpan s) : D)) x) (fun x => (fun (s : TSpan) => []) x)
@[simp] theorem c45_f : c45.f = 45 := rfl
@[simp] theorem c45_own : c45.own = false := rfl
theorem c45_inj : ∀ u_ v_ : TSpan, ((fun x => (fun (s : TSpan) => [encTSpan s]) x) u_).map nz = ((fun x => (fun (s : TSpan) => [encTSpan s]) x) v_).map nz → u_ = v_ := by
  intro u_ v_ h
  obtain ⟨s_From, s_Until⟩ := u_
  obtain ⟨s_From', s_Until'⟩ := v_
  simp [nz_lit, nz1_lit, nz_agg, nz_sl, nz1_sl, encTSpan] at h
  first | (simp [h]; done) | (obtain ⟨⟩ := h; simp_all; done) | simp_all
@[simp] theorem c45_fn (s_From : Int) (s_Until : Int) : c45.fn [.agg [.lit (.int .i64 s_From), .lit (.int .i64 s_Until)]] [] = some ((fun (s : TSpan) => True) ⟨s_From, s_Until⟩, (fun (s : TSpan) => (dB (mIsSpan s) : D)) ⟨s_From, s_Until⟩, (fun (s : TSpan) => []) ⟨s_From, s_Until⟩) :=
  mkCon_fn (fun x y h _ => c45_inj x y h) (⟨s_From, s_Until⟩ : TSpan) (by simp [nz, nz1, ML_nil, encTSpan]) rfl
theorem c45_pc (s : TSpan) : PCo Try.prog 45 [encTSpan s] (Tab.of []) (dB (mIsSpan s)) (Tab.of []) := by
  obtain ⟨s_From, s_Until⟩ := s
  refine pco_of_run [] (E := ⟨[], [], []⟩) (m := false) (base := 0) Env.ok_nil G_ok mix 300 6 Try.func45 (by kernel_rfl) rfl (by kernel_rfl) (by kernel_rfl) rfl ?_
  simp [Try.f45]
  simp [mIsSpan]
theorem c45_ok : c45.ok Try.prog := mkCon_ok fun s hpre => c45_pc s
def okS (ok : Bool) (s d : TSpan) : TSpan := if ok then s else d
@[simp] theorem okS_t (s d : TSpan) : okS true s d = s := rfl
@[simp] theorem okS_f (s d : TSpan) : okS false s d = d := rfl
@[simp] def rSpan (ok : Bool) (s d : TSpan) : D := .tup [encTSpan (okS ok s d), dB ok]
def mMeet (a b : TSpan) : TSpan := ⟨max a.From b.From, min a.Until b.Until⟩
def mHull (a b : TSpan) : TSpan := ⟨min a.From b.From, max a.Until b.Until⟩
def kMeet (a b : TSpan) : Bool := mIsSpan a && mIsSpan b && mIsSpan (mMeet a b)
/-- loop.example/g03007/spec.Meet -/
noncomputable def c21 : Con := mkCon 21 false (α := TSpan × TSpan) (fun x => (fun (a : TSpan) (b : TSpan) => [encTSpan a, encTSpan b]) x.1 x.2) (fun _ => []) (fun x => (fun (a : TSpan) (b : TSpan) => True) x.1 x.2) (fun x => (fun (a : TSpan) (b : TSpan) => (rSpan (kMeet a b) (mMeet a b) ⟨0, 0⟩ : D)) x.1 x.2) (fun x => (fun (a : TSpan) (b : TSpan) => []) x.1 x.2)
@[simp] theorem c21_f : c21.f = 21 := rfl
@[simp] theorem c21_own : c21.own = false := rfl
theorem c21_inj : ∀ u_ v_ : TSpan × TSpan, ((fun x => (fun (a : TSpan) (b : TSpan) => [encTSpan a, encTSpan b]) x.1 x.2) u_).map nz = ((fun x => (fun (a : TSpan) (b : TSpan) => [encTSpan a, encTSpan b]) x.1 x.2) v_).map nz → u_ = v_ := by
  intro u_ v_ h
  obtain ⟨⟨a_From, a_Until⟩, ⟨b_From, b_Until⟩⟩ := u_
  obtain ⟨⟨a_From', a_Until'⟩, ⟨b_From', b_Until'⟩⟩ := v_
  simp [nz_lit, nz1_lit, nz_agg, nz_sl, nz1_sl, encTSpan] at h
  first | (simp [h]; done) | (obtain ⟨⟩ := h; simp_all; done) | simp_all
@[simp] theorem c21_fn (a_From : Int) (a_Until : Int) (b_From : Int) (b_Until : Int) : c21.fn [.agg [.lit (.int .i64 a_From), .lit (.int .i64 a_Until)], .agg [.lit (.int .i64 b_From), .lit (.int .i64 b_Until)]] [] = some ((fun (a : TSpan) (b : TSpan) => True) ⟨a_From, a_Until⟩ ⟨b_From, b_Until⟩, (fun (a : TSpan) (b : TSpan) => (rSpan (kMeet a b) (mMeet a b) ⟨0, 0⟩ : D)) ⟨a_From, a_Until⟩ ⟨b_From, b_Until⟩, (fun (a : TSpan) (b : TSpan) => []) ⟨a_From, a_Until⟩ ⟨b_From, b_Until⟩) :=
  mkCon_fn (fun x y h _ => c21_inj x y h) ((⟨a_From, a_Until⟩, ⟨b_From, b_Until⟩) : TSpan × TSpan) (by simp [nz, nz1, ML_nil, encTSpan]) rfl
theorem c21_pc (a : TSpan) (b : TSpan) : PCo Try.prog 21 [encTSpan a, encTSpan b] (Tab.of []) (rSpan (kMeet a b) (mMeet a b) ⟨0, 0⟩) (Tab.of []) := by
  obtain ⟨a_From, a_Until⟩ := a
  obtain ⟨b_From, b_Until⟩ := b
  refine pco_of_run [1] (E := ⟨[c31, c32, c33], [], []⟩) (m := false) (base := 0) (Env.ok_cons c31_ok (Env.ok_cons c32_ok (Env.ok_cons c33_ok Env.ok_nil))) G_ok mix 300 6 Try.func21 (by kernel_rfl) rfl (by kernel_rfl) (by kernel_rfl) rfl ?_
  simp [Try.f21]
  refine ⟨fun h => ?_, fun h1 h2 h3 => ?_⟩
  · have : kMeet ⟨a_From, a_Until⟩ ⟨b_From, b_Until⟩ = false := by simp [kMeet, mMeet]; grind
    simp [this]
  · have : kMeet ⟨a_From, a_Until⟩ ⟨b_From, b_Until⟩ = true := by simp [kMeet, mMeet, *]
    simp [this, mMeet]
theorem c21_ok : c21.ok Try.prog := mkCon_ok fun ⟨a, b⟩ hpre => c21_pc a b
def kHull (a b : TSpan) : Bool := mIsSpan a && mIsSpan b
def kWiden (s : TSpan) (n : Int) : Bool := mIsSpan s && mIn n 0 100000
def mWiden (s : TSpan) (n : Int) : TSpan := ⟨max (s.From - n) 0, min (s.Until + n) 100000⟩
theorem isSpan_of {s : TSpan} (h : mIsSpan s = true) : 0 ≤ s.From ∧ s.From ≤ s.Until ∧ s.Until ≤ 100000 := by
  simp [mIsSpan] at h; omega
theorem in_of {x y z : Int} (h : mIn x y z = true) : y ≤ x ∧ x ≤ z := by
  simp [mIn] at h; exact h
def mHolds (s : TSpan) (h : Int) : Bool := mIsSpan s && mIn h s.From s.Until
def mHours (s : TSpan) : Int := if mIsSpan s then s.Until - s.From + 1 else 0
/-- (loop.example/g03007/impl.Span).meet -/
noncomputable def c84 : Con := mkCon 84 false (α := TSpan × TSpan) (fun x => (fun (s : TSpan) (o : TSpan) => [encTSpan s, encTSpan o]) x.1 x.2) (fun _ => []) (fun x => (fun (s : TSpan) (o : TSpan) => True) x.1 x.2) (fun x => (fun (s : TSpan) (o : TSpan) => (encTSpan (mMeet s o) : D)) x.1 x.2) (fun x => (fun (s : TSpan) (o : TSpan) => []) x.1 x.2)
@[simp] theorem c84_f : c84.f = 84 := rfl
@[simp] theorem c84_own : c84.own = false := rfl
theorem c84_inj : ∀ u_ v_ : TSpan × TSpan, ((fun x => (fun (s : TSpan) (o : TSpan) => [encTSpan s, encTSpan o]) x.1 x.2) u_).map nz = ((fun x => (fun (s : TSpan) (o : TSpan) => [encTSpan s, encTSpan o]) x.1 x.2) v_).map nz → u_ = v_ := by
  intro u_ v_ h
  obtain ⟨⟨s_From, s_Until⟩, ⟨o_From, o_Until⟩⟩ := u_
  obtain ⟨⟨s_From', s_Until'⟩, ⟨o_From', o_Until'⟩⟩ := v_
  simp [nz_lit, nz1_lit, nz_agg, nz_sl, nz1_sl, encTSpan] at h
  first | (simp [h]; done) | (obtain ⟨⟩ := h; simp_all; done) | simp_all
@[simp] theorem c84_fn (s_From : Int) (s_Until : Int) (o_From : Int) (o_Until : Int) : c84.fn [.agg [.lit (.int .i64 s_From), .lit (.int .i64 s_Until)], .agg [.lit (.int .i64 o_From), .lit (.int .i64 o_Until)]] [] = some ((fun (s : TSpan) (o : TSpan) => True) ⟨s_From, s_Until⟩ ⟨o_From, o_Until⟩, (fun (s : TSpan) (o : TSpan) => (encTSpan (mMeet s o) : D)) ⟨s_From, s_Until⟩ ⟨o_From, o_Until⟩, (fun (s : TSpan) (o : TSpan) => []) ⟨s_From, s_Until⟩ ⟨o_From, o_Until⟩) :=
  mkCon_fn (fun x y h _ => c84_inj x y h) ((⟨s_From, s_Until⟩, ⟨o_From, o_Until⟩) : TSpan × TSpan) (by simp [nz, nz1, ML_nil, encTSpan]) rfl
theorem c84_pc (s : TSpan) (o : TSpan) : PCo Try.prog 84 [encTSpan s, encTSpan o] (Tab.of []) (encTSpan (mMeet s o)) (Tab.of []) := by
  obtain ⟨s_From, s_Until⟩ := s
  obtain ⟨o_From, o_Until⟩ := o
  refine pco_of_run [1] (E := ⟨[c59, c60], [], []⟩) (m := false) (base := 0) (Env.ok_cons c59_ok (Env.ok_cons c60_ok Env.ok_nil)) G_ok mix 300 6 Try.func84 (by kernel_rfl) rfl (by kernel_rfl) (by kernel_rfl) rfl ?_
  simp [Try.f84]
  simp [mMeet]
theorem c84_ok : c84.ok Try.prog := mkCon_ok fun ⟨s, o⟩ hpre => c84_pc s o
/-- (loop.example/g03007/impl.meeting).applyTo -/
noncomputable def c85 : Con := mkCon 85 false (α := TMeeting × TSpan) (fun x => (fun (c : TMeeting) (s : TSpan) => [encTMeeting c, encTSpan s]) x.1 x.2) (fun _ => []) (fun x => (fun (c : TMeeting) (s : TSpan) => True) x.1 x.2) (fun x => (fun (c : TMeeting) (s : TSpan) => (encTSpan (mMeet s c.with_) : D)) x.1 x.2) (fun x => (fun (c : TMeeting) (s : TSpan) => []) x.1 x.2)
@[simp] theorem c85_f : c85.f = 85 := rfl
@[simp] theorem c85_own : c85.own = false := rfl
theorem c85_inj : ∀ u_ v_ : TMeeting × TSpan, ((fun x => (fun (c : TMeeting) (s : TSpan) => [encTMeeting c, encTSpan s]) x.1 x.2) u_).map nz = ((fun x => (fun (c : TMeeting) (s : TSpan) => [encTMeeting c, encTSpan s]) x.1 x.2) v_).map nz → u_ = v_ := by
  intro u_ v_ h
  obtain ⟨⟨⟨c_with__From, c_with__Until⟩⟩, ⟨s_From, s_Until⟩⟩ := u_
  obtain ⟨⟨⟨c_with__From', c_with__Until'⟩⟩, ⟨s_From', s_Until'⟩⟩ := v_
  simp [nz_lit, nz1_lit, nz_agg, nz_sl, nz1_sl, encTMeeting, encTSpan] at h
  first | (simp [h]; done) | (obtain ⟨⟩ := h; simp_all; done) | simp_all
@[simp] theorem c85_fn (c_with__From : Int) (c_with__Until : Int) (s_From : Int) (s_Until : Int) : c85.fn [.agg [.lit (.int .i64 c_with__From), .lit (.int .i64 c_with__Until)], .agg [.lit (.int .i64 s_From), .lit (.int .i64 s_Until)]] [] = some ((fun (c : TMeeting) (s : TSpan) => True) ⟨⟨c_with__From, c_with__Until⟩⟩ ⟨s_From, s_Until⟩, (fun (c : TMeeting) (s : TSpan) => (encTSpan (mMeet s c.with_) : D)) ⟨⟨c_with__From, c_with__Until⟩⟩ ⟨s_From, s_Until⟩, (fun (c : TMeeting) (s : TSpan) => []) ⟨⟨c_with__From, c_with__Until⟩⟩ ⟨s_From, s_Until⟩) :=
  mkCon_fn (fun x y h _ => c85_inj x y h) ((⟨⟨c_with__From, c_with__Until⟩⟩, ⟨s_From, s_Until⟩) : TMeeting × TSpan) (by simp [nz, nz1, ML_nil, encTMeeting, encTSpan]) rfl
theorem c85_pc (c : TMeeting) (s : TSpan) : PCo Try.prog 85 [encTMeeting c, encTSpan s] (Tab.of []) (encTSpan (mMeet s c.with_)) (Tab.of []) := by
  obtain ⟨⟨c_with__From, c_with__Until⟩⟩ := c
  obtain ⟨s_From, s_Until⟩ := s
  refine pco_of_run [] (E := ⟨[c84], [], []⟩) (m := false) (base := 0) (Env.ok_cons c84_ok Env.ok_nil) G_ok mix 300 6 Try.func85 (by kernel_rfl) rfl (by kernel_rfl) (by kernel_rfl) rfl ?_
  simp [Try.f85]
  trace_state
theorem c85_ok : c85.ok Try.prog := mkCon_ok fun ⟨c, s⟩ hpre => c85_pc c s
/-- (loop.example/g03007/impl.covering).applyTo -/
noncomputable def c87 : Con := mkCon 87 false (α := TMeeting × TSpan) (fun x => (fun (c : TMeeting) (s : TSpan) => [encTMeeting c, encTSpan s]) x.1 x.2) (fun _ => []) (fun x => (fun (c : TMeeting) (s : TSpan) => True) x.1 x.2) (fun x => (fun (c : TMeeting) (s : TSpan) => (encTSpan (mHull s c.with_) : D)) x.1 x.2) (fun x => (fun (c : TMeeting) (s : TSpan) => []) x.1 x.2)
@[simp] theorem c87_f : c87.f = 87 := rfl
@[simp] theorem c87_own : c87.own = false := rfl
theorem c87_inj : ∀ u_ v_ : TMeeting × TSpan, ((fun x => (fun (c : TMeeting) (s : TSpan) => [encTMeeting c, encTSpan s]) x.1 x.2) u_).map nz = ((fun x => (fun (c : TMeeting) (s : TSpan) => [encTMeeting c, encTSpan s]) x.1 x.2) v_).map nz → u_ = v_ := by
  intro u_ v_ h
  obtain ⟨⟨⟨c_with__From, c_with__Until⟩⟩, ⟨s_From, s_Until⟩⟩ := u_
  obtain ⟨⟨⟨c_with__From', c_with__Until'⟩⟩, ⟨s_From', s_Until'⟩⟩ := v_
  simp [nz_lit, nz1_lit, nz_agg, nz_sl, nz1_sl, encTMeeting, encTSpan] at h
  first | (simp [h]; done) | (obtain ⟨⟩ := h; simp_all; done) | simp_all
@[simp] theorem c87_fn (c_with__From : Int) (c_with__Until : Int) (s_From : Int) (s_Until : Int) : c87.fn [.agg [.lit (.int .i64 c_with__From), .lit (.int .i64 c_with__Until)], .agg [.lit (.int .i64 s_From), .lit (.int .i64 s_Until)]] [] = some ((fun (c : TMeeting) (s : TSpan) => True) ⟨⟨c_with__From, c_with__Until⟩⟩ ⟨s_From, s_Until⟩, (fun (c : TMeeting) (s : TSpan) => (encTSpan (mHull s c.with_) : D)) ⟨⟨c_with__From, c_with__Until⟩⟩ ⟨s_From, s_Until⟩, (fun (c : TMeeting) (s : TSpan) => []) ⟨⟨c_with__From, c_with__Until⟩⟩ ⟨s_From, s_Until⟩) :=
  mkCon_fn (fun x y h _ => c87_inj x y h) ((⟨⟨c_with__From, c_with__Until⟩⟩, ⟨s_From, s_Until⟩) : TMeeting × TSpan) (by simp [nz, nz1, ML_nil, encTMeeting, encTSpan]) rfl
theorem c87_pc (c : TMeeting) (s : TSpan) : PCo Try.prog 87 [encTMeeting c, encTSpan s] (Tab.of []) (encTSpan (mHull s c.with_)) (Tab.of []) := by
  obtain ⟨⟨c_with__From, c_with__Until⟩⟩ := c
  obtain ⟨s_From, s_Until⟩ := s
  refine pco_of_run [1] (E := ⟨[c59, c60], [], []⟩) (m := false) (base := 0) (Env.ok_cons c59_ok (Env.ok_cons c60_ok Env.ok_nil)) G_ok mix 300 6 Try.func87 (by kernel_rfl) rfl (by kernel_rfl) (by kernel_rfl) rfl ?_
  simp [Try.f87]
  simp [mHull]
theorem c87_ok : c87.ok Try.prog := mkCon_ok fun ⟨c, s⟩ hpre => c87_pc c s
/-- (loop.example/g03007/impl.widening).applyTo -/
noncomputable def c88 : Con := mkCon 88 false (α := TWidening × TSpan) (fun x => (fun (c : TWidening) (s : TSpan) => [encTWidening c, encTSpan s]) x.1 x.2) (fun _ => []) (fun x => (fun (c : TWidening) (s : TSpan) => mIsSpan s = true ∧ mIn c.by_ 0 100000 = true) x.1 x.2) (fun x => (fun (c : TWidening) (s : TSpan) => (encTSpan (mWiden s c.by_) : D)) x.1 x.2) (fun x => (fun (c : TWidening) (s : TSpan) => []) x.1 x.2)
@[simp] theorem c88_f : c88.f = 88 := rfl
@[simp] theorem c88_own : c88.own = false := rfl
theorem c88_inj : ∀ u_ v_ : TWidening × TSpan, ((fun x => (fun (c : TWidening) (s : TSpan) => [encTWidening c, encTSpan s]) x.1 x.2) u_).map nz = ((fun x => (fun (c : TWidening) (s : TSpan) => [encTWidening c, encTSpan s]) x.1 x.2) v_).map nz → u_ = v_ := by
  intro u_ v_ h
  obtain ⟨⟨c_by_⟩, ⟨s_From, s_Until⟩⟩ := u_
  obtain ⟨⟨c_by_'⟩, ⟨s_From', s_Until'⟩⟩ := v_
  simp [nz_lit, nz1_lit, nz_agg, nz_sl, nz1_sl, encTSpan, encTWidening] at h
  first | (simp [h]; done) | (obtain ⟨⟩ := h; simp_all; done) | simp_all
@[simp] theorem c88_fn (c_by_ : Int) (s_From : Int) (s_Until : Int) : c88.fn [.agg [.lit (.int .i64 c_by_)], .agg [.lit (.int .i64 s_From), .lit (.int .i64 s_Until)]] [] = some ((fun (c : TWidening) (s : TSpan) => mIsSpan s = true ∧ mIn c.by_ 0 100000 = true) ⟨c_by_⟩ ⟨s_From, s_Until⟩, (fun (c : TWidening) (s : TSpan) => (encTSpan (mWiden s c.by_) : D)) ⟨c_by_⟩ ⟨s_From, s_Until⟩, (fun (c : TWidening) (s : TSpan) => []) ⟨c_by_⟩ ⟨s_From, s_Until⟩) :=
  mkCon_fn (fun x y h _ => c88_inj x y h) ((⟨c_by_⟩, ⟨s_From, s_Until⟩) : TWidening × TSpan) (by simp [nz, nz1, ML_nil, encTSpan, encTWidening]) rfl
theorem c88_pc (c : TWidening) (s : TSpan) (hpre : mIsSpan s = true ∧ mIn c.by_ 0 100000 = true) : PCo Try.prog 88 [encTWidening c, encTSpan s] (Tab.of []) (encTSpan (mWiden s c.by_)) (Tab.of []) := by
  obtain ⟨c_by_⟩ := c
  obtain ⟨s_From, s_Until⟩ := s
  refine pco_of_run [] (E := ⟨[c84], [], []⟩) (m := false) (base := 0) (Env.ok_cons c84_ok Env.ok_nil) G_ok mix 300 6 Try.func88 (by kernel_rfl) rfl (by kernel_rfl) (by kernel_rfl) rfl ?_
  simp [Try.f88]
  have h3 := isSpan_of hpre.1
  have h4 := in_of hpre.2
  simp [mWiden, mMeet] at h3 h4 ⊢
  omega
theorem c88_ok : c88.ok Try.prog := mkCon_ok fun ⟨c, s⟩ hpre => c88_pc c s hpre
def geN {α : Type} (num : α → Int) (n : Int) (x : α) : Bool := decide (n ≤ num x)
def putAt {α : Type} (num : α → Int) (n : Int) (l : List α) : Nat := if indexBy (geN num n) 0 l < 0 then l.length else (indexBy (geN num n) 0 l).toNat
def putRest {α : Type} [Inhabited α] (num : α → Int) (n : Int) (l : List α) : Nat := if putAt num n l < l.length ∧ num (l[putAt num n l]?.getD default) = n then putAt num n l + 1 else putAt num n l
def putBy {α : Type} [Inhabited α] (num : α → Int) (x : α) (l : List α) : List α := l.take (putAt num (num x) l) ++ x :: l.drop (putRest num (num x) l)
theorem putAt_le {α : Type} (num : α → Int) (n : Int) (l : List α) : putAt num n l ≤ l.length := by
  have := indexBy_bd (want := geN num n) l 0
  simp only [putAt]; split <;> omega
theorem putRest_le {α : Type} [Inhabited α] (num : α → Int) (n : Int) (l : List α) : putAt num n l ≤ putRest num n l ∧ putRest num n l ≤ l.length ∧ putRest num n l ≤ putAt num n l + 1 := by
  have := putAt_le num n l
  simp only [putRest]; split <;> omega
theorem putBy_len {α : Type} [Inhabited α] (num : α → Int) (x : α) (l : List α) : (putBy num x l).length ≤ l.length + 1 := by
  have h1 := putAt_le num (num x) l
  have h2 := putRest_le num (num x) l
  simp [putBy]; omega

end Go.Proofs.Ytelhilcdlfjafaa
