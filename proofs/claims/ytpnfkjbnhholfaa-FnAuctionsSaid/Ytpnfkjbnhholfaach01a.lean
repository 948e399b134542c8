/- Contracts of the functions that the laws run. -/
import Derived.Test.YtpnfkjbnhholfaaTS
import Derived.Test.YtpnfkjbnhholfaaEngB
namespace Go.Proofs.Ytpnfkjbnhholfaa
open Go Go.Eng
set_option linter.unusedSimpArgs false
set_option linter.unusedVariables false
set_option maxRecDepth 10000
set_option maxHeartbeats 1000000
def mIn (x y z : Int) : Bool := decide (y ≤ x) && decide (x ≤ z)
/-- loop.example/g03007/spec.l1In -/
noncomputable def c108 : Con := mkCon 108 false (α := Int × Int × Int) (fun x => (fun (x : Int) (y : Int) (z : Int) => [dI x, dI y, dI z]) x.1 x.2.1 x.2.2) (fun _ => []) (fun x => (fun (x : Int) (y : Int) (z : Int) => True) x.1 x.2.1 x.2.2) (fun x => (fun (x : Int) (y : Int) (z : Int) => (dB (mIn x y z) : D)) x.1 x.2.1 x.2.2) (fun x => (fun (x : Int) (y : Int) (z : Int) => []) x.1 x.2.1 x.2.2)
@[simp] theorem c108_f : c108.f = 108 := rfl
@[simp] theorem c108_own : c108.own = false := rfl
theorem c108_inj : ∀ u_ v_ : Int × Int × Int, ((fun x => (fun (x : Int) (y : Int) (z : Int) => [dI x, dI y, dI z]) x.1 x.2.1 x.2.2) u_).map nz = ((fun x => (fun (x : Int) (y : Int) (z : Int) => [dI x, dI y, dI z]) x.1 x.2.1 x.2.2) v_).map nz → u_ = v_ := by
  intro u_ v_ h
  obtain ⟨x, y, z⟩ := u_
  obtain ⟨x', y', z'⟩ := v_
  simp [nz_lit, nz1_lit, nz_agg, nz_sl, nz1_sl] at h
  first | (simp [h]; done) | (obtain ⟨⟩ := h; simp_all; done) | simp_all
@[simp] theorem c108_fn (x : Int) (y : Int) (z : Int) : c108.fn [.lit (.int .i64 x), .lit (.int .i64 y), .lit (.int .i64 z)] [] = some ((fun (x : Int) (y : Int) (z : Int) => True) x y z, (fun (x : Int) (y : Int) (z : Int) => (dB (mIn x y z) : D)) x y z, (fun (x : Int) (y : Int) (z : Int) => []) x y z) :=
  mkCon_fn (fun x y h _ => c108_inj x y h) ((x, y, z) : Int × Int × Int) (by simp [nz, nz1, ML_nil]) rfl
theorem c108_pc (x : Int) (y : Int) (z : Int) : PCo Try.prog 108 [dI x, dI y, dI z] (Tab.of []) (dB (mIn x y z)) (Tab.of []) := by
  refine pco_of_run [] (E := ⟨[], [], []⟩) (m := false) (base := 0) Env.ok_nil G_ok mix 300 6 Try.func108 (by kernel_rfl) rfl (by kernel_rfl) (by kernel_rfl) rfl ?_
  simp [Try.f108]
  simp [mIn]
theorem c108_ok : c108.ok Try.prog := mkCon_ok fun ⟨x, y, z⟩ hpre => c108_pc x y z
/-- loop.example/g03007/impl.InRange -/
noncomputable def c84 : Con := mkCon 84 false (α := Int × Int × Int) (fun x => (fun (x : Int) (y : Int) (z : Int) => [dI x, dI y, dI z]) x.1 x.2.1 x.2.2) (fun _ => []) (fun x => (fun (x : Int) (y : Int) (z : Int) => True) x.1 x.2.1 x.2.2) (fun x => (fun (x : Int) (y : Int) (z : Int) => (dB (mIn x y z) : D)) x.1 x.2.1 x.2.2) (fun x => (fun (x : Int) (y : Int) (z : Int) => []) x.1 x.2.1 x.2.2)
@[simp] theorem c84_f : c84.f = 84 := rfl
@[simp] theorem c84_own : c84.own = false := rfl
theorem c84_inj : ∀ u_ v_ : Int × Int × Int, ((fun x => (fun (x : Int) (y : Int) (z : Int) => [dI x, dI y, dI z]) x.1 x.2.1 x.2.2) u_).map nz = ((fun x => (fun (x : Int) (y : Int) (z : Int) => [dI x, dI y, dI z]) x.1 x.2.1 x.2.2) v_).map nz → u_ = v_ := by
  intro u_ v_ h
  obtain ⟨x, y, z⟩ := u_
  obtain ⟨x', y', z'⟩ := v_
  simp [nz_lit, nz1_lit, nz_agg, nz_sl, nz1_sl] at h
  first | (simp [h]; done) | (obtain ⟨⟩ := h; simp_all; done) | simp_all
@[simp] theorem c84_fn (x : Int) (y : Int) (z : Int) : c84.fn [.lit (.int .i64 x), .lit (.int .i64 y), .lit (.int .i64 z)] [] = some ((fun (x : Int) (y : Int) (z : Int) => True) x y z, (fun (x : Int) (y : Int) (z : Int) => (dB (mIn x y z) : D)) x y z, (fun (x : Int) (y : Int) (z : Int) => []) x y z) :=
  mkCon_fn (fun x y h _ => c84_inj x y h) ((x, y, z) : Int × Int × Int) (by simp [nz, nz1, ML_nil]) rfl
theorem c84_pc (x : Int) (y : Int) (z : Int) : PCo Try.prog 84 [dI x, dI y, dI z] (Tab.of []) (dB (mIn x y z)) (Tab.of []) := by
  refine pco_of_run [] (E := ⟨[], [], []⟩) (m := false) (base := 0) Env.ok_nil G_ok mix 300 6 Try.func84 (by kernel_rfl) rfl (by kernel_rfl) (by kernel_rfl) rfl ?_
  simp [Try.f84]
  simp [mIn]
theorem c84_ok : c84.ok Try.prog := mkCon_ok fun ⟨x, y, z⟩ hpre => c84_pc x y z
/-- loop.example/g03007/spec.Min -/
noncomputable def c222 : Con := mkCon 222 false (α := Int × Int) (fun x => (fun (a : Int) (b : Int) => [dI a, dI b]) x.1 x.2) (fun _ => []) (fun x => (fun (a : Int) (b : Int) => True) x.1 x.2) (fun x => (fun (a : Int) (b : Int) => (dI (min a b) : D)) x.1 x.2) (fun x => (fun (a : Int) (b : Int) => []) x.1 x.2)
@[simp] theorem c222_f : c222.f = 222 := rfl
@[simp] theorem c222_own : c222.own = false := rfl
theorem c222_inj : ∀ u_ v_ : Int × Int, ((fun x => (fun (a : Int) (b : Int) => [dI a, dI b]) x.1 x.2) u_).map nz = ((fun x => (fun (a : Int) (b : Int) => [dI a, dI b]) x.1 x.2) v_).map nz → u_ = v_ := by
  intro u_ v_ h
  obtain ⟨a, b⟩ := u_
  obtain ⟨a', b'⟩ := v_
  simp [nz_lit, nz1_lit, nz_agg, nz_sl, nz1_sl] at h
  first | (simp [h]; done) | (obtain ⟨⟩ := h; simp_all; done) | simp_all
@[simp] theorem c222_fn (a : Int) (b : Int) : c222.fn [.lit (.int .i64 a), .lit (.int .i64 b)] [] = some ((fun (a : Int) (b : Int) => True) a b, (fun (a : Int) (b : Int) => (dI (min a b) : D)) a b, (fun (a : Int) (b : Int) => []) a b) :=
  mkCon_fn (fun x y h _ => c222_inj x y h) ((a, b) : Int × Int) (by simp [nz, nz1, ML_nil]) rfl
theorem c222_pc (a : Int) (b : Int) : PCo Try.prog 222 [dI a, dI b] (Tab.of []) (dI (min a b)) (Tab.of []) := by
  refine pco_of_run [] (E := ⟨[], [], []⟩) (m := false) (base := 0) Env.ok_nil G_ok mix 300 6 Try.func222 (by kernel_rfl) rfl (by kernel_rfl) (by kernel_rfl) rfl ?_
  simp [Try.f222]
  all_goals first | omega | (rw [Bool.eq_iff_iff]; simp; omega) | grind
theorem c222_ok : c222.ok Try.prog := mkCon_ok fun ⟨a, b⟩ hpre => c222_pc a b
/-- cmp.isNaN[int] -/
noncomputable def c199 : Con := mkCon 199 false (α := Int) (fun x => (fun (a : Int) => [dI a]) x) (fun _ => []) (fun x => (fun (a : Int) => True) x) (fun x => (fun (a : Int) => (dB false : D)) x) (fun x => (fun (a : Int) => []) x)
@[simp] theorem c199_f : c199.f = 199 := rfl
@[simp] theorem c199_own : c199.own = false := rfl
theorem c199_inj : ∀ u_ v_ : Int, ((fun x => (fun (a : Int) => [dI a]) x) u_).map nz = ((fun x => (fun (a : Int) => [dI a]) x) v_).map nz → u_ = v_ := by
  intro u_ v_ h
  obtain a := u_
  obtain a' := v_
  simp [nz_lit, nz1_lit, nz_agg, nz_sl, nz1_sl] at h
  first | (simp [h]; done) | (obtain ⟨⟩ := h; simp_all; done) | simp_all
@[simp] theorem c199_fn (a : Int) : c199.fn [.lit (.int .i64 a)] [] = some ((fun (a : Int) => True) a, (fun (a : Int) => (dB false : D)) a, (fun (a : Int) => []) a) :=
  mkCon_fn (fun x y h _ => c199_inj x y h) (a : Int) (by simp [nz, nz1, ML_nil]) rfl
theorem c199_pc (a : Int) : PCo Try.prog 199 [dI a] (Tab.of []) (dB false) (Tab.of []) := by
  refine pco_of_run [] (E := ⟨[], [], []⟩) (m := false) (base := 0) Env.ok_nil G_ok mix 300 6 Try.func199 (by kernel_rfl) rfl (by kernel_rfl) (by kernel_rfl) rfl ?_
  simp [Try.f199]
  all_goals first | omega | (rw [Bool.eq_iff_iff]; simp; omega) | grind
theorem c199_ok : c199.ok Try.prog := mkCon_ok fun a hpre => c199_pc a
/-- cmp.Less[int] -/
noncomputable def c157 : Con := mkCon 157 false (α := Int × Int) (fun x => (fun (a : Int) (b : Int) => [dI a, dI b]) x.1 x.2) (fun _ => []) (fun x => (fun (a : Int) (b : Int) => True) x.1 x.2) (fun x => (fun (a : Int) (b : Int) => (dB (decide (a < b)) : D)) x.1 x.2) (fun x => (fun (a : Int) (b : Int) => []) x.1 x.2)
@[simp] theorem c157_f : c157.f = 157 := rfl
@[simp] theorem c157_own : c157.own = false := rfl
theorem c157_inj : ∀ u_ v_ : Int × Int, ((fun x => (fun (a : Int) (b : Int) => [dI a, dI b]) x.1 x.2) u_).map nz = ((fun x => (fun (a : Int) (b : Int) => [dI a, dI b]) x.1 x.2) v_).map nz → u_ = v_ := by
  intro u_ v_ h
  obtain ⟨a, b⟩ := u_
  obtain ⟨a', b'⟩ := v_
  simp [nz_lit, nz1_lit, nz_agg, nz_sl, nz1_sl] at h
  first | (simp [h]; done) | (obtain ⟨⟩ := h; simp_all; done) | simp_all
@[simp] theorem c157_fn (a : Int) (b : Int) : c157.fn [.lit (.int .i64 a), .lit (.int .i64 b)] [] = some ((fun (a : Int) (b : Int) => True) a b, (fun (a : Int) (b : Int) => (dB (decide (a < b)) : D)) a b, (fun (a : Int) (b : Int) => []) a b) :=
  mkCon_fn (fun x y h _ => c157_inj x y h) ((a, b) : Int × Int) (by simp [nz, nz1, ML_nil]) rfl
theorem c157_pc (a : Int) (b : Int) : PCo Try.prog 157 [dI a, dI b] (Tab.of []) (dB (decide (a < b))) (Tab.of []) := by
  refine pco_of_run [] (E := ⟨[c199], [], []⟩) (m := false) (base := 0) (Env.ok_cons c199_ok Env.ok_nil) G_ok mix 300 6 Try.func157 (by kernel_rfl) rfl (by kernel_rfl) (by kernel_rfl) rfl ?_
  simp [Try.f157]
  all_goals first | omega | (rw [Bool.eq_iff_iff]; simp; omega) | grind
theorem c157_ok : c157.ok Try.prog := mkCon_ok fun ⟨a, b⟩ hpre => c157_pc a b
/-- loop.example/g03007/impl.isGreater -/
noncomputable def c223 : Con := mkCon 223 false (α := Int × Int) (fun x => (fun (a : Int) (b : Int) => [dI a, dI b]) x.1 x.2) (fun _ => []) (fun x => (fun (a : Int) (b : Int) => True) x.1 x.2) (fun x => (fun (a : Int) (b : Int) => (dB (decide (b < a)) : D)) x.1 x.2) (fun x => (fun (a : Int) (b : Int) => []) x.1 x.2)
@[simp] theorem c223_f : c223.f = 223 := rfl
@[simp] theorem c223_own : c223.own = false := rfl
theorem c223_inj : ∀ u_ v_ : Int × Int, ((fun x => (fun (a : Int) (b : Int) => [dI a, dI b]) x.1 x.2) u_).map nz = ((fun x => (fun (a : Int) (b : Int) => [dI a, dI b]) x.1 x.2) v_).map nz → u_ = v_ := by
  intro u_ v_ h
  obtain ⟨a, b⟩ := u_
  obtain ⟨a', b'⟩ := v_
  simp [nz_lit, nz1_lit, nz_agg, nz_sl, nz1_sl] at h
  first | (simp [h]; done) | (obtain ⟨⟩ := h; simp_all; done) | simp_all
@[simp] theorem c223_fn (a : Int) (b : Int) : c223.fn [.lit (.int .i64 a), .lit (.int .i64 b)] [] = some ((fun (a : Int) (b : Int) => True) a b, (fun (a : Int) (b : Int) => (dB (decide (b < a)) : D)) a b, (fun (a : Int) (b : Int) => []) a b) :=
  mkCon_fn (fun x y h _ => c223_inj x y h) ((a, b) : Int × Int) (by simp [nz, nz1, ML_nil]) rfl
theorem c223_pc (a : Int) (b : Int) : PCo Try.prog 223 [dI a, dI b] (Tab.of []) (dB (decide (b < a))) (Tab.of []) := by
  refine pco_of_run [] (E := ⟨[], [], []⟩) (m := false) (base := 0) Env.ok_nil G_ok mix 300 6 Try.func223 (by kernel_rfl) rfl (by kernel_rfl) (by kernel_rfl) rfl ?_
  simp [Try.f223]
  all_goals first | omega | (rw [Bool.eq_iff_iff]; simp; omega) | grind
theorem c223_ok : c223.ok Try.prog := mkCon_ok fun ⟨a, b⟩ hpre => c223_pc a b
/-- loop.example/g03007/impl.firstInOrder -/
noncomputable def c156 : Con := mkCon 156 false (α := FuncId × Int × Int) (fun x => (fun (g : FuncId) (a : Int) (b : Int) => ([.fn (.func g) [] [], dI a, .sl false 1 (dI 0) [dI b]] : List D)) x.1 x.2.1 x.2.2) (fun x => (fun (g : FuncId) (a : Int) (b : Int) => ([] : List (Nm × OO))) x.1 x.2.1 x.2.2) (fun x => (fun (g : FuncId) (a : Int) (b : Int) => g = 157 ∨ g = 223) x.1 x.2.1 x.2.2) (fun x => (fun (g : FuncId) (a : Int) (b : Int) => (dI (if g = 157 then min a b else max a b) : D)) x.1 x.2.1 x.2.2) (fun x => (fun (g : FuncId) (a : Int) (b : Int) => ([] : List (Nm × OO))) x.1 x.2.1 x.2.2)
@[simp] theorem c156_f : c156.f = 156 := rfl
@[simp] theorem c156_own : c156.own = false := rfl
theorem c156_inj : ∀ u_ v_ : FuncId × Int × Int, ((fun x => (fun (g : FuncId) (a : Int) (b : Int) => ([.fn (.func g) [] [], dI a, .sl false 1 (dI 0) [dI b]] : List D)) x.1 x.2.1 x.2.2) u_).map nz = ((fun x => (fun (g : FuncId) (a : Int) (b : Int) => ([.fn (.func g) [] [], dI a, .sl false 1 (dI 0) [dI b]] : List D)) x.1 x.2.1 x.2.2) v_).map nz → (fun x => (fun (g : FuncId) (a : Int) (b : Int) => ([] : List (Nm × OO))) x.1 x.2.1 x.2.2) u_ = (fun x => (fun (g : FuncId) (a : Int) (b : Int) => ([] : List (Nm × OO))) x.1 x.2.1 x.2.2) v_ → u_ = v_ := by
  intro u_ v_ h h2_
  obtain ⟨g, a, b⟩ := u_
  obtain ⟨g', a', b'⟩ := v_
  simp [nz_lit, nz1_lit, nz_agg, nz_sl, nz1_sl, nz_sx, nz_el, nz1_el, nz_own, nz1_own, nz_ptr, nz_fn, nz_iface] at h h2_
  first | (simp [h, h2_]; done) | (obtain ⟨h3_, h4_⟩ := List.append_inj h2_ h.1; simp_all; done) | simp_all | grind
@[simp] theorem c156_fn (g : FuncId) (a : Int) (b : Int) : c156.fn ([.fn (.func g) [] [], dI a, .sl false 1 (dI 0) [dI b]]) ([]) = some (g = 157 ∨ g = 223, dI (if g = 157 then min a b else max a b), []) :=
  mkCon_fn c156_inj ((g, a, b) : FuncId × Int × Int) rfl rfl
theorem c156_pc (g : FuncId) (a : Int) (b : Int) (hpre : g = 157 ∨ g = 223) : PCo Try.prog 156 ([.fn (.func g) [] [], dI a, .sl false 1 (dI 0) [dI b]]) (Tab.of ([])) (dI (if g = 157 then min a b else max a b)) (Tab.of ([])) := by
  refine pco_of_run [] (E := ⟨[c157, c223], [], []⟩) (m := false) (base := 0) (Env.ok_cons c157_ok (Env.ok_cons c223_ok Env.ok_nil)) G_ok mix 300 6 Try.func156 (by kernel_rfl) rfl (by kernel_rfl) (by kernel_rfl) rfl ?_
  rcases hpre with rfl | rfl
  · simp [Try.f156]
    refine loop_unroll 100 ?_
    simp
    omega
  · simp [Try.f156]
    refine loop_unroll 100 ?_
    simp
    omega
theorem c156_ok : c156.ok Try.prog := mkCon_ok fun ⟨g, a, b⟩ hpre => c156_pc g a b hpre
/-- loop.example/g03007/impl.Min -/
noncomputable def c93 : Con := mkCon 93 false (α := Int × Int) (fun x => (fun (a : Int) (b : Int) => [dI a, dI b]) x.1 x.2) (fun _ => []) (fun x => (fun (a : Int) (b : Int) => True) x.1 x.2) (fun x => (fun (a : Int) (b : Int) => (dI (min a b) : D)) x.1 x.2) (fun x => (fun (a : Int) (b : Int) => []) x.1 x.2)
@[simp] theorem c93_f : c93.f = 93 := rfl
@[simp] theorem c93_own : c93.own = false := rfl
theorem c93_inj : ∀ u_ v_ : Int × Int, ((fun x => (fun (a : Int) (b : Int) => [dI a, dI b]) x.1 x.2) u_).map nz = ((fun x => (fun (a : Int) (b : Int) => [dI a, dI b]) x.1 x.2) v_).map nz → u_ = v_ := by
  intro u_ v_ h
  obtain ⟨a, b⟩ := u_
  obtain ⟨a', b'⟩ := v_
  simp [nz_lit, nz1_lit, nz_agg, nz_sl, nz1_sl] at h
  first | (simp [h]; done) | (obtain ⟨⟩ := h; simp_all; done) | simp_all
@[simp] theorem c93_fn (a : Int) (b : Int) : c93.fn [.lit (.int .i64 a), .lit (.int .i64 b)] [] = some ((fun (a : Int) (b : Int) => True) a b, (fun (a : Int) (b : Int) => (dI (min a b) : D)) a b, (fun (a : Int) (b : Int) => []) a b) :=
  mkCon_fn (fun x y h _ => c93_inj x y h) ((a, b) : Int × Int) (by simp [nz, nz1, ML_nil]) rfl
theorem c93_pc (a : Int) (b : Int) : PCo Try.prog 93 [dI a, dI b] (Tab.of []) (dI (min a b)) (Tab.of []) := by
  refine pco_of_run [] (E := ⟨[c156, c157], [], []⟩) (m := false) (base := 0) (Env.ok_cons c156_ok (Env.ok_cons c157_ok Env.ok_nil)) G_ok mix 300 6 Try.func93 (by kernel_rfl) rfl (by kernel_rfl) (by kernel_rfl) rfl ?_
  simp [Try.f93]
  all_goals first | omega | (rw [Bool.eq_iff_iff]; simp; omega) | grind
theorem c93_ok : c93.ok Try.prog := mkCon_ok fun ⟨a, b⟩ hpre => c93_pc a b
/-- loop.example/g03007/impl.Max -/
noncomputable def c198 : Con := mkCon 198 false (α := Int × Int) (fun x => (fun (a : Int) (b : Int) => [dI a, dI b]) x.1 x.2) (fun _ => []) (fun x => (fun (a : Int) (b : Int) => True) x.1 x.2) (fun x => (fun (a : Int) (b : Int) => (dI (max a b) : D)) x.1 x.2) (fun x => (fun (a : Int) (b : Int) => []) x.1 x.2)
@[simp] theorem c198_f : c198.f = 198 := rfl
@[simp] theorem c198_own : c198.own = false := rfl
theorem c198_inj : ∀ u_ v_ : Int × Int, ((fun x => (fun (a : Int) (b : Int) => [dI a, dI b]) x.1 x.2) u_).map nz = ((fun x => (fun (a : Int) (b : Int) => [dI a, dI b]) x.1 x.2) v_).map nz → u_ = v_ := by
  intro u_ v_ h
  obtain ⟨a, b⟩ := u_
  obtain ⟨a', b'⟩ := v_
  simp [nz_lit, nz1_lit, nz_agg, nz_sl, nz1_sl] at h
  first | (simp [h]; done) | (obtain ⟨⟩ := h; simp_all; done) | simp_all
@[simp] theorem c198_fn (a : Int) (b : Int) : c198.fn [.lit (.int .i64 a), .lit (.int .i64 b)] [] = some ((fun (a : Int) (b : Int) => True) a b, (fun (a : Int) (b : Int) => (dI (max a b) : D)) a b, (fun (a : Int) (b : Int) => []) a b) :=
  mkCon_fn (fun x y h _ => c198_inj x y h) ((a, b) : Int × Int) (by simp [nz, nz1, ML_nil]) rfl
theorem c198_pc (a : Int) (b : Int) : PCo Try.prog 198 [dI a, dI b] (Tab.of []) (dI (max a b)) (Tab.of []) := by
  refine pco_of_run [] (E := ⟨[c156, c223], [], []⟩) (m := false) (base := 0) (Env.ok_cons c156_ok (Env.ok_cons c223_ok Env.ok_nil)) G_ok mix 300 6 Try.func198 (by kernel_rfl) rfl (by kernel_rfl) (by kernel_rfl) rfl ?_
  simp [Try.f198]
  all_goals first | omega | (rw [Bool.eq_iff_iff]; simp; omega) | grind
theorem c198_ok : c198.ok Try.prog := mkCon_ok fun ⟨a, b⟩ hpre => c198_pc a b
def mIsSpan (s : TSpan) : Bool := decide (0 ≤ s.From) && decide (s.From ≤ s.Until) && decide (s.Until ≤ 100000)
/-- loop.example/g03007/impl.IsSpan -/
noncomputable def c83 : Con := mkCon 83 false (α := TSpan) (fun x => (fun (s : TSpan) => [encTSpan s]) x) (fun _ => []) (fun x => (fun (s : TSpan) => True) x) (fun x => (fun (s : TSpan) => (dB (mIsSpan s) : D)) x) (fun x => (fun (s : TSpan) => []) x)
@[simp] theorem c83_f : c83.f = 83 := rfl
@[simp] theorem c83_own : c83.own = false := rfl
theorem c83_inj : ∀ u_ v_ : TSpan, ((fun x => (fun (s : TSpan) => [encTSpan s]) x) u_).map nz = ((fun x => (fun (s : TSpan) => [encTSpan s]) x) v_).map nz → u_ = v_ := by
  intro u_ v_ h
  obtain ⟨s_From, s_Until⟩ := u_
  obtain ⟨s_From', s_Until'⟩ := v_
  simp [nz_lit, nz1_lit, nz_agg, nz_sl, nz1_sl, encTSpan] at h
  first | (simp [h]; done) | (obtain ⟨⟩ := h; simp_all; done) | simp_all
@[simp] theorem c83_fn (s_From : Int) (s_Until : Int) : c83.fn [.agg [.lit (.int .i64 s_From), .lit (.int .i64 s_Until)]] [] = some ((fun (s : TSpan) => True) ⟨s_From, s_Until⟩, (fun (s : TSpan) => (dB (mIsSpan s) : D)) ⟨s_From, s_Until⟩, (fun (s : TSpan) => []) ⟨s_From, s_Until⟩) :=
  mkCon_fn (fun x y h _ => c83_inj x y h) (⟨s_From, s_Until⟩ : TSpan) (by simp [nz, nz1, ML_nil, encTSpan]) rfl
theorem c83_pc (s : TSpan) : PCo Try.prog 83 [encTSpan s] (Tab.of []) (dB (mIsSpan s)) (Tab.of []) := by
  obtain ⟨s_From, s_Until⟩ := s
  refine pco_of_run [] (E := ⟨[], [], []⟩) (m := false) (base := 0) Env.ok_nil G_ok mix 300 6 Try.func83 (by kernel_rfl) rfl (by kernel_rfl) (by kernel_rfl) rfl ?_
  simp [Try.f83]
  simp [mIsSpan]
theorem c83_ok : c83.ok Try.prog := mkCon_ok fun s hpre => c83_pc s
def okS (ok : Bool) (s d : TSpan) : TSpan := if ok then s else d
@[simp] theorem okS_t (s d : TSpan) : okS true s d = s := rfl
@[simp] theorem okS_f (s d : TSpan) : okS false s d = d := rfl
@[simp] def rSpan (ok : Bool) (s d : TSpan) : D := .tup [encTSpan (okS ok s d), dB ok]
def mMeet (a b : TSpan) : TSpan := ⟨max a.From b.From, min a.Until b.Until⟩
def mHull (a b : TSpan) : TSpan := ⟨min a.From b.From, max a.Until b.Until⟩
def kMeet (a b : TSpan) : Bool := mIsSpan a && mIsSpan b && mIsSpan (mMeet a b)
def kHull (a b : TSpan) : Bool := mIsSpan a && mIsSpan b
def kWiden (s : TSpan) (n : Int) : Bool := mIsSpan s && mIn n 0 100000
def mWiden (s : TSpan) (n : Int) : TSpan := ⟨max (s.From - n) 0, min (s.Until + n) 100000⟩
theorem isSpan_of {s : TSpan} (h : mIsSpan s = true) : 0 ≤ s.From ∧ s.From ≤ s.Until ∧ s.Until ≤ 100000 := by
  simp [mIsSpan] at h; omega
theorem in_of {x y z : Int} (h : mIn x y z = true) : y ≤ x ∧ x ≤ z := by
  simp [mIn] at h; exact h
def mHolds (s : TSpan) (h : Int) : Bool := mIsSpan s && mIn h s.From s.Until
/-- loop.example/g03007/impl.Holds -/
noncomputable def c18 : Con := mkCon 18 false (α := TSpan × Int) (fun x => (fun (s : TSpan) (h : Int) => [encTSpan s, dI h]) x.1 x.2) (fun _ => []) (fun x => (fun (s : TSpan) (h : Int) => True) x.1 x.2) (fun x => (fun (s : TSpan) (h : Int) => (dB (mHolds s h) : D)) x.1 x.2) (fun x => (fun (s : TSpan) (h : Int) => []) x.1 x.2)
@[simp] theorem c18_f : c18.f = 18 := rfl
@[simp] theorem c18_own : c18.own = false := rfl
theorem c18_inj : ∀ u_ v_ : TSpan × Int, ((fun x => (fun (s : TSpan) (h : Int) => [encTSpan s, dI h]) x.1 x.2) u_).map nz = ((fun x => (fun (s : TSpan) (h : Int) => [encTSpan s, dI h]) x.1 x.2) v_).map nz → u_ = v_ := by
  intro u_ v_ h
  obtain ⟨⟨s_From, s_Until⟩, h⟩ := u_
  obtain ⟨⟨s_From', s_Until'⟩, h'⟩ := v_
  simp [nz_lit, nz1_lit, nz_agg, nz_sl, nz1_sl, encTSpan] at h
  first | (simp [h]; done) | (obtain ⟨⟩ := h; simp_all; done) | simp_all
@[simp] theorem c18_fn (s_From : Int) (s_Until : Int) (h : Int) : c18.fn [.agg [.lit (.int .i64 s_From), .lit (.int .i64 s_Until)], .lit (.int .i64 h)] [] = some ((fun (s : TSpan) (h : Int) => True) ⟨s_From, s_Until⟩ h, (fun (s : TSpan) (h : Int) => (dB (mHolds s h) : D)) ⟨s_From, s_Until⟩ h, (fun (s : TSpan) (h : Int) => []) ⟨s_From, s_Until⟩ h) :=
  mkCon_fn (fun x y h _ => c18_inj x y h) ((⟨s_From, s_Until⟩, h) : TSpan × Int) (by simp [nz, nz1, ML_nil, encTSpan]) rfl
theorem c18_pc (s : TSpan) (h : Int) : PCo Try.prog 18 [encTSpan s, dI h] (Tab.of []) (dB (mHolds s h)) (Tab.of []) := by
  obtain ⟨s_From, s_Until⟩ := s
  refine pco_of_run [] (E := ⟨[c83, c84], [], []⟩) (m := false) (base := 0) (Env.ok_cons c83_ok (Env.ok_cons c84_ok Env.ok_nil)) G_ok mix 300 6 Try.func18 (by kernel_rfl) rfl (by kernel_rfl) (by kernel_rfl) rfl ?_
  simp [Try.f18]
  simp [mHolds]
theorem c18_ok : c18.ok Try.prog := mkCon_ok fun ⟨s, h⟩ hpre => c18_pc s h
def mHours (s : TSpan) : Int := if mIsSpan s then s.Until - s.From + 1 else 0
def geN {α : Type} (num : α → Int) (n : Int) (x : α) : Bool := decide (n ≤ num x)
def putAt {α : Type} (num : α → Int) (n : Int) (l : List α) : Nat := if indexBy (geN num n) 0 l < 0 then l.length else (indexBy (geN num n) 0 l).toNat
def putRest {α : Type} [Inhabited α] (num : α → Int) (n : Int) (l : List α) : Nat := if putAt num n l < l.length ∧ num (l[putAt num n l]?.getD default) = n then putAt num n l + 1 else putAt num n l
def putBy {α : Type} [Inhabited α] (num : α → Int) (x : α) (l : List α) : List α := l.take (putAt num (num x) l) ++ x :: l.drop (putRest num (num x) l)
theorem putAt_le {α : Type} (num : α → Int) (n : Int) (l : List α) : putAt num n l ≤ l.length := by
  have := indexBy_bd (want := geN num n) l 0
  simp only [putAt]; split <;> omega
theorem putRest_le {α : Type} [Inhabited α] (num : α → Int) (n : Int) (l : List α) : putAt num n l ≤ putRest num n l ∧ putRest num n l ≤ l.length ∧ putRest num n l ≤ putAt num n l + 1 := by
  have := putAt_le num n l
  simp only [putRest]; split <;> omega
theorem putBy_len {α : Type} [Inhabited α] (num : α → Int) (x : α) (l : List α) : (putBy num x l).length ≤ l.length + 1 := by
  have h1 := putAt_le num (num x) l
  have h2 := putRest_le num (num x) l
  simp [putBy]; omega

end Go.Proofs.Ytpnfkjbnhholfaa
