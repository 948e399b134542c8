/- Contracts of the functions that the laws run. -/
import Derived.Test.YtlpobdjfdbfhaaaTS
import Derived.Test.YtlpobdjfdbfhaaaEngB
namespace Go.Proofs.Ytlpobdjfdbfhaaa
open Go Go.Eng
set_option linter.unusedSimpArgs false
set_option linter.unusedVariables false
set_option maxRecDepth 10000
set_option maxHeartbeats 1000000
def mIn (x y z : Int) : Bool := decide (y ≤ x) && decide (x ≤ z)
/-- loop.example/g03007/spec.l1In -/
noncomputable def c117 : Con := mkCon 117 false (α := Int × Int × Int) (fun x => (fun (x : Int) (y : Int) (z : Int) => [dI x, dI y, dI z]) x.1 x.2.1 x.2.2) (fun _ => []) (fun x => (fun (x : Int) (y : Int) (z : Int) => True) x.1 x.2.1 x.2.2) (fun x => (fun (x : Int) (y : Int) (z : Int) => (dB (mIn x y z) : D)) x.1 x.2.1 x.2.2) (fun x => (fun (x : Int) (y : Int) (z : Int) => []) x.1 x.2.1 x.2.2)
@[simp] theorem c117_f : c117.f = 117 := rfl
@[simp] theorem c117_own : c117.own = false := rfl
theorem c117_inj : ∀ u_ v_ : Int × Int × Int, ((fun x => (fun (x : Int) (y : Int) (z : Int) => [dI x, dI y, dI z]) x.1 x.2.1 x.2.2) u_).map nz = ((fun x => (fun (x : Int) (y : Int) (z : Int) => [dI x, dI y, dI z]) x.1 x.2.1 x.2.2) v_).map nz → u_ = v_ := by
  intro u_ v_ h
  obtain ⟨x, y, z⟩ := u_
  obtain ⟨x', y', z'⟩ := v_
  simp [nz_lit, nz1_lit, nz_agg, nz_sl, nz1_sl] at h
  first | (simp [h]; done) | (obtain ⟨⟩ := h; simp_all; done) | simp_all
@[simp] theorem c117_fn (x : Int) (y : Int) (z : Int) : c117.fn [.lit (.int .i64 x), .lit (.int .i64 y), .lit (.int .i64 z)] [] = some ((fun (x : Int) (y : Int) (z : Int) => True) x y z, (fun (x : Int) (y : Int) (z : Int) => (dB (mIn x y z) : D)) x y z, (fun (x : Int) (y : Int) (z : Int) => []) x y z) :=
  mkCon_fn (fun x y h _ => c117_inj x y h) ((x, y, z) : Int × Int × Int) (by simp [nz, nz1, ML_nil]) rfl
theorem c117_pc (x : Int) (y : Int) (z : Int) : PCo Try.prog 117 [dI x, dI y, dI z] (Tab.of []) (dB (mIn x y z)) (Tab.of []) := by
  refine pco_of_run [] (E := ⟨[], []⟩) (m := false) (base := 0) Env.ok_nil G_ok mix 300 6 Try.func117 (by kernel_rfl) rfl (by kernel_rfl) (by kernel_rfl) rfl ?_
  simp [Try.f117]
  simp [mIn]
theorem c117_ok : c117.ok Try.prog := mkCon_ok fun ⟨x, y, z⟩ hpre => c117_pc x y z
/-- loop.example/g03007/impl.InRange -/
noncomputable def c135 : Con := mkCon 135 false (α := Int × Int × Int) (fun x => (fun (x : Int) (y : Int) (z : Int) => [dI x, dI y, dI z]) x.1 x.2.1 x.2.2) (fun _ => []) (fun x => (fun (x : Int) (y : Int) (z : Int) => True) x.1 x.2.1 x.2.2) (fun x => (fun (x : Int) (y : Int) (z : Int) => (dB (mIn x y z) : D)) x.1 x.2.1 x.2.2) (fun x => (fun (x : Int) (y : Int) (z : Int) => []) x.1 x.2.1 x.2.2)
@[simp] theorem c135_f : c135.f = 135 := rfl
@[simp] theorem c135_own : c135.own = false := rfl
theorem c135_inj : ∀ u_ v_ : Int × Int × Int, ((fun x => (fun (x : Int) (y : Int) (z : Int) => [dI x, dI y, dI z]) x.1 x.2.1 x.2.2) u_).map nz = ((fun x => (fun (x : Int) (y : Int) (z : Int) => [dI x, dI y, dI z]) x.1 x.2.1 x.2.2) v_).map nz → u_ = v_ := by
  intro u_ v_ h
  obtain ⟨x, y, z⟩ := u_
  obtain ⟨x', y', z'⟩ := v_
  simp [nz_lit, nz1_lit, nz_agg, nz_sl, nz1_sl] at h
  first | (simp [h]; done) | (obtain ⟨⟩ := h; simp_all; done) | simp_all
@[simp] theorem c135_fn (x : Int) (y : Int) (z : Int) : c135.fn [.lit (.int .i64 x), .lit (.int .i64 y), .lit (.int .i64 z)] [] = some ((fun (x : Int) (y : Int) (z : Int) => True) x y z, (fun (x : Int) (y : Int) (z : Int) => (dB (mIn x y z) : D)) x y z, (fun (x : Int) (y : Int) (z : Int) => []) x y z) :=
  mkCon_fn (fun x y h _ => c135_inj x y h) ((x, y, z) : Int × Int × Int) (by simp [nz, nz1, ML_nil]) rfl
theorem c135_pc (x : Int) (y : Int) (z : Int) : PCo Try.prog 135 [dI x, dI y, dI z] (Tab.of []) (dB (mIn x y z)) (Tab.of []) := by
  refine pco_of_run [] (E := ⟨[], []⟩) (m := false) (base := 0) Env.ok_nil G_ok mix 300 6 Try.func135 (by kernel_rfl) rfl (by kernel_rfl) (by kernel_rfl) rfl ?_
  simp [Try.f135]
  simp [mIn]
theorem c135_ok : c135.ok Try.prog := mkCon_ok fun ⟨x, y, z⟩ hpre => c135_pc x y z
/-- loop.example/g03007/spec.Min -/
noncomputable def c157 : Con := mkCon 157 false (α := Int × Int) (fun x => (fun (a : Int) (b : Int) => [dI a, dI b]) x.1 x.2) (fun _ => []) (fun x => (fun (a : Int) (b : Int) => True) x.1 x.2) (fun x => (fun (a : Int) (b : Int) => (dI (min a b) : D)) x.1 x.2) (fun x => (fun (a : Int) (b : Int) => []) x.1 x.2)
@[simp] theorem c157_f : c157.f = 157 := rfl
@[simp] theorem c157_own : c157.own = false := rfl
theorem c157_inj : ∀ u_ v_ : Int × Int, ((fun x => (fun (a : Int) (b : Int) => [dI a, dI b]) x.1 x.2) u_).map nz = ((fun x => (fun (a : Int) (b : Int) => [dI a, dI b]) x.1 x.2) v_).map nz → u_ = v_ := by
  intro u_ v_ h
  obtain ⟨a, b⟩ := u_
  obtain ⟨a', b'⟩ := v_
  simp [nz_lit, nz1_lit, nz_agg, nz_sl, nz1_sl] at h
  first | (simp [h]; done) | (obtain ⟨⟩ := h; simp_all; done) | simp_all
@[simp] theorem c157_fn (a : Int) (b : Int) : c157.fn [.lit (.int .i64 a), .lit (.int .i64 b)] [] = some ((fun (a : Int) (b : Int) => True) a b, (fun (a : Int) (b : Int) => (dI (min a b) : D)) a b, (fun (a : Int) (b : Int) => []) a b) :=
  mkCon_fn (fun x y h _ => c157_inj x y h) ((a, b) : Int × Int) (by simp [nz, nz1, ML_nil]) rfl
theorem c157_pc (a : Int) (b : Int) : PCo Try.prog 157 [dI a, dI b] (Tab.of []) (dI (min a b)) (Tab.of []) := by
  refine pco_of_run [] (E := ⟨[], []⟩) (m := false) (base := 0) Env.ok_nil G_ok mix 300 6 Try.func157 (by kernel_rfl) rfl (by kernel_rfl) (by kernel_rfl) rfl ?_
  simp [Try.f157]
  all_goals first | omega | (rw [Bool.eq_iff_iff]; simp; omega) | grind
theorem c157_ok : c157.ok Try.prog := mkCon_ok fun ⟨a, b⟩ hpre => c157_pc a b
/-- loop.example/g03007/spec.Max -/
noncomputable def c156 : Con := mkCon 156 false (α := Int × Int) (fun x => (fun (a : Int) (b : Int) => [dI a, dI b]) x.1 x.2) (fun _ => []) (fun x => (fun (a : Int) (b : Int) => True) x.1 x.2) (fun x => (fun (a : Int) (b : Int) => (dI (max a b) : D)) x.1 x.2) (fun x => (fun (a : Int) (b : Int) => []) x.1 x.2)
@[simp] theorem c156_f : c156.f = 156 := rfl
@[simp] theorem c156_own : c156.own = false := rfl
theorem c156_inj : ∀ u_ v_ : Int × Int, ((fun x => (fun (a : Int) (b : Int) => [dI a, dI b]) x.1 x.2) u_).map nz = ((fun x => (fun (a : Int) (b : Int) => [dI a, dI b]) x.1 x.2) v_).map nz → u_ = v_ := by
  intro u_ v_ h
  obtain ⟨a, b⟩ := u_
  obtain ⟨a', b'⟩ := v_
  simp [nz_lit, nz1_lit, nz_agg, nz_sl, nz1_sl] at h
  first | (simp [h]; done) | (obtain ⟨⟩ := h; simp_all; done) | simp_all
@[simp] theorem c156_fn (a : Int) (b : Int) : c156.fn [.lit (.int .i64 a), .lit (.int .i64 b)] [] = some ((fun (a : Int) (b : Int) => True) a b, (fun (a : Int) (b : Int) => (dI (max a b) : D)) a b, (fun (a : Int) (b : Int) => []) a b) :=
  mkCon_fn (fun x y h _ => c156_inj x y h) ((a, b) : Int × Int) (by simp [nz, nz1, ML_nil]) rfl
theorem c156_pc (a : Int) (b : Int) : PCo Try.prog 156 [dI a, dI b] (Tab.of []) (dI (max a b)) (Tab.of []) := by
  refine pco_of_run [] (E := ⟨[], []⟩) (m := false) (base := 0) Env.ok_nil G_ok mix 300 6 Try.func156 (by kernel_rfl) rfl (by kernel_rfl) (by kernel_rfl) rfl ?_
  simp [Try.f156]
  all_goals first | omega | (rw [Bool.eq_iff_iff]; simp; omega) | grind
theorem c156_ok : c156.ok Try.prog := mkCon_ok fun ⟨a, b⟩ hpre => c156_pc a b
/-- cmp.isNaN[int] -/
noncomputable def c225 : Con := mkCon 225 false (α := Int) (fun x => (fun (a : Int) => [dI a]) x) (fun _ => []) (fun x => (fun (a : Int) => True) x) (fun x => (fun (a : Int) => (dB false : D)) x) (fun x => (fun (a : Int) => []) x)
@[simp] theorem c225_f : c225.f = 225 := rfl
@[simp] theorem c225_own : c225.own = false := rfl
theorem c225_inj : ∀ u_ v_ : Int, ((fun x => (fun (a : Int) => [dI a]) x) u_).map nz = ((fun x => (fun (a : Int) => [dI a]) x) v_).map nz → u_ = v_ := by
  intro u_ v_ h
  obtain a := u_
  obtain a' := v_
  simp [nz_lit, nz1_lit, nz_agg, nz_sl, nz1_sl] at h
  first | (simp [h]; done) | (obtain ⟨⟩ := h; simp_all; done) | simp_all
@[simp] theorem c225_fn (a : Int) : c225.fn [.lit (.int .i64 a)] [] = some ((fun (a : Int) => True) a, (fun (a : Int) => (dB false : D)) a, (fun (a : Int) => []) a) :=
  mkCon_fn (fun x y h _ => c225_inj x y h) (a : Int) (by simp [nz, nz1, ML_nil]) rfl
theorem c225_pc (a : Int) : PCo Try.prog 225 [dI a] (Tab.of []) (dB false) (Tab.of []) := by
  refine pco_of_run [] (E := ⟨[], []⟩) (m := false) (base := 0) Env.ok_nil G_ok mix 300 6 Try.func225 (by kernel_rfl) rfl (by kernel_rfl) (by kernel_rfl) rfl ?_
  simp [Try.f225]
  all_goals first | omega | (rw [Bool.eq_iff_iff]; simp; omega) | grind
theorem c225_ok : c225.ok Try.prog := mkCon_ok fun a hpre => c225_pc a
/-- cmp.Less[int] -/
noncomputable def c212 : Con := mkCon 212 false (α := Int × Int) (fun x => (fun (a : Int) (b : Int) => [dI a, dI b]) x.1 x.2) (fun _ => []) (fun x => (fun (a : Int) (b : Int) => True) x.1 x.2) (fun x => (fun (a : Int) (b : Int) => (dB (decide (a < b)) : D)) x.1 x.2) (fun x => (fun (a : Int) (b : Int) => []) x.1 x.2)
@[simp] theorem c212_f : c212.f = 212 := rfl
@[simp] theorem c212_own : c212.own = false := rfl
theorem c212_inj : ∀ u_ v_ : Int × Int, ((fun x => (fun (a : Int) (b : Int) => [dI a, dI b]) x.1 x.2) u_).map nz = ((fun x => (fun (a : Int) (b : Int) => [dI a, dI b]) x.1 x.2) v_).map nz → u_ = v_ := by
  intro u_ v_ h
  obtain ⟨a, b⟩ := u_
  obtain ⟨a', b'⟩ := v_
  simp [nz_lit, nz1_lit, nz_agg, nz_sl, nz1_sl] at h
  first | (simp [h]; done) | (obtain ⟨⟩ := h; simp_all; done) | simp_all
@[simp] theorem c212_fn (a : Int) (b : Int) : c212.fn [.lit (.int .i64 a), .lit (.int .i64 b)] [] = some ((fun (a : Int) (b : Int) => True) a b, (fun (a : Int) (b : Int) => (dB (decide (a < b)) : D)) a b, (fun (a : Int) (b : Int) => []) a b) :=
  mkCon_fn (fun x y h _ => c212_inj x y h) ((a, b) : Int × Int) (by simp [nz, nz1, ML_nil]) rfl
theorem c212_pc (a : Int) (b : Int) : PCo Try.prog 212 [dI a, dI b] (Tab.of []) (dB (decide (a < b))) (Tab.of []) := by
  refine pco_of_run [] (E := ⟨[c225], []⟩) (m := false) (base := 0) (Env.ok_cons c225_ok Env.ok_nil) G_ok mix 300 6 Try.func212 (by kernel_rfl) rfl (by kernel_rfl) (by kernel_rfl) rfl ?_
  simp [Try.f212]
  all_goals first | omega | (rw [Bool.eq_iff_iff]; simp; omega) | grind
theorem c212_ok : c212.ok Try.prog := mkCon_ok fun ⟨a, b⟩ hpre => c212_pc a b
/-- loop.example/g03007/impl.isGreater -/
noncomputable def c211 : Con := mkCon 211 false (α := Int × Int) (fun x => (fun (a : Int) (b : Int) => [dI a, dI b]) x.1 x.2) (fun _ => []) (fun x => (fun (a : Int) (b : Int) => True) x.1 x.2) (fun x => (fun (a : Int) (b : Int) => (dB (decide (b < a)) : D)) x.1 x.2) (fun x => (fun (a : Int) (b : Int) => []) x.1 x.2)
@[simp] theorem c211_f : c211.f = 211 := rfl
@[simp] theorem c211_own : c211.own = false := rfl
theorem c211_inj : ∀ u_ v_ : Int × Int, ((fun x => (fun (a : Int) (b : Int) => [dI a, dI b]) x.1 x.2) u_).map nz = ((fun x => (fun (a : Int) (b : Int) => [dI a, dI b]) x.1 x.2) v_).map nz → u_ = v_ := by
  intro u_ v_ h
  obtain ⟨a, b⟩ := u_
  obtain ⟨a', b'⟩ := v_
  simp [nz_lit, nz1_lit, nz_agg, nz_sl, nz1_sl] at h
  first | (simp [h]; done) | (obtain ⟨⟩ := h; simp_all; done) | simp_all
@[simp] theorem c211_fn (a : Int) (b : Int) : c211.fn [.lit (.int .i64 a), .lit (.int .i64 b)] [] = some ((fun (a : Int) (b : Int) => True) a b, (fun (a : Int) (b : Int) => (dB (decide (b < a)) : D)) a b, (fun (a : Int) (b : Int) => []) a b) :=
  mkCon_fn (fun x y h _ => c211_inj x y h) ((a, b) : Int × Int) (by simp [nz, nz1, ML_nil]) rfl
theorem c211_pc (a : Int) (b : Int) : PCo Try.prog 211 [dI a, dI b] (Tab.of []) (dB (decide (b < a))) (Tab.of []) := by
  refine pco_of_run [] (E := ⟨[], []⟩) (m := false) (base := 0) Env.ok_nil G_ok mix 300 6 Try.func211 (by kernel_rfl) rfl (by kernel_rfl) (by kernel_rfl) rfl ?_
  simp [Try.f211]
  all_goals first | omega | (rw [Bool.eq_iff_iff]; simp; omega) | grind
theorem c211_ok : c211.ok Try.prog := mkCon_ok fun ⟨a, b⟩ hpre => c211_pc a b
/-- loop.example/g03007/impl.firstInOrder -/
noncomputable def c210 : Con := mkCon 210 false (α := FuncId × Int × Int) (fun x => (fun (g : FuncId) (a : Int) (b : Int) => ([.fn (.func g) [] [], dI a, .sl false 1 (dI 0) [dI b]] : List D)) x.1 x.2.1 x.2.2) (fun x => (fun (g : FuncId) (a : Int) (b : Int) => ([] : List (Nm × OO))) x.1 x.2.1 x.2.2) (fun x => (fun (g : FuncId) (a : Int) (b : Int) => g = 212 ∨ g = 211) x.1 x.2.1 x.2.2) (fun x => (fun (g : FuncId) (a : Int) (b : Int) => (dI (if g = 212 then min a b else max a b) : D)) x.1 x.2.1 x.2.2) (fun x => (fun (g : FuncId) (a : Int) (b : Int) => ([] : List (Nm × OO))) x.1 x.2.1 x.2.2)
@[simp] theorem c210_f : c210.f = 210 := rfl
@[simp] theorem c210_own : c210.own = false := rfl
theorem c210_inj : ∀ u_ v_ : FuncId × Int × Int, ((fun x => (fun (g : FuncId) (a : Int) (b : Int) => ([.fn (.func g) [] [], dI a, .sl false 1 (dI 0) [dI b]] : List D)) x.1 x.2.1 x.2.2) u_).map nz = ((fun x => (fun (g : FuncId) (a : Int) (b : Int) => ([.fn (.func g) [] [], dI a, .sl false 1 (dI 0) [dI b]] : List D)) x.1 x.2.1 x.2.2) v_).map nz → (fun x => (fun (g : FuncId) (a : Int) (b : Int) => ([] : List (Nm × OO))) x.1 x.2.1 x.2.2) u_ = (fun x => (fun (g : FuncId) (a : Int) (b : Int) => ([] : List (Nm × OO))) x.1 x.2.1 x.2.2) v_ → u_ = v_ := by
  intro u_ v_ h h2_
  obtain ⟨g, a, b⟩ := u_
  obtain ⟨g', a', b'⟩ := v_
  simp [nz_lit, nz1_lit, nz_agg, nz_sl, nz1_sl, nz_sx, nz_el, nz1_el, nz_own, nz1_own, nz_ptr, nz_fn, nz_iface] at h h2_
  first | (simp [h, h2_]; done) | simp_all | grind
@[simp] theorem c210_fn (g : FuncId) (a : Int) (b : Int) : c210.fn ([.fn (.func g) [] [], dI a, .sl false 1 (dI 0) [dI b]]) ([]) = some (g = 212 ∨ g = 211, dI (if g = 212 then min a b else max a b), []) :=
  mkCon_fn c210_inj ((g, a, b) : FuncId × Int × Int) rfl rfl
theorem c210_pc (g : FuncId) (a : Int) (b : Int) (hpre : g = 212 ∨ g = 211) : PCo Try.prog 210 ([.fn (.func g) [] [], dI a, .sl false 1 (dI 0) [dI b]]) (Tab.of ([])) (dI (if g = 212 then min a b else max a b)) (Tab.of ([])) := by
  refine pco_of_run [] (E := ⟨[c212, c211], []⟩) (m := false) (base := 0) (Env.ok_cons c212_ok (Env.ok_cons c211_ok Env.ok_nil)) G_ok mix 300 6 Try.func210 (by kernel_rfl) rfl (by kernel_rfl) (by kernel_rfl) rfl ?_
  rcases hpre with rfl | rfl
  · simp [Try.f210]
    refine loop_unroll 100 ?_
    simp
    omega
  · simp [Try.f210]
    refine loop_unroll 100 ?_
    simp
    omega
theorem c210_ok : c210.ok Try.prog := mkCon_ok fun ⟨g, a, b⟩ hpre => c210_pc g a b hpre
/-- loop.example/g03007/impl.Min -/
noncomputable def c163 : Con := mkCon 163 false (α := Int × Int) (fun x => (fun (a : Int) (b : Int) => [dI a, dI b]) x.1 x.2) (fun _ => []) (fun x => (fun (a : Int) (b : Int) => True) x.1 x.2) (fun x => (fun (a : Int) (b : Int) => (dI (min a b) : D)) x.1 x.2) (fun x => (fun (a : Int) (b : Int) => []) x.1 x.2)
@[simp] theorem c163_f : c163.f = 163 := rfl
@[simp] theorem c163_own : c163.own = false := rfl
theorem c163_inj : ∀ u_ v_ : Int × Int, ((fun x => (fun (a : Int) (b : Int) => [dI a, dI b]) x.1 x.2) u_).map nz = ((fun x => (fun (a : Int) (b : Int) => [dI a, dI b]) x.1 x.2) v_).map nz → u_ = v_ := by
  intro u_ v_ h
  obtain ⟨a, b⟩ := u_
  obtain ⟨a', b'⟩ := v_
  simp [nz_lit, nz1_lit, nz_agg, nz_sl, nz1_sl] at h
  first | (simp [h]; done) | (obtain ⟨⟩ := h; simp_all; done) | simp_all
@[simp] theorem c163_fn (a : Int) (b : Int) : c163.fn [.lit (.int .i64 a), .lit (.int .i64 b)] [] = some ((fun (a : Int) (b : Int) => True) a b, (fun (a : Int) (b : Int) => (dI (min a b) : D)) a b, (fun (a : Int) (b : Int) => []) a b) :=
  mkCon_fn (fun x y h _ => c163_inj x y h) ((a, b) : Int × Int) (by simp [nz, nz1, ML_nil]) rfl
theorem c163_pc (a : Int) (b : Int) : PCo Try.prog 163 [dI a, dI b] (Tab.of []) (dI (min a b)) (Tab.of []) := by
  refine pco_of_run [] (E := ⟨[c210, c212], []⟩) (m := false) (base := 0) (Env.ok_cons c210_ok (Env.ok_cons c212_ok Env.ok_nil)) G_ok mix 300 6 Try.func163 (by kernel_rfl) rfl (by kernel_rfl) (by kernel_rfl) rfl ?_
  simp [Try.f163]
  all_goals first | omega | (rw [Bool.eq_iff_iff]; simp; omega) | grind
theorem c163_ok : c163.ok Try.prog := mkCon_ok fun ⟨a, b⟩ hpre => c163_pc a b
/-- loop.example/g03007/impl.Max -/
noncomputable def c162 : Con := mkCon 162 false (α := Int × Int) (fun x => (fun (a : Int) (b : Int) => [dI a, dI b]) x.1 x.2) (fun _ => []) (fun x => (fun (a : Int) (b : Int) => True) x.1 x.2) (fun x => (fun (a : Int) (b : Int) => (dI (max a b) : D)) x.1 x.2) (fun x => (fun (a : Int) (b : Int) => []) x.1 x.2)
@[simp] theorem c162_f : c162.f = 162 := rfl
@[simp] theorem c162_own : c162.own = false := rfl
theorem c162_inj : ∀ u_ v_ : Int × Int, ((fun x => (fun (a : Int) (b : Int) => [dI a, dI b]) x.1 x.2) u_).map nz = ((fun x => (fun (a : Int) (b : Int) => [dI a, dI b]) x.1 x.2) v_).map nz → u_ = v_ := by
  intro u_ v_ h
  obtain ⟨a, b⟩ := u_
  obtain ⟨a', b'⟩ := v_
  simp [nz_lit, nz1_lit, nz_agg, nz_sl, nz1_sl] at h
  first | (simp [h]; done) | (obtain ⟨⟩ := h; simp_all; done) | simp_all
@[simp] theorem c162_fn (a : Int) (b : Int) : c162.fn [.lit (.int .i64 a), .lit (.int .i64 b)] [] = some ((fun (a : Int) (b : Int) => True) a b, (fun (a : Int) (b : Int) => (dI (max a b) : D)) a b, (fun (a : Int) (b : Int) => []) a b) :=
  mkCon_fn (fun x y h _ => c162_inj x y h) ((a, b) : Int × Int) (by simp [nz, nz1, ML_nil]) rfl
theorem c162_pc (a : Int) (b : Int) : PCo Try.prog 162 [dI a, dI b] (Tab.of []) (dI (max a b)) (Tab.of []) := by
  refine pco_of_run [] (E := ⟨[c210, c211], []⟩) (m := false) (base := 0) (Env.ok_cons c210_ok (Env.ok_cons c211_ok Env.ok_nil)) G_ok mix 300 6 Try.func162 (by kernel_rfl) rfl (by kernel_rfl) (by kernel_rfl) rfl ?_
  simp [Try.f162]
  all_goals first | omega | (rw [Bool.eq_iff_iff]; simp; omega) | grind
theorem c162_ok : c162.ok Try.prog := mkCon_ok fun ⟨a, b⟩ hpre => c162_pc a b
/-- loop.example/g03007/laws.toSpan -/
noncomputable def c51 : Con := mkCon 51 false (α := TSpan) (fun x => (fun (s : TSpan) => [encTSpan s]) x) (fun _ => []) (fun x => (fun (s : TSpan) => True) x) (fun x => (fun (s : TSpan) => (encTSpan s : D)) x) (fun x => (fun (s : TSpan) => []) x)
@[simp] theorem c51_f : c51.f = 51 := rfl
@[simp] theorem c51_own : c51.own = false := rfl
theorem c51_inj : ∀ u_ v_ : TSpan, ((fun x => (fun (s : TSpan) => [encTSpan s]) x) u_).map nz = ((fun x => (fun (s : TSpan) => [encTSpan s]) x) v_).map nz → u_ = v_ := by
  intro u_ v_ h
  obtain ⟨s_From, s_Until⟩ := u_
  obtain ⟨s_From', s_Until'⟩ := v_
  simp [nz_lit, nz1_lit, nz_agg, nz_sl, nz1_sl, encTSpan] at h
  first | (simp [h]; done) | (obtain ⟨⟩ := h; simp_all; done) | simp_all
@[simp] theorem c51_fn (s_From : Int) (s_Until : Int) : c51.fn [.agg [.lit (.int .i64 s_From), .lit (.int .i64 s_Until)]] [] = some ((fun (s : TSpan) => True) ⟨s_From, s_Until⟩, (fun (s : TSpan) => (encTSpan s : D)) ⟨s_From, s_Until⟩, (fun (s : TSpan) => []) ⟨s_From, s_Until⟩) :=
  mkCon_fn (fun x y h _ => c51_inj x y h) (⟨s_From, s_Until⟩ : TSpan) (by simp [nz, nz1, ML_nil, encTSpan]) rfl
theorem c51_pc (s : TSpan) : PCo Try.prog 51 [encTSpan s] (Tab.of []) (encTSpan s) (Tab.of []) := by
  obtain ⟨s_From, s_Until⟩ := s
  refine pco_of_run [] (E := ⟨[], []⟩) (m := false) (base := 0) Env.ok_nil G_ok mix 300 6 Try.func51 (by kernel_rfl) rfl (by kernel_rfl) (by kernel_rfl) rfl ?_
  simp [Try.f51]
  all_goals first | omega | (rw [Bool.eq_iff_iff]; simp; omega) | grind
theorem c51_ok : c51.ok Try.prog := mkCon_ok fun s hpre => c51_pc s
/-- loop.example/g03007/laws.eqSpan -/
noncomputable def c138 : Con := mkCon 138 false (α := TSpan × TSpan) (fun x => (fun (a : TSpan) (b : TSpan) => [encTSpan a, encTSpan b]) x.1 x.2) (fun _ => []) (fun x => (fun (a : TSpan) (b : TSpan) => True) x.1 x.2) (fun x => (fun (a : TSpan) (b : TSpan) => (dB (decide (a = b)) : D)) x.1 x.2) (fun x => (fun (a : TSpan) (b : TSpan) => []) x.1 x.2)
@[simp] theorem c138_f : c138.f = 138 := rfl
@[simp] theorem c138_own : c138.own = false := rfl
theorem c138_inj : ∀ u_ v_ : TSpan × TSpan, ((fun x => (fun (a : TSpan) (b : TSpan) => [encTSpan a, encTSpan b]) x.1 x.2) u_).map nz = ((fun x => (fun (a : TSpan) (b : TSpan) => [encTSpan a, encTSpan b]) x.1 x.2) v_).map nz → u_ = v_ := by
  intro u_ v_ h
  obtain ⟨⟨a_From, a_Until⟩, ⟨b_From, b_Until⟩⟩ := u_
  obtain ⟨⟨a_From', a_Until'⟩, ⟨b_From', b_Until'⟩⟩ := v_
  simp [nz_lit, nz1_lit, nz_agg, nz_sl, nz1_sl, encTSpan] at h
  first | (simp [h]; done) | (obtain ⟨⟩ := h; simp_all; done) | simp_all
@[simp] theorem c138_fn (a_From : Int) (a_Until : Int) (b_From : Int) (b_Until : Int) : c138.fn [.agg [.lit (.int .i64 a_From), .lit (.int .i64 a_Until)], .agg [.lit (.int .i64 b_From), .lit (.int .i64 b_Until)]] [] = some ((fun (a : TSpan) (b : TSpan) => True) ⟨a_From, a_Until⟩ ⟨b_From, b_Until⟩, (fun (a : TSpan) (b : TSpan) => (dB (decide (a = b)) : D)) ⟨a_From, a_Until⟩ ⟨b_From, b_Until⟩, (fun (a : TSpan) (b : TSpan) => []) ⟨a_From, a_Until⟩ ⟨b_From, b_Until⟩) :=
  mkCon_fn (fun x y h _ => c138_inj x y h) ((⟨a_From, a_Until⟩, ⟨b_From, b_Until⟩) : TSpan × TSpan) (by simp [nz, nz1, ML_nil, encTSpan]) rfl
theorem c138_pc (a : TSpan) (b : TSpan) : PCo Try.prog 138 [encTSpan a, encTSpan b] (Tab.of []) (dB (decide (a = b))) (Tab.of []) := by
  obtain ⟨a_From, a_Until⟩ := a
  obtain ⟨b_From, b_Until⟩ := b
  refine pco_of_run [] (E := ⟨[], []⟩) (m := false) (base := 0) Env.ok_nil G_ok mix 300 6 Try.func138 (by kernel_rfl) rfl (by kernel_rfl) (by kernel_rfl) rfl ?_
  simp [Try.f138]
  all_goals first | omega | (rw [Bool.eq_iff_iff]; simp; omega) | grind
theorem c138_ok : c138.ok Try.prog := mkCon_ok fun ⟨a, b⟩ hpre => c138_pc a b
def mIsSpan (s : TSpan) : Bool := decide (0 ≤ s.From) && decide (s.From ≤ s.Until) && decide (s.Until ≤ 100000)
/-- loop.example/g03007/spec.IsSpan -/
noncomputable def c133 : Con := mkCon 133 false (α := TSpan) (fun x => (fun (s : TSpan) => [encTSpan s]) x) (fun _ => []) (fun x => (fun (s : TSpan) => True) x) (fun x => (fun (s : TSpan) => (dB (mIsSpan s) : D)) x) (fun x => (fun (s : TSpan) => []) x)
@[simp] theorem c133_f : c133.f = 133 := rfl
@[simp] theorem c133_own : c133.own = false := rfl
theorem c133_inj : ∀ u_ v_ : TSpan, ((fun x => (fun (s : TSpan) => [encTSpan s]) x) u_).map nz = ((fun x => (fun (s : TSpan) => [encTSpan s]) x) v_).map nz → u_ = v_ := by
  intro u_ v_ h
  obtain ⟨s_From, s_Until⟩ := u_
  obtain ⟨s_From', s_Until'⟩ := v_
  simp [nz_lit, nz1_lit, nz_agg, nz_sl, nz1_sl, encTSpan] at h
  first | (simp [h]; done) | (obtain ⟨⟩ := h; simp_all; done) | simp_all
@[simp] theorem c133_fn (s_From : Int) (s_Until : Int) : c133.fn [.agg [.lit (.int .i64 s_From), .lit (.int .i64 s_Until)]] [] = some ((fun (s : TSpan) => True) ⟨s_From, s_Until⟩, (fun (s : TSpan) => (dB (mIsSpan s) : D)) ⟨s_From, s_Until⟩, (fun (s : TSpan) => []) ⟨s_From, s_Until⟩) :=
  mkCon_fn (fun x y h _ => c133_inj x y h) (⟨s_From, s_Until⟩ : TSpan) (by simp [nz, nz1, ML_nil, encTSpan]) rfl
theorem c133_pc (s : TSpan) : PCo Try.prog 133 [encTSpan s] (Tab.of []) (dB (mIsSpan s)) (Tab.of []) := by
  obtain ⟨s_From, s_Until⟩ := s
  refine pco_of_run [] (E := ⟨[c117], []⟩) (m := false) (base := 0) (Env.ok_cons c117_ok Env.ok_nil) G_ok mix 300 6 Try.func133 (by kernel_rfl) rfl (by kernel_rfl) (by kernel_rfl) rfl ?_
  simp [Try.f133]
  rw [Bool.eq_iff_iff]; simp [mIsSpan, mIn]; omega
theorem c133_ok : c133.ok Try.prog := mkCon_ok fun s hpre => c133_pc s
/-- loop.example/g03007/impl.IsSpan -/
noncomputable def c137 : Con := mkCon 137 false (α := TSpan) (fun x => (fun (s : TSpan) => [encTSpan s]) x) (fun _ => []) (fun x => (fun (s : TSpan) => True) x) (fun x => (fun (s : TSpan) => (dB (mIsSpan s) : D)) x) (fun x => (fun (s : TSpan) => []) x)
@[simp] theorem c137_f : c137.f = 137 := rfl
@[simp] theorem c137_own : c137.own = false := rfl
theorem c137_inj : ∀ u_ v_ : TSpan, ((fun x => (fun (s : TSpan) => [encTSpan s]) x) u_).map nz = ((fun x => (fun (s : TSpan) => [encTSpan s]) x) v_).map nz → u_ = v_ := by
  intro u_ v_ h
  obtain ⟨s_From, s_Until⟩ := u_
  obtain ⟨s_From', s_Until'⟩ := v_
  simp [nz_lit, nz1_lit, nz_agg, nz_sl, nz1_sl, encTSpan] at h
  first | (simp [h]; done) | (obtain ⟨⟩ := h; simp_all; done) | simp_all
@[simp] theorem c137_fn (s_From : Int) (s_Until : Int) : c137.fn [.agg [.lit (.int .i64 s_From), .lit (.int .i64 s_Until)]] [] = some ((fun (s : TSpan) => True) ⟨s_From, s_Until⟩, (fun (s : TSpan) => (dB (mIsSpan s) : D)) ⟨s_From, s_Until⟩, (fun (s : TSpan) => []) ⟨s_From, s_Until⟩) :=
  mkCon_fn (fun x y h _ => c137_inj x y h) (⟨s_From, s_Until⟩ : TSpan) (by simp [nz, nz1, ML_nil, encTSpan]) rfl
theorem c137_pc (s : TSpan) : PCo Try.prog 137 [encTSpan s] (Tab.of []) (dB (mIsSpan s)) (Tab.of []) := by
  obtain ⟨s_From, s_Until⟩ := s
  refine pco_of_run [] (E := ⟨[], []⟩) (m := false) (base := 0) Env.ok_nil G_ok mix 300 6 Try.func137 (by kernel_rfl) rfl (by kernel_rfl) (by kernel_rfl) rfl ?_
  simp [Try.f137]
  simp [mIsSpan]
theorem c137_ok : c137.ok Try.prog := mkCon_ok fun s hpre => c137_pc s
def okS (ok : Bool) (s d : TSpan) : TSpan := if ok then s else d
@[simp] theorem okS_t (s d : TSpan) : okS true s d = s := rfl
@[simp] theorem okS_f (s d : TSpan) : okS false s d = d := rfl
@[simp] def rSpan (ok : Bool) (s d : TSpan) : D := .tup [encTSpan (okS ok s d), dB ok]
def mMeet (a b : TSpan) : TSpan := ⟨max a.From b.From, min a.Until b.Until⟩
def mHull (a b : TSpan) : TSpan := ⟨min a.From b.From, max a.Until b.Until⟩
def kMeet (a b : TSpan) : Bool := mIsSpan a && mIsSpan b && mIsSpan (mMeet a b)
/-- loop.example/g03007/spec.Meet -/
noncomputable def c176 : Con := mkCon 176 false (α := TSpan × TSpan) (fun x => (fun (a : TSpan) (b : TSpan) => [encTSpan a, encTSpan b]) x.1 x.2) (fun _ => []) (fun x => (fun (a : TSpan) (b : TSpan) => True) x.1 x.2) (fun x => (fun (a : TSpan) (b : TSpan) => (rSpan (kMeet a b) (mMeet a b) ⟨0, 0⟩ : D)) x.1 x.2) (fun x => (fun (a : TSpan) (b : TSpan) => []) x.1 x.2)
@[simp] theorem c176_f : c176.f = 176 := rfl
@[simp] theorem c176_own : c176.own = false := rfl
theorem c176_inj : ∀ u_ v_ : TSpan × TSpan, ((fun x => (fun (a : TSpan) (b : TSpan) => [encTSpan a, encTSpan b]) x.1 x.2) u_).map nz = ((fun x => (fun (a : TSpan) (b : TSpan) => [encTSpan a, encTSpan b]) x.1 x.2) v_).map nz → u_ = v_ := by
  intro u_ v_ h
  obtain ⟨⟨a_From, a_Until⟩, ⟨b_From, b_Until⟩⟩ := u_
  obtain ⟨⟨a_From', a_Until'⟩, ⟨b_From', b_Until'⟩⟩ := v_
  simp [nz_lit, nz1_lit, nz_agg, nz_sl, nz1_sl, encTSpan] at h
  first | (simp [h]; done) | (obtain ⟨⟩ := h; simp_all; done) | simp_all
@[simp] theorem c176_fn (a_From : Int) (a_Until : Int) (b_From : Int) (b_Until : Int) : c176.fn [.agg [.lit (.int .i64 a_From), .lit (.int .i64 a_Until)], .agg [.lit (.int .i64 b_From), .lit (.int .i64 b_Until)]] [] = some ((fun (a : TSpan) (b : TSpan) => True) ⟨a_From, a_Until⟩ ⟨b_From, b_Until⟩, (fun (a : TSpan) (b : TSpan) => (rSpan (kMeet a b) (mMeet a b) ⟨0, 0⟩ : D)) ⟨a_From, a_Until⟩ ⟨b_From, b_Until⟩, (fun (a : TSpan) (b : TSpan) => []) ⟨a_From, a_Until⟩ ⟨b_From, b_Until⟩) :=
  mkCon_fn (fun x y h _ => c176_inj x y h) ((⟨a_From, a_Until⟩, ⟨b_From, b_Until⟩) : TSpan × TSpan) (by simp [nz, nz1, ML_nil, encTSpan]) rfl
theorem c176_pc (a : TSpan) (b : TSpan) : PCo Try.prog 176 [encTSpan a, encTSpan b] (Tab.of []) (rSpan (kMeet a b) (mMeet a b) ⟨0, 0⟩) (Tab.of []) := by
  obtain ⟨a_From, a_Until⟩ := a
  obtain ⟨b_From, b_Until⟩ := b
  refine pco_of_run [1] (E := ⟨[c133, c156, c157], []⟩) (m := false) (base := 0) (Env.ok_cons c133_ok (Env.ok_cons c156_ok (Env.ok_cons c157_ok Env.ok_nil))) G_ok mix 300 6 Try.func176 (by kernel_rfl) rfl (by kernel_rfl) (by kernel_rfl) rfl ?_
  simp [Try.f176]
  refine ⟨fun h => ?_, fun h1 h2 h3 => ?_⟩
  · have : kMeet ⟨a_From, a_Until⟩ ⟨b_From, b_Until⟩ = false := by simp [kMeet, mMeet]; grind
    simp [this]
  · have : kMeet ⟨a_From, a_Until⟩ ⟨b_From, b_Until⟩ = true := by simp [kMeet, mMeet, *]
    simp [this, mMeet]
theorem c176_ok : c176.ok Try.prog := mkCon_ok fun ⟨a, b⟩ hpre => c176_pc a b
def kHull (a b : TSpan) : Bool := mIsSpan a && mIsSpan b
def kWiden (s : TSpan) (n : Int) : Bool := mIsSpan s && mIn n 0 100000
def mWiden (s : TSpan) (n : Int) : TSpan := ⟨max (s.From - n) 0, min (s.Until + n) 100000⟩
theorem isSpan_of {s : TSpan} (h : mIsSpan s = true) : 0 ≤ s.From ∧ s.From ≤ s.Until ∧ s.Until ≤ 100000 := by
  simp [mIsSpan] at h; omega
theorem in_of {x y z : Int} (h : mIn x y z = true) : y ≤ x ∧ x ≤ z := by
  simp [mIn] at h; exact h
def mHolds (s : TSpan) (h : Int) : Bool := mIsSpan s && mIn h s.From s.Until
/-- loop.example/g03007/spec.Holds -/
noncomputable def c128 : Con := mkCon 128 false (α := TSpan × Int) (fun x => (fun (s : TSpan) (h : Int) => [encTSpan s, dI h]) x.1 x.2) (fun _ => []) (fun x => (fun (s : TSpan) (h : Int) => True) x.1 x.2) (fun x => (fun (s : TSpan) (h : Int) => (dB (mHolds s h) : D)) x.1 x.2) (fun x => (fun (s : TSpan) (h : Int) => []) x.1 x.2)
@[simp] theorem c128_f : c128.f = 128 := rfl
@[simp] theorem c128_own : c128.own = false := rfl
theorem c128_inj : ∀ u_ v_ : TSpan × Int, ((fun x => (fun (s : TSpan) (h : Int) => [encTSpan s, dI h]) x.1 x.2) u_).map nz = ((fun x => (fun (s : TSpan) (h : Int) => [encTSpan s, dI h]) x.1 x.2) v_).map nz → u_ = v_ := by
  intro u_ v_ h
  obtain ⟨⟨s_From, s_Until⟩, h⟩ := u_
  obtain ⟨⟨s_From', s_Until'⟩, h'⟩ := v_
  simp [nz_lit, nz1_lit, nz_agg, nz_sl, nz1_sl, encTSpan] at h
  first | (simp [h]; done) | (obtain ⟨⟩ := h; simp_all; done) | simp_all
@[simp] theorem c128_fn (s_From : Int) (s_Until : Int) (h : Int) : c128.fn [.agg [.lit (.int .i64 s_From), .lit (.int .i64 s_Until)], .lit (.int .i64 h)] [] = some ((fun (s : TSpan) (h : Int) => True) ⟨s_From, s_Until⟩ h, (fun (s : TSpan) (h : Int) => (dB (mHolds s h) : D)) ⟨s_From, s_Until⟩ h, (fun (s : TSpan) (h : Int) => []) ⟨s_From, s_Until⟩ h) :=
  mkCon_fn (fun x y h _ => c128_inj x y h) ((⟨s_From, s_Until⟩, h) : TSpan × Int) (by simp [nz, nz1, ML_nil, encTSpan]) rfl
theorem c128_pc (s : TSpan) (h : Int) : PCo Try.prog 128 [encTSpan s, dI h] (Tab.of []) (dB (mHolds s h)) (Tab.of []) := by
  obtain ⟨s_From, s_Until⟩ := s
  refine pco_of_run [] (E := ⟨[c117, c133], []⟩) (m := false) (base := 0) (Env.ok_cons c117_ok (Env.ok_cons c133_ok Env.ok_nil)) G_ok mix 300 6 Try.func128 (by kernel_rfl) rfl (by kernel_rfl) (by kernel_rfl) rfl ?_
  simp [Try.f128]
  simp [mHolds]
theorem c128_ok : c128.ok Try.prog := mkCon_ok fun ⟨s, h⟩ hpre => c128_pc s h
/-- loop.example/g03007/impl.Holds -/
noncomputable def c130 : Con := mkCon 130 false (α := TSpan × Int) (fun x => (fun (s : TSpan) (h : Int) => [encTSpan s, dI h]) x.1 x.2) (fun _ => []) (fun x => (fun (s : TSpan) (h : Int) => True) x.1 x.2) (fun x => (fun (s : TSpan) (h : Int) => (dB (mHolds s h) : D)) x.1 x.2) (fun x => (fun (s : TSpan) (h : Int) => []) x.1 x.2)
@[simp] theorem c130_f : c130.f = 130 := rfl
@[simp] theorem c130_own : c130.own = false := rfl
theorem c130_inj : ∀ u_ v_ : TSpan × Int, ((fun x => (fun (s : TSpan) (h : Int) => [encTSpan s, dI h]) x.1 x.2) u_).map nz = ((fun x => (fun (s : TSpan) (h : Int) => [encTSpan s, dI h]) x.1 x.2) v_).map nz → u_ = v_ := by
  intro u_ v_ h
  obtain ⟨⟨s_From, s_Until⟩, h⟩ := u_
  obtain ⟨⟨s_From', s_Until'⟩, h'⟩ := v_
  simp [nz_lit, nz1_lit, nz_agg, nz_sl, nz1_sl, encTSpan] at h
  first | (simp [h]; done) | (obtain ⟨⟩ := h; simp_all; done) | simp_all
@[simp] theorem c130_fn (s_From : Int) (s_Until : Int) (h : Int) : c130.fn [.agg [.lit (.int .i64 s_From), .lit (.int .i64 s_Until)], .lit (.int .i64 h)] [] = some ((fun (s : TSpan) (h : Int) => True) ⟨s_From, s_Until⟩ h, (fun (s : TSpan) (h : Int) => (dB (mHolds s h) : D)) ⟨s_From, s_Until⟩ h, (fun (s : TSpan) (h : Int) => []) ⟨s_From, s_Until⟩ h) :=
  mkCon_fn (fun x y h _ => c130_inj x y h) ((⟨s_From, s_Until⟩, h) : TSpan × Int) (by simp [nz, nz1, ML_nil, encTSpan]) rfl
theorem c130_pc (s : TSpan) (h : Int) : PCo Try.prog 130 [encTSpan s, dI h] (Tab.of []) (dB (mHolds s h)) (Tab.of []) := by
  obtain ⟨s_From, s_Until⟩ := s
  refine pco_of_run [] (E := ⟨[c135, c137], []⟩) (m := false) (base := 0) (Env.ok_cons c135_ok (Env.ok_cons c137_ok Env.ok_nil)) G_ok mix 300 6 Try.func130 (by kernel_rfl) rfl (by kernel_rfl) (by kernel_rfl) rfl ?_
  simp [Try.f130]
  simp [mHolds]
theorem c130_ok : c130.ok Try.prog := mkCon_ok fun ⟨s, h⟩ hpre => c130_pc s h
def mHours (s : TSpan) : Int := if mIsSpan s then s.Until - s.From + 1 else 0
/-- (loop.example/g03007/impl.Span).meet -/
noncomputable def c272 : Con := mkCon 272 false (α := TSpan × TSpan) (fun x => (fun (s : TSpan) (o : TSpan) => [encTSpan s, encTSpan o]) x.1 x.2) (fun _ => []) (fun x => (fun (s : TSpan) (o : TSpan) => True) x.1 x.2) (fun x => (fun (s : TSpan) (o : TSpan) => (encTSpan (mMeet s o) : D)) x.1 x.2) (fun x => (fun (s : TSpan) (o : TSpan) => []) x.1 x.2)
@[simp] theorem c272_f : c272.f = 272 := rfl
@[simp] theorem c272_own : c272.own = false := rfl
theorem c272_inj : ∀ u_ v_ : TSpan × TSpan, ((fun x => (fun (s : TSpan) (o : TSpan) => [encTSpan s, encTSpan o]) x.1 x.2) u_).map nz = ((fun x => (fun (s : TSpan) (o : TSpan) => [encTSpan s, encTSpan o]) x.1 x.2) v_).map nz → u_ = v_ := by
  intro u_ v_ h
  obtain ⟨⟨s_From, s_Until⟩, ⟨o_From, o_Until⟩⟩ := u_
  obtain ⟨⟨s_From', s_Until'⟩, ⟨o_From', o_Until'⟩⟩ := v_
  simp [nz_lit, nz1_lit, nz_agg, nz_sl, nz1_sl, encTSpan] at h
  first | (simp [h]; done) | (obtain ⟨⟩ := h; simp_all; done) | simp_all
@[simp] theorem c272_fn (s_From : Int) (s_Until : Int) (o_From : Int) (o_Until : Int) : c272.fn [.agg [.lit (.int .i64 s_From), .lit (.int .i64 s_Until)], .agg [.lit (.int .i64 o_From), .lit (.int .i64 o_Until)]] [] = some ((fun (s : TSpan) (o : TSpan) => True) ⟨s_From, s_Until⟩ ⟨o_From, o_Until⟩, (fun (s : TSpan) (o : TSpan) => (encTSpan (mMeet s o) : D)) ⟨s_From, s_Until⟩ ⟨o_From, o_Until⟩, (fun (s : TSpan) (o : TSpan) => []) ⟨s_From, s_Until⟩ ⟨o_From, o_Until⟩) :=
  mkCon_fn (fun x y h _ => c272_inj x y h) ((⟨s_From, s_Until⟩, ⟨o_From, o_Until⟩) : TSpan × TSpan) (by simp [nz, nz1, ML_nil, encTSpan]) rfl
theorem c272_pc (s : TSpan) (o : TSpan) : PCo Try.prog 272 [encTSpan s, encTSpan o] (Tab.of []) (encTSpan (mMeet s o)) (Tab.of []) := by
  obtain ⟨s_From, s_Until⟩ := s
  obtain ⟨o_From, o_Until⟩ := o
  refine pco_of_run [1] (E := ⟨[c162, c163], []⟩) (m := false) (base := 0) (Env.ok_cons c162_ok (Env.ok_cons c163_ok Env.ok_nil)) G_ok mix 300 6 Try.func272 (by kernel_rfl) rfl (by kernel_rfl) (by kernel_rfl) rfl ?_
  simp [Try.f272]
  simp [mMeet]
theorem c272_ok : c272.ok Try.prog := mkCon_ok fun ⟨s, o⟩ hpre => c272_pc s o
/-- (loop.example/g03007/impl.meeting).applyTo -/
noncomputable def c277 : Con := mkCon 277 false (α := TMeeting × TSpan) (fun x => (fun (c : TMeeting) (s : TSpan) => [encTMeeting c, encTSpan s]) x.1 x.2) (fun _ => []) (fun x => (fun (c : TMeeting) (s : TSpan) => True) x.1 x.2) (fun x => (fun (c : TMeeting) (s : TSpan) => (encTSpan (mMeet s c.with_) : D)) x.1 x.2) (fun x => (fun (c : TMeeting) (s : TSpan) => []) x.1 x.2)
@[simp] theorem c277_f : c277.f = 277 := rfl
@[simp] theorem c277_own : c277.own = false := rfl
theorem c277_inj : ∀ u_ v_ : TMeeting × TSpan, ((fun x => (fun (c : TMeeting) (s : TSpan) => [encTMeeting c, encTSpan s]) x.1 x.2) u_).map nz = ((fun x => (fun (c : TMeeting) (s : TSpan) => [encTMeeting c, encTSpan s]) x.1 x.2) v_).map nz → u_ = v_ := by
  intro u_ v_ h
  obtain ⟨⟨⟨c_with__From, c_with__Until⟩⟩, ⟨s_From, s_Until⟩⟩ := u_
  obtain ⟨⟨⟨c_with__From', c_with__Until'⟩⟩, ⟨s_From', s_Until'⟩⟩ := v_
  simp [nz_lit, nz1_lit, nz_agg, nz_sl, nz1_sl, encTMeeting, encTSpan] at h
  first | (simp [h]; done) | (obtain ⟨⟩ := h; simp_all; done) | simp_all
@[simp] theorem c277_fn (c_with__From : Int) (c_with__Until : Int) (s_From : Int) (s_Until : Int) : c277.fn [.agg [.lit (.int .i64 c_with__From), .lit (.int .i64 c_with__Until)], .agg [.lit (.int .i64 s_From), .lit (.int .i64 s_Until)]] [] = some ((fun (c : TMeeting) (s : TSpan) => True) ⟨⟨c_with__From, c_with__Until⟩⟩ ⟨s_From, s_Until⟩, (fun (c : TMeeting) (s : TSpan) => (encTSpan (mMeet s c.with_) : D)) ⟨⟨c_with__From, c_with__Until⟩⟩ ⟨s_From, s_Until⟩, (fun (c : TMeeting) (s : TSpan) => []) ⟨⟨c_with__From, c_with__Until⟩⟩ ⟨s_From, s_Until⟩) :=
  mkCon_fn (fun x y h _ => c277_inj x y h) ((⟨⟨c_with__From, c_with__Until⟩⟩, ⟨s_From, s_Until⟩) : TMeeting × TSpan) (by simp [nz, nz1, ML_nil, encTMeeting, encTSpan]) rfl
theorem c277_pc (c : TMeeting) (s : TSpan) : PCo Try.prog 277 [encTMeeting c, encTSpan s] (Tab.of []) (encTSpan (mMeet s c.with_)) (Tab.of []) := by
  obtain ⟨⟨c_with__From, c_with__Until⟩⟩ := c
  obtain ⟨s_From, s_Until⟩ := s
  refine pco_of_run [] (E := ⟨[c272], []⟩) (m := false) (base := 0) (Env.ok_cons c272_ok Env.ok_nil) G_ok mix 300 6 Try.func277 (by kernel_rfl) rfl (by kernel_rfl) (by kernel_rfl) rfl ?_
  simp [Try.f277]
  trace_state
theorem c277_ok : c277.ok Try.prog := mkCon_ok fun ⟨c, s⟩ hpre => c277_pc c s
/-- (loop.example/g03007/impl.covering).applyTo -/
noncomputable def c278 : Con := mkCon 278 false (α := TMeeting × TSpan) (fun x => (fun (c : TMeeting) (s : TSpan) => [encTMeeting c, encTSpan s]) x.1 x.2) (fun _ => []) (fun x => (fun (c : TMeeting) (s : TSpan) => True) x.1 x.2) (fun x => (fun (c : TMeeting) (s : TSpan) => (encTSpan (mHull s c.with_) : D)) x.1 x.2) (fun x => (fun (c : TMeeting) (s : TSpan) => []) x.1 x.2)
@[simp] theorem c278_f : c278.f = 278 := rfl
@[simp] theorem c278_own : c278.own = false := rfl
theorem c278_inj : ∀ u_ v_ : TMeeting × TSpan, ((fun x => (fun (c : TMeeting) (s : TSpan) => [encTMeeting c, encTSpan s]) x.1 x.2) u_).map nz = ((fun x => (fun (c : TMeeting) (s : TSpan) => [encTMeeting c, encTSpan s]) x.1 x.2) v_).map nz → u_ = v_ := by
  intro u_ v_ h
  obtain ⟨⟨⟨c_with__From, c_with__Until⟩⟩, ⟨s_From, s_Until⟩⟩ := u_
  obtain ⟨⟨⟨c_with__From', c_with__Until'⟩⟩, ⟨s_From', s_Until'⟩⟩ := v_
  simp [nz_lit, nz1_lit, nz_agg, nz_sl, nz1_sl, encTMeeting, encTSpan] at h
  first | (simp [h]; done) | (obtain ⟨⟩ := h; simp_all; done) | simp_all
@[simp] theorem c278_fn (c_with__From : Int) (c_with__Until : Int) (s_From : Int) (s_Until : Int) : c278.fn [.agg [.lit (.int .i64 c_with__From), .lit (.int .i64 c_with__Until)], .agg [.lit (.int .i64 s_From), .lit (.int .i64 s_Until)]] [] = some ((fun (c : TMeeting) (s : TSpan) => True) ⟨⟨c_with__From, c_with__Until⟩⟩ ⟨s_From, s_Until⟩, (fun (c : TMeeting) (s : TSpan) => (encTSpan (mHull s c.with_) : D)) ⟨⟨c_with__From, c_with__Until⟩⟩ ⟨s_From, s_Until⟩, (fun (c : TMeeting) (s : TSpan) => []) ⟨⟨c_with__From, c_with__Until⟩⟩ ⟨s_From, s_Until⟩) :=
  mkCon_fn (fun x y h _ => c278_inj x y h) ((⟨⟨c_with__From, c_with__Until⟩⟩, ⟨s_From, s_Until⟩) : TMeeting × TSpan) (by simp [nz, nz1, ML_nil, encTMeeting, encTSpan]) rfl
theorem c278_pc (c : TMeeting) (s : TSpan) : PCo Try.prog 278 [encTMeeting c, encTSpan s] (Tab.of []) (encTSpan (mHull s c.with_)) (Tab.of []) := by
  obtain ⟨⟨c_with__From, c_with__Until⟩⟩ := c
  obtain ⟨s_From, s_Until⟩ := s
  refine pco_of_run [1] (E := ⟨[c162, c163], []⟩) (m := false) (base := 0) (Env.ok_cons c162_ok (Env.ok_cons c163_ok Env.ok_nil)) G_ok mix 300 6 Try.func278 (by kernel_rfl) rfl (by kernel_rfl) (by kernel_rfl) rfl ?_
  simp [Try.f278]
  simp [mHull]
theorem c278_ok : c278.ok Try.prog := mkCon_ok fun ⟨c, s⟩ hpre => c278_pc c s
/-- (loop.example/g03007/impl.widening).applyTo -/
noncomputable def c279 : Con := mkCon 279 false (α := TWidening × TSpan) (fun x => (fun (c : TWidening) (s : TSpan) => [encTWidening c, encTSpan s]) x.1 x.2) (fun _ => []) (fun x => (fun (c : TWidening) (s : TSpan) => mIsSpan s = true ∧ mIn c.by_ 0 100000 = true) x.1 x.2) (fun x => (fun (c : TWidening) (s : TSpan) => (encTSpan (mWiden s c.by_) : D)) x.1 x.2) (fun x => (fun (c : TWidening) (s : TSpan) => []) x.1 x.2)
@[simp] theorem c279_f : c279.f = 279 := rfl
@[simp] theorem c279_own : c279.own = false := rfl
theorem c279_inj : ∀ u_ v_ : TWidening × TSpan, ((fun x => (fun (c : TWidening) (s : TSpan) => [encTWidening c, encTSpan s]) x.1 x.2) u_).map nz = ((fun x => (fun (c : TWidening) (s : TSpan) => [encTWidening c, encTSpan s]) x.1 x.2) v_).map nz → u_ = v_ := by
  intro u_ v_ h
  obtain ⟨⟨c_by_⟩, ⟨s_From, s_Until⟩⟩ := u_
  obtain ⟨⟨c_by_'⟩, ⟨s_From', s_Until'⟩⟩ := v_
  simp [nz_lit, nz1_lit, nz_agg, nz_sl, nz1_sl, encTSpan, encTWidening] at h
  first | (simp [h]; done) | (obtain ⟨⟩ := h; simp_all; done) | simp_all
@[simp] theorem c279_fn (c_by_ : Int) (s_From : Int) (s_Until : Int) : c279.fn [.agg [.lit (.int .i64 c_by_)], .agg [.lit (.int .i64 s_From), .lit (.int .i64 s_Until)]] [] = some ((fun (c : TWidening) (s : TSpan) => mIsSpan s = true ∧ mIn c.by_ 0 100000 = true) ⟨c_by_⟩ ⟨s_From, s_Until⟩, (fun (c : TWidening) (s : TSpan) => (encTSpan (mWiden s c.by_) : D)) ⟨c_by_⟩ ⟨s_From, s_Until⟩, (fun (c : TWidening) (s : TSpan) => []) ⟨c_by_⟩ ⟨s_From, s_Until⟩) :=
  mkCon_fn (fun x y h _ => c279_inj x y h) ((⟨c_by_⟩, ⟨s_From, s_Until⟩) : TWidening × TSpan) (by simp [nz, nz1, ML_nil, encTSpan, encTWidening]) rfl
theorem c279_pc (c : TWidening) (s : TSpan) (hpre : mIsSpan s = true ∧ mIn c.by_ 0 100000 = true) : PCo Try.prog 279 [encTWidening c, encTSpan s] (Tab.of []) (encTSpan (mWiden s c.by_)) (Tab.of []) := by
  obtain ⟨c_by_⟩ := c
  obtain ⟨s_From, s_Until⟩ := s
  refine pco_of_run [] (E := ⟨[c272], []⟩) (m := false) (base := 0) (Env.ok_cons c272_ok Env.ok_nil) G_ok mix 300 6 Try.func279 (by kernel_rfl) rfl (by kernel_rfl) (by kernel_rfl) rfl ?_
  simp [Try.f279]
  have h3 := isSpan_of hpre.1
  have h4 := in_of hpre.2
  simp [mWiden, mMeet] at h3 h4 ⊢
  omega
theorem c279_ok : c279.ok Try.prog := mkCon_ok fun ⟨c, s⟩ hpre => c279_pc c s hpre

end Go.Proofs.Ytlpobdjfdbfhaaa
