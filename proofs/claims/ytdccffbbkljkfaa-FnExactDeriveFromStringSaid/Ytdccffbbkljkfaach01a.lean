/- Contracts of the functions that the laws run. -/
import Derived.Test.YtdccffbbkljkfaaTS
namespace Go.Proofs.Ytdccffbbkljkfaa
open Go Go.Eng
set_option linter.unusedSimpArgs false
set_option linter.unusedVariables false
set_option maxRecDepth 10000
def mIn (x y z : Int) : Bool := decide (y ≤ x) && decide (x ≤ z)
/-- loop.example/g03007/spec.l1In -/
noncomputable def c113 : Con := mkCon 113 false (α := Int × Int × Int) (fun x => (fun (x : Int) (y : Int) (z : Int) => [dI x, dI y, dI z]) x.1 x.2.1 x.2.2) (fun _ => []) (fun x => (fun (x : Int) (y : Int) (z : Int) => True) x.1 x.2.1 x.2.2) (fun x => (fun (x : Int) (y : Int) (z : Int) => (dB (mIn x y z) : D)) x.1 x.2.1 x.2.2) (fun x => (fun (x : Int) (y : Int) (z : Int) => []) x.1 x.2.1 x.2.2)
@[simp] theorem c113_f : c113.f = 113 := rfl
@[simp] theorem c113_own : c113.own = false := rfl
theorem c113_inj : ∀ u_ v_ : Int × Int × Int, ((fun x => (fun (x : Int) (y : Int) (z : Int) => [dI x, dI y, dI z]) x.1 x.2.1 x.2.2) u_).map nz = ((fun x => (fun (x : Int) (y : Int) (z : Int) => [dI x, dI y, dI z]) x.1 x.2.1 x.2.2) v_).map nz → u_ = v_ := by
  intro u_ v_ h
  obtain ⟨x, y, z⟩ := u_
  obtain ⟨x', y', z'⟩ := v_
  simp [nz_lit, nz1_lit, nz_agg, nz_sl, nz1_sl] at h
  first | (simp [h]; done) | (obtain ⟨⟩ := h; simp_all; done) | simp_all
@[simp] theorem c113_fn (x : Int) (y : Int) (z : Int) : c113.fn [.lit (.int .i64 x), .lit (.int .i64 y), .lit (.int .i64 z)] [] = some ((fun (x : Int) (y : Int) (z : Int) => True) x y z, (fun (x : Int) (y : Int) (z : Int) => (dB (mIn x y z) : D)) x y z, (fun (x : Int) (y : Int) (z : Int) => []) x y z) :=
  mkCon_fn (fun x y h _ => c113_inj x y h) ((x, y, z) : Int × Int × Int) (by simp [nz, nz1, ML_nil]) rfl
theorem c113_pc (x : Int) (y : Int) (z : Int) : PCo Try.prog 113 [dI x, dI y, dI z] (Tab.of []) (dB (mIn x y z)) (Tab.of []) := by
  refine pco_of_run [] (E := ⟨[], []⟩) (m := false) (base := 0) Env.ok_nil G_ok mix 300 6 Try.func113 (by kernel_rfl) rfl (by kernel_rfl) (by kernel_rfl) rfl ?_
  simp [Try.f113]
  simp [mIn]
theorem c113_ok : c113.ok Try.prog := mkCon_ok fun ⟨x, y, z⟩ hpre => c113_pc x y z
/-- loop.example/g03007/impl.InRange -/
noncomputable def c46 : Con := mkCon 46 false (α := Int × Int × Int) (fun x => (fun (x : Int) (y : Int) (z : Int) => [dI x, dI y, dI z]) x.1 x.2.1 x.2.2) (fun _ => []) (fun x => (fun (x : Int) (y : Int) (z : Int) => True) x.1 x.2.1 x.2.2) (fun x => (fun (x : Int) (y : Int) (z : Int) => (dB (mIn x y z) : D)) x.1 x.2.1 x.2.2) (fun x => (fun (x : Int) (y : Int) (z : Int) => []) x.1 x.2.1 x.2.2)
@[simp] theorem c46_f : c46.f = 46 := rfl
@[simp] theorem c46_own : c46.own = false := rfl
theorem c46_inj : ∀ u_ v_ : Int × Int × Int, ((fun x => (fun (x : Int) (y : Int) (z : Int) => [dI x, dI y, dI z]) x.1 x.2.1 x.2.2) u_).map nz = ((fun x => (fun (x : Int) (y : Int) (z : Int) => [dI x, dI y, dI z]) x.1 x.2.1 x.2.2) v_).map nz → u_ = v_ := by
  intro u_ v_ h
  obtain ⟨x, y, z⟩ := u_
  obtain ⟨x', y', z'⟩ := v_
  simp [nz_lit, nz1_lit, nz_agg, nz_sl, nz1_sl] at h
  first | (simp [h]; done) | (obtain ⟨⟩ := h; simp_all; done) | simp_all
@[simp] theorem c46_fn (x : Int) (y : Int) (z : Int) : c46.fn [.lit (.int .i64 x), .lit (.int .i64 y), .lit (.int .i64 z)] [] = some ((fun (x : Int) (y : Int) (z : Int) => True) x y z, (fun (x : Int) (y : Int) (z : Int) => (dB (mIn x y z) : D)) x y z, (fun (x : Int) (y : Int) (z : Int) => []) x y z) :=
  mkCon_fn (fun x y h _ => c46_inj x y h) ((x, y, z) : Int × Int × Int) (by simp [nz, nz1, ML_nil]) rfl
theorem c46_pc (x : Int) (y : Int) (z : Int) : PCo Try.prog 46 [dI x, dI y, dI z] (Tab.of []) (dB (mIn x y z)) (Tab.of []) := by
  refine pco_of_run [] (E := ⟨[], []⟩) (m := false) (base := 0) Env.ok_nil G_ok mix 300 6 Try.func46 (by kernel_rfl) rfl (by kernel_rfl) (by kernel_rfl) rfl ?_
  simp [Try.f46]
  simp [mIn]
theorem c46_ok : c46.ok Try.prog := mkCon_ok fun ⟨x, y, z⟩ hpre => c46_pc x y z
/-- loop.example/g03007/spec.Min -/
noncomputable def c37 : Con := mkCon 37 false (α := Int × Int) (fun x => (fun (a : Int) (b : Int) => [dI a, dI b]) x.1 x.2) (fun _ => []) (fun x => (fun (a : Int) (b : Int) => True) x.1 x.2) (fun x => (fun (a : Int) (b : Int) => (dI (min a b) : D)) x.1 x.2) (fun x => (fun (a : Int) (b : Int) => []) x.1 x.2)
@[simp] theorem c37_f : c37.f = 37 := rfl
@[simp] theorem c37_own : c37.own = false := rfl
theorem c37_inj : ∀ u_ v_ : Int × Int, ((fun x => (fun (a : Int) (b : Int) => [dI a, dI b]) x.1 x.2) u_).map nz = ((fun x => (fun (a : Int) (b : Int) => [dI a, dI b]) x.1 x.2) v_).map nz → u_ = v_ := by
  intro u_ v_ h
  obtain ⟨a, b⟩ := u_
  obtain ⟨a', b'⟩ := v_
  simp [nz_lit, nz1_lit, nz_agg, nz_sl, nz1_sl] at h
  first | (simp [h]; done) | (obtain ⟨⟩ := h; simp_all; done) | simp_all
@[simp] theorem c37_fn (a : Int) (b : Int) : c37.fn [.lit (.int .i64 a), .lit (.int .i64 b)] [] = some ((fun (a : Int) (b : Int) => True) a b, (fun (a : Int) (b : Int) => (dI (min a b) : D)) a b, (fun (a : Int) (b : Int) => []) a b) :=
  mkCon_fn (fun x y h _ => c37_inj x y h) ((a, b) : Int × Int) (by simp [nz, nz1, ML_nil]) rfl
theorem c37_pc (a : Int) (b : Int) : PCo Try.prog 37 [dI a, dI b] (Tab.of []) (dI (min a b)) (Tab.of []) := by
  refine pco_of_run [] (E := ⟨[], []⟩) (m := false) (base := 0) Env.ok_nil G_ok mix 300 6 Try.func37 (by kernel_rfl) rfl (by kernel_rfl) (by kernel_rfl) rfl ?_
  simp [Try.f37]
  all_goals first | omega | (rw [Bool.eq_iff_iff]; simp; omega) | grind
theorem c37_ok : c37.ok Try.prog := mkCon_ok fun ⟨a, b⟩ hpre => c37_pc a b
/-- loop.example/g03007/spec.Max -/
noncomputable def c39 : Con := mkCon 39 false (α := Int × Int) (fun x => (fun (a : Int) (b : Int) => [dI a, dI b]) x.1 x.2) (fun _ => []) (fun x => (fun (a : Int) (b : Int) => True) x.1 x.2) (fun x => (fun (a : Int) (b : Int) => (dI (max a b) : D)) x.1 x.2) (fun x => (fun (a : Int) (b : Int) => []) x.1 x.2)
@[simp] theorem c39_f : c39.f = 39 := rfl
@[simp] theorem c39_own : c39.own = false := rfl
theorem c39_inj : ∀ u_ v_ : Int × Int, ((fun x => (fun (a : Int) (b : Int) => [dI a, dI b]) x.1 x.2) u_).map nz = ((fun x => (fun (a : Int) (b : Int) => [dI a, dI b]) x.1 x.2) v_).map nz → u_ = v_ := by
  intro u_ v_ h
  obtain ⟨a, b⟩ := u_
  obtain ⟨a', b'⟩ := v_
  simp [nz_lit, nz1_lit, nz_agg, nz_sl, nz1_sl] at h
  first | (simp [h]; done) | (obtain ⟨⟩ := h; simp_all; done) | simp_all
@[simp] theorem c39_fn (a : Int) (b : Int) : c39.fn [.lit (.int .i64 a), .lit (.int .i64 b)] [] = some ((fun (a : Int) (b : Int) => True) a b, (fun (a : Int) (b : Int) => (dI (max a b) : D)) a b, (fun (a : Int) (b : Int) => []) a b) :=
  mkCon_fn (fun x y h _ => c39_inj x y h) ((a, b) : Int × Int) (by simp [nz, nz1, ML_nil]) rfl
theorem c39_pc (a : Int) (b : Int) : PCo Try.prog 39 [dI a, dI b] (Tab.of []) (dI (max a b)) (Tab.of []) := by
  refine pco_of_run [] (E := ⟨[], []⟩) (m := false) (base := 0) Env.ok_nil G_ok mix 300 6 Try.func39 (by kernel_rfl) rfl (by kernel_rfl) (by kernel_rfl) rfl ?_
  simp [Try.f39]
  all_goals first | omega | (rw [Bool.eq_iff_iff]; simp; omega) | grind
theorem c39_ok : c39.ok Try.prog := mkCon_ok fun ⟨a, b⟩ hpre => c39_pc a b
/-- cmp.isNaN[int] -/
noncomputable def c130 : Con := mkCon 130 false (α := Int) (fun x => (fun (a : Int) => [dI a]) x) (fun _ => []) (fun x => (fun (a : Int) => True) x) (fun x => (fun (a : Int) => (dB false : D)) x) (fun x => (fun (a : Int) => []) x)
@[simp] theorem c130_f : c130.f = 130 := rfl
@[simp] theorem c130_own : c130.own = false := rfl
theorem c130_inj : ∀ u_ v_ : Int, ((fun x => (fun (a : Int) => [dI a]) x) u_).map nz = ((fun x => (fun (a : Int) => [dI a]) x) v_).map nz → u_ = v_ := by
  intro u_ v_ h
  obtain a := u_
  obtain a' := v_
  simp [nz_lit, nz1_lit, nz_agg, nz_sl, nz1_sl] at h
  first | (simp [h]; done) | (obtain ⟨⟩ := h; simp_all; done) | simp_all
@[simp] theorem c130_fn (a : Int) : c130.fn [.lit (.int .i64 a)] [] = some ((fun (a : Int) => True) a, (fun (a : Int) => (dB false : D)) a, (fun (a : Int) => []) a) :=
  mkCon_fn (fun x y h _ => c130_inj x y h) (a : Int) (by simp [nz, nz1, ML_nil]) rfl
theorem c130_pc (a : Int) : PCo Try.prog 130 [dI a] (Tab.of []) (dB false) (Tab.of []) := by
  refine pco_of_run [] (E := ⟨[], []⟩) (m := false) (base := 0) Env.ok_nil G_ok mix 300 6 Try.func130 (by kernel_rfl) rfl (by kernel_rfl) (by kernel_rfl) rfl ?_
  simp [Try.f130]
  all_goals first | omega | (rw [Bool.eq_iff_iff]; simp; omega) | grind
theorem c130_ok : c130.ok Try.prog := mkCon_ok fun a hpre => c130_pc a
/-- cmp.Less[int] -/
noncomputable def c116 : Con := mkCon 116 false (α := Int × Int) (fun x => (fun (a : Int) (b : Int) => [dI a, dI b]) x.1 x.2) (fun _ => []) (fun x => (fun (a : Int) (b : Int) => True) x.1 x.2) (fun x => (fun (a : Int) (b : Int) => (dB (decide (a < b)) : D)) x.1 x.2) (fun x => (fun (a : Int) (b : Int) => []) x.1 x.2)
@[simp] theorem c116_f : c116.f = 116 := rfl
@[simp] theorem c116_own : c116.own = false := rfl
theorem c116_inj : ∀ u_ v_ : Int × Int, ((fun x => (fun (a : Int) (b : Int) => [dI a, dI b]) x.1 x.2) u_).map nz = ((fun x => (fun (a : Int) (b : Int) => [dI a, dI b]) x.1 x.2) v_).map nz → u_ = v_ := by
  intro u_ v_ h
  obtain ⟨a, b⟩ := u_
  obtain ⟨a', b'⟩ := v_
  simp [nz_lit, nz1_lit, nz_agg, nz_sl, nz1_sl] at h
  first | (simp [h]; done) | (obtain ⟨⟩ := h; simp_all; done) | simp_all
@[simp] theorem c116_fn (a : Int) (b : Int) : c116.fn [.lit (.int .i64 a), .lit (.int .i64 b)] [] = some ((fun (a : Int) (b : Int) => True) a b, (fun (a : Int) (b : Int) => (dB (decide (a < b)) : D)) a b, (fun (a : Int) (b : Int) => []) a b) :=
  mkCon_fn (fun x y h _ => c116_inj x y h) ((a, b) : Int × Int) (by simp [nz, nz1, ML_nil]) rfl
theorem c116_pc (a : Int) (b : Int) : PCo Try.prog 116 [dI a, dI b] (Tab.of []) (dB (decide (a < b))) (Tab.of []) := by
  refine pco_of_run [] (E := ⟨[c130], []⟩) (m := false) (base := 0) (Env.ok_cons c130_ok Env.ok_nil) G_ok mix 300 6 Try.func116 (by kernel_rfl) rfl (by kernel_rfl) (by kernel_rfl) rfl ?_
  simp [Try.f116]
  all_goals first | omega | (rw [Bool.eq_iff_iff]; simp; omega) | grind
theorem c116_ok : c116.ok Try.prog := mkCon_ok fun ⟨a, b⟩ hpre => c116_pc a b
/-- loop.example/g03007/impl.isGreater -/
noncomputable def c117 : Con := mkCon 117 false (α := Int × Int) (fun x => (fun (a : Int) (b : Int) => [dI a, dI b]) x.1 x.2) (fun _ => []) (fun x => (fun (a : Int) (b : Int) => True) x.1 x.2) (fun x => (fun (a : Int) (b : Int) => (dB (decide (b < a)) : D)) x.1 x.2) (fun x => (fun (a : Int) (b : Int) => []) x.1 x.2)
@[simp] theorem c117_f : c117.f = 117 := rfl
@[simp] theorem c117_own : c117.own = false := rfl
theorem c117_inj : ∀ u_ v_ : Int × Int, ((fun x => (fun (a : Int) (b : Int) => [dI a, dI b]) x.1 x.2) u_).map nz = ((fun x => (fun (a : Int) (b : Int) => [dI a, dI b]) x.1 x.2) v_).map nz → u_ = v_ := by
  intro u_ v_ h
  obtain ⟨a, b⟩ := u_
  obtain ⟨a', b'⟩ := v_
  simp [nz_lit, nz1_lit, nz_agg, nz_sl, nz1_sl] at h
  first | (simp [h]; done) | (obtain ⟨⟩ := h; simp_all; done) | simp_all
@[simp] theorem c117_fn (a : Int) (b : Int) : c117.fn [.lit (.int .i64 a), .lit (.int .i64 b)] [] = some ((fun (a : Int) (b : Int) => True) a b, (fun (a : Int) (b : Int) => (dB (decide (b < a)) : D)) a b, (fun (a : Int) (b : Int) => []) a b) :=
  mkCon_fn (fun x y h _ => c117_inj x y h) ((a, b) : Int × Int) (by simp [nz, nz1, ML_nil]) rfl
theorem c117_pc (a : Int) (b : Int) : PCo Try.prog 117 [dI a, dI b] (Tab.of []) (dB (decide (b < a))) (Tab.of []) := by
  refine pco_of_run [] (E := ⟨[], []⟩) (m := false) (base := 0) Env.ok_nil G_ok mix 300 6 Try.func117 (by kernel_rfl) rfl (by kernel_rfl) (by kernel_rfl) rfl ?_
  simp [Try.f117]
  all_goals first | omega | (rw [Bool.eq_iff_iff]; simp; omega) | grind
theorem c117_ok : c117.ok Try.prog := mkCon_ok fun ⟨a, b⟩ hpre => c117_pc a b
/-- loop.example/g03007/impl.firstInOrder -/
noncomputable def c115 : Con := mkCon 115 false (α := FuncId × Int × Int) (fun x => (fun (g : FuncId) (a : Int) (b : Int) => ([.fn (.func g) [] [], dI a, .sl false 1 (dI 0) [dI b]] : List D)) x.1 x.2.1 x.2.2) (fun x => (fun (g : FuncId) (a : Int) (b : Int) => ([] : List (Nm × OO))) x.1 x.2.1 x.2.2) (fun x => (fun (g : FuncId) (a : Int) (b : Int) => g = 116 ∨ g = 117) x.1 x.2.1 x.2.2) (fun x => (fun (g : FuncId) (a : Int) (b : Int) => (dI (if g = 116 then min a b else max a b) : D)) x.1 x.2.1 x.2.2) (fun x => (fun (g : FuncId) (a : Int) (b : Int) => ([] : List (Nm × OO))) x.1 x.2.1 x.2.2)
@[simp] theorem c115_f : c115.f = 115 := rfl
@[simp] theorem c115_own : c115.own = false := rfl
theorem c115_inj : ∀ u_ v_ : FuncId × Int × Int, ((fun x => (fun (g : FuncId) (a : Int) (b : Int) => ([.fn (.func g) [] [], dI a, .sl false 1 (dI 0) [dI b]] : List D)) x.1 x.2.1 x.2.2) u_).map nz = ((fun x => (fun (g : FuncId) (a : Int) (b : Int) => ([.fn (.func g) [] [], dI a, .sl false 1 (dI 0) [dI b]] : List D)) x.1 x.2.1 x.2.2) v_).map nz → (fun x => (fun (g : FuncId) (a : Int) (b : Int) => ([] : List (Nm × OO))) x.1 x.2.1 x.2.2) u_ = (fun x => (fun (g : FuncId) (a : Int) (b : Int) => ([] : List (Nm × OO))) x.1 x.2.1 x.2.2) v_ → u_ = v_ := by
  intro u_ v_ h h2_
  obtain ⟨g, a, b⟩ := u_
  obtain ⟨g', a', b'⟩ := v_
  simp [nz_lit, nz1_lit, nz_agg, nz_sl, nz1_sl, nz_el, nz1_el, nz_own, nz1_own, nz_ptr, nz_fn, nz_iface] at h h2_
  first | (simp [h, h2_]; done) | simp_all | grind
@[simp] theorem c115_fn (g : FuncId) (a : Int) (b : Int) : c115.fn ([.fn (.func g) [] [], dI a, .sl false 1 (dI 0) [dI b]]) ([]) = some (g = 116 ∨ g = 117, dI (if g = 116 then min a b else max a b), []) :=
  mkCon_fn c115_inj ((g, a, b) : FuncId × Int × Int) rfl rfl
theorem c115_pc (g : FuncId) (a : Int) (b : Int) (hpre : g = 116 ∨ g = 117) : PCo Try.prog 115 ([.fn (.func g) [] [], dI a, .sl false 1 (dI 0) [dI b]]) (Tab.of ([])) (dI (if g = 116 then min a b else max a b)) (Tab.of ([])) := by
  refine pco_of_run [] (E := ⟨[c116, c117], []⟩) (m := false) (base := 0) (Env.ok_cons c116_ok (Env.ok_cons c117_ok Env.ok_nil)) G_ok mix 300 6 Try.func115 (by kernel_rfl) rfl (by kernel_rfl) (by kernel_rfl) rfl ?_
  rcases hpre with rfl | rfl
  · simp [Try.f115]
    refine loop_unroll 100 ?_
    simp
    omega
  · simp [Try.f115]
    refine loop_unroll 100 ?_
    simp
    omega
theorem c115_ok : c115.ok Try.prog := mkCon_ok fun ⟨g, a, b⟩ hpre => c115_pc g a b hpre
/-- loop.example/g03007/impl.Min -/
noncomputable def c38 : Con := mkCon 38 false (α := Int × Int) (fun x => (fun (a : Int) (b : Int) => [dI a, dI b]) x.1 x.2) (fun _ => []) (fun x => (fun (a : Int) (b : Int) => True) x.1 x.2) (fun x => (fun (a : Int) (b : Int) => (dI (min a b) : D)) x.1 x.2) (fun x => (fun (a : Int) (b : Int) => []) x.1 x.2)
@[simp] theorem c38_f : c38.f = 38 := rfl
@[simp] theorem c38_own : c38.own = false := rfl
theorem c38_inj : ∀ u_ v_ : Int × Int, ((fun x => (fun (a : Int) (b : Int) => [dI a, dI b]) x.1 x.2) u_).map nz = ((fun x => (fun (a : Int) (b : Int) => [dI a, dI b]) x.1 x.2) v_).map nz → u_ = v_ := by
  intro u_ v_ h
  obtain ⟨a, b⟩ := u_
  obtain ⟨a', b'⟩ := v_
  simp [nz_lit, nz1_lit, nz_agg, nz_sl, nz1_sl] at h
  first | (simp [h]; done) | (obtain ⟨⟩ := h; simp_all; done) | simp_all
@[simp] theorem c38_fn (a : Int) (b : Int) : c38.fn [.lit (.int .i64 a), .lit (.int .i64 b)] [] = some ((fun (a : Int) (b : Int) => True) a b, (fun (a : Int) (b : Int) => (dI (min a b) : D)) a b, (fun (a : Int) (b : Int) => []) a b) :=
  mkCon_fn (fun x y h _ => c38_inj x y h) ((a, b) : Int × Int) (by simp [nz, nz1, ML_nil]) rfl
theorem c38_pc (a : Int) (b : Int) : PCo Try.prog 38 [dI a, dI b] (Tab.of []) (dI (min a b)) (Tab.of []) := by
  refine pco_of_run [] (E := ⟨[c115, c116], []⟩) (m := false) (base := 0) (Env.ok_cons c115_ok (Env.ok_cons c116_ok Env.ok_nil)) G_ok mix 300 6 Try.func38 (by kernel_rfl) rfl (by kernel_rfl) (by kernel_rfl) rfl ?_
  simp [Try.f38]
  all_goals first | omega | (rw [Bool.eq_iff_iff]; simp; omega) | grind
theorem c38_ok : c38.ok Try.prog := mkCon_ok fun ⟨a, b⟩ hpre => c38_pc a b
/-- loop.example/g03007/impl.Max -/
noncomputable def c40 : Con := mkCon 40 false (α := Int × Int) (fun x => (fun (a : Int) (b : Int) => [dI a, dI b]) x.1 x.2) (fun _ => []) (fun x => (fun (a : Int) (b : Int) => True) x.1 x.2) (fun x => (fun (a : Int) (b : Int) => (dI (max a b) : D)) x.1 x.2) (fun x => (fun (a : Int) (b : Int) => []) x.1 x.2)
@[simp] theorem c40_f : c40.f = 40 := rfl
@[simp] theorem c40_own : c40.own = false := rfl
theorem c40_inj : ∀ u_ v_ : Int × Int, ((fun x => (fun (a : Int) (b : Int) => [dI a, dI b]) x.1 x.2) u_).map nz = ((fun x => (fun (a : Int) (b : Int) => [dI a, dI b]) x.1 x.2) v_).map nz → u_ = v_ := by
  intro u_ v_ h
  obtain ⟨a, b⟩ := u_
  obtain ⟨a', b'⟩ := v_
  simp [nz_lit, nz1_lit, nz_agg, nz_sl, nz1_sl] at h
  first | (simp [h]; done) | (obtain ⟨⟩ := h; simp_all; done) | simp_all
@[simp] theorem c40_fn (a : Int) (b : Int) : c40.fn [.lit (.int .i64 a), .lit (.int .i64 b)] [] = some ((fun (a : Int) (b : Int) => True) a b, (fun (a : Int) (b : Int) => (dI (max a b) : D)) a b, (fun (a : Int) (b : Int) => []) a b) :=
  mkCon_fn (fun x y h _ => c40_inj x y h) ((a, b) : Int × Int) (by simp [nz, nz1, ML_nil]) rfl
theorem c40_pc (a : Int) (b : Int) : PCo Try.prog 40 [dI a, dI b] (Tab.of []) (dI (max a b)) (Tab.of []) := by
  refine pco_of_run [] (E := ⟨[c115, c117], []⟩) (m := false) (base := 0) (Env.ok_cons c115_ok (Env.ok_cons c117_ok Env.ok_nil)) G_ok mix 300 6 Try.func40 (by kernel_rfl) rfl (by kernel_rfl) (by kernel_rfl) rfl ?_
  simp [Try.f40]
  all_goals first | omega | (rw [Bool.eq_iff_iff]; simp; omega) | grind
theorem c40_ok : c40.ok Try.prog := mkCon_ok fun ⟨a, b⟩ hpre => c40_pc a b
/-- loop.example/g03007/laws.toSpan -/
noncomputable def c100 : Con := mkCon 100 false (α := TSpan) (fun x => (fun (s : TSpan) => [encTSpan s]) x) (fun _ => []) (fun x => (fun (s : TSpan) => True) x) (fun x => (fun (s : TSpan) => (encTSpan s : D)) x) (fun x => (fun (s : TSpan) => []) x)
@[simp] theorem c100_f : c100.f = 100 := rfl
@[simp] theorem c100_own : c100.own = false := rfl
theorem c100_inj : ∀ u_ v_ : TSpan, ((fun x => (fun (s : TSpan) => [encTSpan s]) x) u_).map nz = ((fun x => (fun (s : TSpan) => [encTSpan s]) x) v_).map nz → u_ = v_ := by
  intro u_ v_ h
  obtain ⟨s_From, s_Until⟩ := u_
  obtain ⟨s_From', s_Until'⟩ := v_
  simp [nz_lit, nz1_lit, nz_agg, nz_sl, nz1_sl, encTSpan] at h
  first | (simp [h]; done) | (obtain ⟨⟩ := h; simp_all; done) | simp_all
@[simp] theorem c100_fn (s_From : Int) (s_Until : Int) : c100.fn [.agg [.lit (.int .i64 s_From), .lit (.int .i64 s_Until)]] [] = some ((fun (s : TSpan) => True) ⟨s_From, s_Until⟩, (fun (s : TSpan) => (encTSpan s : D)) ⟨s_From, s_Until⟩, (fun (s : TSpan) => []) ⟨s_From, s_Until⟩) :=
  mkCon_fn (fun x y h _ => c100_inj x y h) (⟨s_From, s_Until⟩ : TSpan) (by simp [nz, nz1, ML_nil, encTSpan]) rfl
theorem c100_pc (s : TSpan) : PCo Try.prog 100 [encTSpan s] (Tab.of []) (encTSpan s) (Tab.of []) := by
  obtain ⟨s_From, s_Until⟩ := s
  refine pco_of_run [] (E := ⟨[], []⟩) (m := false) (base := 0) Env.ok_nil G_ok mix 300 6 Try.func100 (by kernel_rfl) rfl (by kernel_rfl) (by kernel_rfl) rfl ?_
  simp [Try.f100]
  all_goals first | omega | (rw [Bool.eq_iff_iff]; simp; omega) | grind
theorem c100_ok : c100.ok Try.prog := mkCon_ok fun s hpre => c100_pc s
/-- loop.example/g03007/laws.eqSpan -/
noncomputable def c104 : Con := mkCon 104 false (α := TSpan × TSpan) (fun x => (fun (a : TSpan) (b : TSpan) => [encTSpan a, encTSpan b]) x.1 x.2) (fun _ => []) (fun x => (fun (a : TSpan) (b : TSpan) => True) x.1 x.2) (fun x => (fun (a : TSpan) (b : TSpan) => (dB (decide (a = b)) : D)) x.1 x.2) (fun x => (fun (a : TSpan) (b : TSpan) => []) x.1 x.2)
@[simp] theorem c104_f : c104.f = 104 := rfl
@[simp] theorem c104_own : c104.own = false := rfl
theorem c104_inj : ∀ u_ v_ : TSpan × TSpan, ((fun x => (fun (a : TSpan) (b : TSpan) => [encTSpan a, encTSpan b]) x.1 x.2) u_).map nz = ((fun x => (fun (a : TSpan) (b : TSpan) => [encTSpan a, encTSpan b]) x.1 x.2) v_).map nz → u_ = v_ := by
  intro u_ v_ h
  obtain ⟨⟨a_From, a_Until⟩, ⟨b_From, b_Until⟩⟩ := u_
  obtain ⟨⟨a_From', a_Until'⟩, ⟨b_From', b_Until'⟩⟩ := v_
  simp [nz_lit, nz1_lit, nz_agg, nz_sl, nz1_sl, encTSpan] at h
  first | (simp [h]; done) | (obtain ⟨⟩ := h; simp_all; done) | simp_all
@[simp] theorem c104_fn (a_From : Int) (a_Until : Int) (b_From : Int) (b_Until : Int) : c104.fn [.agg [.lit (.int .i64 a_From), .lit (.int .i64 a_Until)], .agg [.lit (.int .i64 b_From), .lit (.int .i64 b_Until)]] [] = some ((fun (a : TSpan) (b : TSpan) => True) ⟨a_From, a_Until⟩ ⟨b_From, b_Until⟩, (fun (a : TSpan) (b : TSpan) => (dB (decide (a = b)) : D)) ⟨a_From, a_Until⟩ ⟨b_From, b_Until⟩, (fun (a : TSpan) (b : TSpan) => []) ⟨a_From, a_Until⟩ ⟨b_From, b_Until⟩) :=
  mkCon_fn (fun x y h _ => c104_inj x y h) ((⟨a_From, a_Until⟩, ⟨b_From, b_Until⟩) : TSpan × TSpan) (by simp [nz, nz1, ML_nil, encTSpan]) rfl
theorem c104_pc (a : TSpan) (b : TSpan) : PCo Try.prog 104 [encTSpan a, encTSpan b] (Tab.of []) (dB (decide (a = b))) (Tab.of []) := by
  obtain ⟨a_From, a_Until⟩ := a
  obtain ⟨b_From, b_Until⟩ := b
  refine pco_of_run [] (E := ⟨[], []⟩) (m := false) (base := 0) Env.ok_nil G_ok mix 300 6 Try.func104 (by kernel_rfl) rfl (by kernel_rfl) (by kernel_rfl) rfl ?_
  simp [Try.f104]
  all_goals first | omega | (rw [Bool.eq_iff_iff]; simp; omega) | grind
theorem c104_ok : c104.ok Try.prog := mkCon_ok fun ⟨a, b⟩ hpre => c104_pc a b
def mIsSpan (s : TSpan) : Bool := decide (0 ≤ s.From) && decide (s.From ≤ s.Until) && decide (s.Until ≤ 100000)
/-- loop.example/g03007/spec.IsSpan -/
noncomputable def c99 : Con := mkCon 99 false (α := TSpan) (fun x => (fun (s : TSpan) => [encTSpan s]) x) (fun _ => []) (fun x => (fun (s : TSpan) => True) x) (fun x => (fun (s : TSpan) => (dB (mIsSpan s) : D)) x) (fun x => (fun (s : TSpan) => []) x)
@[simp] theorem c99_f : c99.f = 99 := rfl
@[simp] theorem c99_own : c99.own = false := rfl
theorem c99_inj : ∀ u_ v_ : TSpan, ((fun x => (fun (s : TSpan) => [encTSpan s]) x) u_).map nz = ((fun x => (fun (s : TSpan) => [encTSpan s]) x) v_).map nz → u_ = v_ := by
  intro u_ v_ h
  obtain ⟨s_From, s_Until⟩ := u_
  obtain ⟨s_From', s_Until'⟩ := v_
  simp [nz_lit, nz1_lit, nz_agg, nz_sl, nz1_sl, encTSpan] at h
  first | (simp [h]; done) | (obtain ⟨⟩ := h; simp_all; done) | simp_all
@[simp] theorem c99_fn (s_From : Int) (s_Until : Int) : c99.fn [.agg [.lit (.int .i64 s_From), .lit (.int .i64 s_Until)]] [] = some ((fun (s : TSpan) => True) ⟨s_From, s_Until⟩, (fun (s : TSpan) => (dB (mIsSpan s) : D)) ⟨s_From, s_Until⟩, (fun (s : TSpan) => []) ⟨s_From, s_Until⟩) :=
  mkCon_fn (fun x y h _ => c99_inj x y h) (⟨s_From, s_Until⟩ : TSpan) (by simp [nz, nz1, ML_nil, encTSpan]) rfl
theorem c99_pc (s : TSpan) : PCo Try.prog 99 [encTSpan s] (Tab.of []) (dB (mIsSpan s)) (Tab.of []) := by
  obtain ⟨s_From, s_Until⟩ := s
  refine pco_of_run [] (E := ⟨[c113], []⟩) (m := false) (base := 0) (Env.ok_cons c113_ok Env.ok_nil) G_ok mix 300 6 Try.func99 (by kernel_rfl) rfl (by kernel_rfl) (by kernel_rfl) rfl ?_
  simp [Try.f99]
  rw [Bool.eq_iff_iff]; simp [mIsSpan, mIn]; omega
theorem c99_ok : c99.ok Try.prog := mkCon_ok fun s hpre => c99_pc s
/-- loop.example/g03007/impl.IsSpan -/
noncomputable def c101 : Con := mkCon 101 false (α := TSpan) (fun x => (fun (s : TSpan) => [encTSpan s]) x) (fun _ => []) (fun x => (fun (s : TSpan) => True) x) (fun x => (fun (s : TSpan) => (dB (mIsSpan s) : D)) x) (fun x => (fun (s : TSpan) => []) x)
@[simp] theorem c101_f : c101.f = 101 := rfl
@[simp] theorem c101_own : c101.own = false := rfl
theorem c101_inj : ∀ u_ v_ : TSpan, ((fun x => (fun (s : TSpan) => [encTSpan s]) x) u_).map nz = ((fun x => (fun (s : TSpan) => [encTSpan s]) x) v_).map nz → u_ = v_ := by
  intro u_ v_ h
  obtain ⟨s_From, s_Until⟩ := u_
  obtain ⟨s_From', s_Until'⟩ := v_
  simp [nz_lit, nz1_lit, nz_agg, nz_sl, nz1_sl, encTSpan] at h
  first | (simp [h]; done) | (obtain ⟨⟩ := h; simp_all; done) | simp_all
@[simp] theorem c101_fn (s_From : Int) (s_Until : Int) : c101.fn [.agg [.lit (.int .i64 s_From), .lit (.int .i64 s_Until)]] [] = some ((fun (s : TSpan) => True) ⟨s_From, s_Until⟩, (fun (s : TSpan) => (dB (mIsSpan s) : D)) ⟨s_From, s_Until⟩, (fun (s : TSpan) => []) ⟨s_From, s_Until⟩) :=
  mkCon_fn (fun x y h _ => c101_inj x y h) (⟨s_From, s_Until⟩ : TSpan) (by simp [nz, nz1, ML_nil, encTSpan]) rfl
theorem c101_pc (s : TSpan) : PCo Try.prog 101 [encTSpan s] (Tab.of []) (dB (mIsSpan s)) (Tab.of []) := by
  obtain ⟨s_From, s_Until⟩ := s
  refine pco_of_run [] (E := ⟨[], []⟩) (m := false) (base := 0) Env.ok_nil G_ok mix 300 6 Try.func101 (by kernel_rfl) rfl (by kernel_rfl) (by kernel_rfl) rfl ?_
  simp [Try.f101]
  simp [mIsSpan]
theorem c101_ok : c101.ok Try.prog := mkCon_ok fun s hpre => c101_pc s
def okS (ok : Bool) (s d : TSpan) : TSpan := if ok then s else d
@[simp] theorem okS_t (s d : TSpan) : okS true s d = s := rfl
@[simp] theorem okS_f (s d : TSpan) : okS false s d = d := rfl
@[simp] def rSpan (ok : Bool) (s d : TSpan) : D := .tup [encTSpan (okS ok s d), dB ok]
def mMeet (a b : TSpan) : TSpan := ⟨max a.From b.From, min a.Until b.Until⟩
def mHull (a b : TSpan) : TSpan := ⟨min a.From b.From, max a.Until b.Until⟩
def kMeet (a b : TSpan) : Bool := mIsSpan a && mIsSpan b && mIsSpan (mMeet a b)
/-- loop.example/g03007/spec.Meet -/
noncomputable def c102 : Con := mkCon 102 false (α := TSpan × TSpan) (fun x => (fun (a : TSpan) (b : TSpan) => [encTSpan a, encTSpan b]) x.1 x.2) (fun _ => []) (fun x => (fun (a : TSpan) (b : TSpan) => True) x.1 x.2) (fun x => (fun (a : TSpan) (b : TSpan) => (rSpan (kMeet a b) (mMeet a b) ⟨0, 0⟩ : D)) x.1 x.2) (fun x => (fun (a : TSpan) (b : TSpan) => []) x.1 x.2)
@[simp] theorem c102_f : c102.f = 102 := rfl
@[simp] theorem c102_own : c102.own = false := rfl
theorem c102_inj : ∀ u_ v_ : TSpan × TSpan, ((fun x => (fun (a : TSpan) (b : TSpan) => [encTSpan a, encTSpan b]) x.1 x.2) u_).map nz = ((fun x => (fun (a : TSpan) (b : TSpan) => [encTSpan a, encTSpan b]) x.1 x.2) v_).map nz → u_ = v_ := by
  intro u_ v_ h
  obtain ⟨⟨a_From, a_Until⟩, ⟨b_From, b_Until⟩⟩ := u_
  obtain ⟨⟨a_From', a_Until'⟩, ⟨b_From', b_Until'⟩⟩ := v_
  simp [nz_lit, nz1_lit, nz_agg, nz_sl, nz1_sl, encTSpan] at h
  first | (simp [h]; done) | (obtain ⟨⟩ := h; simp_all; done) | simp_all
@[simp] theorem c102_fn (a_From : Int) (a_Until : Int) (b_From : Int) (b_Until : Int) : c102.fn [.agg [.lit (.int .i64 a_From), .lit (.int .i64 a_Until)], .agg [.lit (.int .i64 b_From), .lit (.int .i64 b_Until)]] [] = some ((fun (a : TSpan) (b : TSpan) => True) ⟨a_From, a_Until⟩ ⟨b_From, b_Until⟩, (fun (a : TSpan) (b : TSpan) => (rSpan (kMeet a b) (mMeet a b) ⟨0, 0⟩ : D)) ⟨a_From, a_Until⟩ ⟨b_From, b_Until⟩, (fun (a : TSpan) (b : TSpan) => []) ⟨a_From, a_Until⟩ ⟨b_From, b_Until⟩) :=
  mkCon_fn (fun x y h _ => c102_inj x y h) ((⟨a_From, a_Until⟩, ⟨b_From, b_Until⟩) : TSpan × TSpan) (by simp [nz, nz1, ML_nil, encTSpan]) rfl
theorem c102_pc (a : TSpan) (b : TSpan) : PCo Try.prog 102 [encTSpan a, encTSpan b] (Tab.of []) (rSpan (kMeet a b) (mMeet a b) ⟨0, 0⟩) (Tab.of []) := by
  obtain ⟨a_From, a_Until⟩ := a
  obtain ⟨b_From, b_Until⟩ := b
  refine pco_of_run [1] (E := ⟨[c37, c39, c99], []⟩) (m := false) (base := 0) (Env.ok_cons c37_ok (Env.ok_cons c39_ok (Env.ok_cons c99_ok Env.ok_nil))) G_ok mix 300 6 Try.func102 (by kernel_rfl) rfl (by kernel_rfl) (by kernel_rfl) rfl ?_
  simp [Try.f102]
  refine ⟨fun h => ?_, fun h1 h2 h3 => ?_⟩
  · have : kMeet ⟨a_From, a_Until⟩ ⟨b_From, b_Until⟩ = false := by simp [kMeet, mMeet]; grind
    simp [this]
  · have : kMeet ⟨a_From, a_Until⟩ ⟨b_From, b_Until⟩ = true := by simp [kMeet, mMeet, *]
    simp [this, mMeet]
theorem c102_ok : c102.ok Try.prog := mkCon_ok fun ⟨a, b⟩ hpre => c102_pc a b
def kHull (a b : TSpan) : Bool := mIsSpan a && mIsSpan b
/-- loop.example/g03007/spec.Hull -/
noncomputable def c105 : Con := mkCon 105 false (α := TSpan × TSpan) (fun x => (fun (a : TSpan) (b : TSpan) => [encTSpan a, encTSpan b]) x.1 x.2) (fun _ => []) (fun x => (fun (a : TSpan) (b : TSpan) => True) x.1 x.2) (fun x => (fun (a : TSpan) (b : TSpan) => (rSpan (kHull a b) (mHull a b) ⟨0, 0⟩ : D)) x.1 x.2) (fun x => (fun (a : TSpan) (b : TSpan) => []) x.1 x.2)
@[simp] theorem c105_f : c105.f = 105 := rfl
@[simp] theorem c105_own : c105.own = false := rfl
theorem c105_inj : ∀ u_ v_ : TSpan × TSpan, ((fun x => (fun (a : TSpan) (b : TSpan) => [encTSpan a, encTSpan b]) x.1 x.2) u_).map nz = ((fun x => (fun (a : TSpan) (b : TSpan) => [encTSpan a, encTSpan b]) x.1 x.2) v_).map nz → u_ = v_ := by
  intro u_ v_ h
  obtain ⟨⟨a_From, a_Until⟩, ⟨b_From, b_Until⟩⟩ := u_
  obtain ⟨⟨a_From', a_Until'⟩, ⟨b_From', b_Until'⟩⟩ := v_
  simp [nz_lit, nz1_lit, nz_agg, nz_sl, nz1_sl, encTSpan] at h
  first | (simp [h]; done) | (obtain ⟨⟩ := h; simp_all; done) | simp_all
@[simp] theorem c105_fn (a_From : Int) (a_Until : Int) (b_From : Int) (b_Until : Int) : c105.fn [.agg [.lit (.int .i64 a_From), .lit (.int .i64 a_Until)], .agg [.lit (.int .i64 b_From), .lit (.int .i64 b_Until)]] [] = some ((fun (a : TSpan) (b : TSpan) => True) ⟨a_From, a_Until⟩ ⟨b_From, b_Until⟩, (fun (a : TSpan) (b : TSpan) => (rSpan (kHull a b) (mHull a b) ⟨0, 0⟩ : D)) ⟨a_From, a_Until⟩ ⟨b_From, b_Until⟩, (fun (a : TSpan) (b : TSpan) => []) ⟨a_From, a_Until⟩ ⟨b_From, b_Until⟩) :=
  mkCon_fn (fun x y h _ => c105_inj x y h) ((⟨a_From, a_Until⟩, ⟨b_From, b_Until⟩) : TSpan × TSpan) (by simp [nz, nz1, ML_nil, encTSpan]) rfl
theorem c105_pc (a : TSpan) (b : TSpan) : PCo Try.prog 105 [encTSpan a, encTSpan b] (Tab.of []) (rSpan (kHull a b) (mHull a b) ⟨0, 0⟩) (Tab.of []) := by
  obtain ⟨a_From, a_Until⟩ := a
  obtain ⟨b_From, b_Until⟩ := b
  refine pco_of_run [3] (E := ⟨[c37, c39, c99], []⟩) (m := false) (base := 0) (Env.ok_cons c37_ok (Env.ok_cons c39_ok (Env.ok_cons c99_ok Env.ok_nil))) G_ok mix 300 6 Try.func105 (by kernel_rfl) rfl (by kernel_rfl) (by kernel_rfl) rfl ?_
  simp [Try.f105]
  refine ⟨fun h => ?_, fun h1 h2 => ?_⟩
  · have : kHull ⟨a_From, a_Until⟩ ⟨b_From, b_Until⟩ = false := by simp [kHull]; grind
    simp [this]
  · have : kHull ⟨a_From, a_Until⟩ ⟨b_From, b_Until⟩ = true := by simp [kHull, *]
    simp [this, mHull]
theorem c105_ok : c105.ok Try.prog := mkCon_ok fun ⟨a, b⟩ hpre => c105_pc a b
def kWiden (s : TSpan) (n : Int) : Bool := mIsSpan s && mIn n 0 100000
def mWiden (s : TSpan) (n : Int) : TSpan := ⟨max (s.From - n) 0, min (s.Until + n) 100000⟩
theorem isSpan_of {s : TSpan} (h : mIsSpan s = true) : 0 ≤ s.From ∧ s.From ≤ s.Until ∧ s.Until ≤ 100000 := by
  simp [mIsSpan] at h; omega
theorem in_of {x y z : Int} (h : mIn x y z = true) : y ≤ x ∧ x ≤ z := by
  simp [mIn] at h; exact h
/-- loop.example/g03007/spec.Widen -/
noncomputable def c107 : Con := mkCon 107 false (α := TSpan × Int) (fun x => (fun (s : TSpan) (n : Int) => [encTSpan s, dI n]) x.1 x.2) (fun _ => []) (fun x => (fun (s : TSpan) (n : Int) => True) x.1 x.2) (fun x => (fun (s : TSpan) (n : Int) => (rSpan (kWiden s n) (mWiden s n) s : D)) x.1 x.2) (fun x => (fun (s : TSpan) (n : Int) => []) x.1 x.2)
@[simp] theorem c107_f : c107.f = 107 := rfl
@[simp] theorem c107_own : c107.own = false := rfl
theorem c107_inj : ∀ u_ v_ : TSpan × Int, ((fun x => (fun (s : TSpan) (n : Int) => [encTSpan s, dI n]) x.1 x.2) u_).map nz = ((fun x => (fun (s : TSpan) (n : Int) => [encTSpan s, dI n]) x.1 x.2) v_).map nz → u_ = v_ := by
  intro u_ v_ h
  obtain ⟨⟨s_From, s_Until⟩, n⟩ := u_
  obtain ⟨⟨s_From', s_Until'⟩, n'⟩ := v_
  simp [nz_lit, nz1_lit, nz_agg, nz_sl, nz1_sl, encTSpan] at h
  first | (simp [h]; done) | (obtain ⟨⟩ := h; simp_all; done) | simp_all
@[simp] theorem c107_fn (s_From : Int) (s_Until : Int) (n : Int) : c107.fn [.agg [.lit (.int .i64 s_From), .lit (.int .i64 s_Until)], .lit (.int .i64 n)] [] = some ((fun (s : TSpan) (n : Int) => True) ⟨s_From, s_Until⟩ n, (fun (s : TSpan) (n : Int) => (rSpan (kWiden s n) (mWiden s n) s : D)) ⟨s_From, s_Until⟩ n, (fun (s : TSpan) (n : Int) => []) ⟨s_From, s_Until⟩ n) :=
  mkCon_fn (fun x y h _ => c107_inj x y h) ((⟨s_From, s_Until⟩, n) : TSpan × Int) (by simp [nz, nz1, ML_nil, encTSpan]) rfl
theorem c107_pc (s : TSpan) (n : Int) : PCo Try.prog 107 [encTSpan s, dI n] (Tab.of []) (rSpan (kWiden s n) (mWiden s n) s) (Tab.of []) := by
  obtain ⟨s_From, s_Until⟩ := s
  refine pco_of_run [3] (E := ⟨[c37, c39, c99, c113], []⟩) (m := false) (base := 0) (Env.ok_cons c37_ok (Env.ok_cons c39_ok (Env.ok_cons c99_ok (Env.ok_cons c113_ok Env.ok_nil)))) G_ok mix 300 6 Try.func107 (by kernel_rfl) rfl (by kernel_rfl) (by kernel_rfl) rfl ?_
  simp [Try.f107]
  refine ⟨fun h => ?_, fun h1 h2 => ?_⟩
  · have : kWiden ⟨s_From, s_Until⟩ n = false := by simp [kWiden]; grind
    simp [this]
  · have : kWiden ⟨s_From, s_Until⟩ n = true := by simp [kWiden, *]
    have h3 := isSpan_of h1
    have h4 := in_of h2
    simp [this, mWiden] at h3 h4 ⊢
    omega
theorem c107_ok : c107.ok Try.prog := mkCon_ok fun ⟨s, n⟩ hpre => c107_pc s n
def mHolds (s : TSpan) (h : Int) : Bool := mIsSpan s && mIn h s.From s.Until
/-- loop.example/g03007/spec.Holds -/
noncomputable def c109 : Con := mkCon 109 false (α := TSpan × Int) (fun x => (fun (s : TSpan) (h : Int) => [encTSpan s, dI h]) x.1 x.2) (fun _ => []) (fun x => (fun (s : TSpan) (h : Int) => True) x.1 x.2) (fun x => (fun (s : TSpan) (h : Int) => (dB (mHolds s h) : D)) x.1 x.2) (fun x => (fun (s : TSpan) (h : Int) => []) x.1 x.2)
@[simp] theorem c109_f : c109.f = 109 := rfl
@[simp] theorem c109_own : c109.own = false := rfl
theorem c109_inj : ∀ u_ v_ : TSpan × Int, ((fun x => (fun (s : TSpan) (h : Int) => [encTSpan s, dI h]) x.1 x.2) u_).map nz = ((fun x => (fun (s : TSpan) (h : Int) => [encTSpan s, dI h]) x.1 x.2) v_).map nz → u_ = v_ := by
  intro u_ v_ h
  obtain ⟨⟨s_From, s_Until⟩, h⟩ := u_
  obtain ⟨⟨s_From', s_Until'⟩, h'⟩ := v_
  simp [nz_lit, nz1_lit, nz_agg, nz_sl, nz1_sl, encTSpan] at h
  first | (simp [h]; done) | (obtain ⟨⟩ := h; simp_all; done) | simp_all
@[simp] theorem c109_fn (s_From : Int) (s_Until : Int) (h : Int) : c109.fn [.agg [.lit (.int .i64 s_From), .lit (.int .i64 s_Until)], .lit (.int .i64 h)] [] = some ((fun (s : TSpan) (h : Int) => True) ⟨s_From, s_Until⟩ h, (fun (s : TSpan) (h : Int) => (dB (mHolds s h) : D)) ⟨s_From, s_Until⟩ h, (fun (s : TSpan) (h : Int) => []) ⟨s_From, s_Until⟩ h) :=
  mkCon_fn (fun x y h _ => c109_inj x y h) ((⟨s_From, s_Until⟩, h) : TSpan × Int) (by simp [nz, nz1, ML_nil, encTSpan]) rfl
theorem c109_pc (s : TSpan) (h : Int) : PCo Try.prog 109 [encTSpan s, dI h] (Tab.of []) (dB (mHolds s h)) (Tab.of []) := by
  obtain ⟨s_From, s_Until⟩ := s
  refine pco_of_run [] (E := ⟨[c99, c113], []⟩) (m := false) (base := 0) (Env.ok_cons c99_ok (Env.ok_cons c113_ok Env.ok_nil)) G_ok mix 300 6 Try.func109 (by kernel_rfl) rfl (by kernel_rfl) (by kernel_rfl) rfl ?_
  simp [Try.f109]
  simp [mHolds]
theorem c109_ok : c109.ok Try.prog := mkCon_ok fun ⟨s, h⟩ hpre => c109_pc s h
/-- loop.example/g03007/impl.Holds -/
noncomputable def c110 : Con := mkCon 110 false (α := TSpan × Int) (fun x => (fun (s : TSpan) (h : Int) => [encTSpan s, dI h]) x.1 x.2) (fun _ => []) (fun x => (fun (s : TSpan) (h : Int) => True) x.1 x.2) (fun x => (fun (s : TSpan) (h : Int) => (dB (mHolds s h) : D)) x.1 x.2) (fun x => (fun (s : TSpan) (h : Int) => []) x.1 x.2)
@[simp] theorem c110_f : c110.f = 110 := rfl
@[simp] theorem c110_own : c110.own = false := rfl
theorem c110_inj : ∀ u_ v_ : TSpan × Int, ((fun x => (fun (s : TSpan) (h : Int) => [encTSpan s, dI h]) x.1 x.2) u_).map nz = ((fun x => (fun (s : TSpan) (h : Int) => [encTSpan s, dI h]) x.1 x.2) v_).map nz → u_ = v_ := by
  intro u_ v_ h
  obtain ⟨⟨s_From, s_Until⟩, h⟩ := u_
  obtain ⟨⟨s_From', s_Until'⟩, h'⟩ := v_
  simp [nz_lit, nz1_lit, nz_agg, nz_sl, nz1_sl, encTSpan] at h
  first | (simp [h]; done) | (obtain ⟨⟩ := h; simp_all; done) | simp_all
@[simp] theorem c110_fn (s_From : Int) (s_Until : Int) (h : Int) : c110.fn [.agg [.lit (.int .i64 s_From), .lit (.int .i64 s_Until)], .lit (.int .i64 h)] [] = some ((fun (s : TSpan) (h : Int) => True) ⟨s_From, s_Until⟩ h, (fun (s : TSpan) (h : Int) => (dB (mHolds s h) : D)) ⟨s_From, s_Until⟩ h, (fun (s : TSpan) (h : Int) => []) ⟨s_From, s_Until⟩ h) :=
  mkCon_fn (fun x y h _ => c110_inj x y h) ((⟨s_From, s_Until⟩, h) : TSpan × Int) (by simp [nz, nz1, ML_nil, encTSpan]) rfl
theorem c110_pc (s : TSpan) (h : Int) : PCo Try.prog 110 [encTSpan s, dI h] (Tab.of []) (dB (mHolds s h)) (Tab.of []) := by
  obtain ⟨s_From, s_Until⟩ := s
  refine pco_of_run [] (E := ⟨[c46, c101], []⟩) (m := false) (base := 0) (Env.ok_cons c46_ok (Env.ok_cons c101_ok Env.ok_nil)) G_ok mix 300 6 Try.func110 (by kernel_rfl) rfl (by kernel_rfl) (by kernel_rfl) rfl ?_
  simp [Try.f110]
  simp [mHolds]
theorem c110_ok : c110.ok Try.prog := mkCon_ok fun ⟨s, h⟩ hpre => c110_pc s h
def mHours (s : TSpan) : Int := if mIsSpan s then s.Until - s.From + 1 else 0
/-- loop.example/g03007/spec.Hours -/
noncomputable def c111 : Con := mkCon 111 false (α := TSpan) (fun x => (fun (s : TSpan) => [encTSpan s]) x) (fun _ => []) (fun x => (fun (s : TSpan) => True) x) (fun x => (fun (s : TSpan) => (dI (mHours s) : D)) x) (fun x => (fun (s : TSpan) => []) x)
@[simp] theorem c111_f : c111.f = 111 := rfl
@[simp] theorem c111_own : c111.own = false := rfl
theorem c111_inj : ∀ u_ v_ : TSpan, ((fun x => (fun (s : TSpan) => [encTSpan s]) x) u_).map nz = ((fun x => (fun (s : TSpan) => [encTSpan s]) x) v_).map nz → u_ = v_ := by
  intro u_ v_ h
  obtain ⟨s_From, s_Until⟩ := u_
  obtain ⟨s_From', s_Until'⟩ := v_
  simp [nz_lit, nz1_lit, nz_agg, nz_sl, nz1_sl, encTSpan] at h
  first | (simp [h]; done) | (obtain ⟨⟩ := h; simp_all; done) | simp_all
@[simp] theorem c111_fn (s_From : Int) (s_Until : Int) : c111.fn [.agg [.lit (.int .i64 s_From), .lit (.int .i64 s_Until)]] [] = some ((fun (s : TSpan) => True) ⟨s_From, s_Until⟩, (fun (s : TSpan) => (dI (mHours s) : D)) ⟨s_From, s_Until⟩, (fun (s : TSpan) => []) ⟨s_From, s_Until⟩) :=
  mkCon_fn (fun x y h _ => c111_inj x y h) (⟨s_From, s_Until⟩ : TSpan) (by simp [nz, nz1, ML_nil, encTSpan]) rfl
theorem c111_pc (s : TSpan) : PCo Try.prog 111 [encTSpan s] (Tab.of []) (dI (mHours s)) (Tab.of []) := by
  obtain ⟨s_From, s_Until⟩ := s
  refine pco_of_run [] (E := ⟨[c99], []⟩) (m := false) (base := 0) (Env.ok_cons c99_ok Env.ok_nil) G_ok mix 300 6 Try.func111 (by kernel_rfl) rfl (by kernel_rfl) (by kernel_rfl) rfl ?_
  simp [Try.f111]
  refine ⟨fun h => ?_, fun h => ?_⟩
  · simp [mHours, h]
  · have h3 := isSpan_of h
    simp [mHours, h] at h3 ⊢
    omega
theorem c111_ok : c111.ok Try.prog := mkCon_ok fun s hpre => c111_pc s
/-- loop.example/g03007/impl.Hours -/
noncomputable def c112 : Con := mkCon 112 false (α := TSpan) (fun x => (fun (s : TSpan) => [encTSpan s]) x) (fun _ => []) (fun x => (fun (s : TSpan) => True) x) (fun x => (fun (s : TSpan) => (dI (mHours s) : D)) x) (fun x => (fun (s : TSpan) => []) x)
@[simp] theorem c112_f : c112.f = 112 := rfl
@[simp] theorem c112_own : c112.own = false := rfl
theorem c112_inj : ∀ u_ v_ : TSpan, ((fun x => (fun (s : TSpan) => [encTSpan s]) x) u_).map nz = ((fun x => (fun (s : TSpan) => [encTSpan s]) x) v_).map nz → u_ = v_ := by
  intro u_ v_ h
  obtain ⟨s_From, s_Until⟩ := u_
  obtain ⟨s_From', s_Until'⟩ := v_
  simp [nz_lit, nz1_lit, nz_agg, nz_sl, nz1_sl, encTSpan] at h
  first | (simp [h]; done) | (obtain ⟨⟩ := h; simp_all; done) | simp_all
@[simp] theorem c112_fn (s_From : Int) (s_Until : Int) : c112.fn [.agg [.lit (.int .i64 s_From), .lit (.int .i64 s_Until)]] [] = some ((fun (s : TSpan) => True) ⟨s_From, s_Until⟩, (fun (s : TSpan) => (dI (mHours s) : D)) ⟨s_From, s_Until⟩, (fun (s : TSpan) => []) ⟨s_From, s_Until⟩) :=
  mkCon_fn (fun x y h _ => c112_inj x y h) (⟨s_From, s_Until⟩ : TSpan) (by simp [nz, nz1, ML_nil, encTSpan]) rfl
theorem c112_pc (s : TSpan) : PCo Try.prog 112 [encTSpan s] (Tab.of []) (dI (mHours s)) (Tab.of []) := by
  obtain ⟨s_From, s_Until⟩ := s
  refine pco_of_run [] (E := ⟨[c101], []⟩) (m := false) (base := 0) (Env.ok_cons c101_ok Env.ok_nil) G_ok mix 300 6 Try.func112 (by kernel_rfl) rfl (by kernel_rfl) (by kernel_rfl) rfl ?_
  simp [Try.f112]
  refine ⟨fun h => ?_, fun h => ?_⟩
  · simp [mHours, h]
  · have h3 := isSpan_of h
    simp [mHours, h] at h3 ⊢
    omega
theorem c112_ok : c112.ok Try.prog := mkCon_ok fun s hpre => c112_pc s
/-- (loop.example/g03007/impl.Span).meet -/
noncomputable def c152 : Con := mkCon 152 false (α := TSpan × TSpan) (fun x => (fun (s : TSpan) (o : TSpan) => [encTSpan s, encTSpan o]) x.1 x.2) (fun _ => []) (fun x => (fun (s : TSpan) (o : TSpan) => True) x.1 x.2) (fun x => (fun (s : TSpan) (o : TSpan) => (encTSpan (mMeet s o) : D)) x.1 x.2) (fun x => (fun (s : TSpan) (o : TSpan) => []) x.1 x.2)
@[simp] theorem c152_f : c152.f = 152 := rfl
@[simp] theorem c152_own : c152.own = false := rfl
theorem c152_inj : ∀ u_ v_ : TSpan × TSpan, ((fun x => (fun (s : TSpan) (o : TSpan) => [encTSpan s, encTSpan o]) x.1 x.2) u_).map nz = ((fun x => (fun (s : TSpan) (o : TSpan) => [encTSpan s, encTSpan o]) x.1 x.2) v_).map nz → u_ = v_ := by
  intro u_ v_ h
  obtain ⟨⟨s_From, s_Until⟩, ⟨o_From, o_Until⟩⟩ := u_
  obtain ⟨⟨s_From', s_Until'⟩, ⟨o_From', o_Until'⟩⟩ := v_
  simp [nz_lit, nz1_lit, nz_agg, nz_sl, nz1_sl, encTSpan] at h
  first | (simp [h]; done) | (obtain ⟨⟩ := h; simp_all; done) | simp_all
@[simp] theorem c152_fn (s_From : Int) (s_Until : Int) (o_From : Int) (o_Until : Int) : c152.fn [.agg [.lit (.int .i64 s_From), .lit (.int .i64 s_Until)], .agg [.lit (.int .i64 o_From), .lit (.int .i64 o_Until)]] [] = some ((fun (s : TSpan) (o : TSpan) => True) ⟨s_From, s_Until⟩ ⟨o_From, o_Until⟩, (fun (s : TSpan) (o : TSpan) => (encTSpan (mMeet s o) : D)) ⟨s_From, s_Until⟩ ⟨o_From, o_Until⟩, (fun (s : TSpan) (o : TSpan) => []) ⟨s_From, s_Until⟩ ⟨o_From, o_Until⟩) :=
  mkCon_fn (fun x y h _ => c152_inj x y h) ((⟨s_From, s_Until⟩, ⟨o_From, o_Until⟩) : TSpan × TSpan) (by simp [nz, nz1, ML_nil, encTSpan]) rfl
theorem c152_pc (s : TSpan) (o : TSpan) : PCo Try.prog 152 [encTSpan s, encTSpan o] (Tab.of []) (encTSpan (mMeet s o)) (Tab.of []) := by
  obtain ⟨s_From, s_Until⟩ := s
  obtain ⟨o_From, o_Until⟩ := o
  refine pco_of_run [1] (E := ⟨[c38, c40], []⟩) (m := false) (base := 0) (Env.ok_cons c38_ok (Env.ok_cons c40_ok Env.ok_nil)) G_ok mix 300 6 Try.func152 (by kernel_rfl) rfl (by kernel_rfl) (by kernel_rfl) rfl ?_
  simp [Try.f152]
  simp [mMeet]
theorem c152_ok : c152.ok Try.prog := mkCon_ok fun ⟨s, o⟩ hpre => c152_pc s o
/-- (loop.example/g03007/impl.meeting).applyTo -/
noncomputable def c153 : Con := mkCon 153 false (α := TMeeting × TSpan) (fun x => (fun (c : TMeeting) (s : TSpan) => [encTMeeting c, encTSpan s]) x.1 x.2) (fun _ => []) (fun x => (fun (c : TMeeting) (s : TSpan) => True) x.1 x.2) (fun x => (fun (c : TMeeting) (s : TSpan) => (encTSpan (mMeet s c.with_) : D)) x.1 x.2) (fun x => (fun (c : TMeeting) (s : TSpan) => []) x.1 x.2)
@[simp] theorem c153_f : c153.f = 153 := rfl
@[simp] theorem c153_own : c153.own = false := rfl
theorem c153_inj : ∀ u_ v_ : TMeeting × TSpan, ((fun x => (fun (c : TMeeting) (s : TSpan) => [encTMeeting c, encTSpan s]) x.1 x.2) u_).map nz = ((fun x => (fun (c : TMeeting) (s : TSpan) => [encTMeeting c, encTSpan s]) x.1 x.2) v_).map nz → u_ = v_ := by
  intro u_ v_ h
  obtain ⟨⟨⟨c_with__From, c_with__Until⟩⟩, ⟨s_From, s_Until⟩⟩ := u_
  obtain ⟨⟨⟨c_with__From', c_with__Until'⟩⟩, ⟨s_From', s_Until'⟩⟩ := v_
  simp [nz_lit, nz1_lit, nz_agg, nz_sl, nz1_sl, encTMeeting, encTSpan] at h
  first | (simp [h]; done) | (obtain ⟨⟩ := h; simp_all; done) | simp_all
@[simp] theorem c153_fn (c_with__From : Int) (c_with__Until : Int) (s_From : Int) (s_Until : Int) : c153.fn [.agg [.lit (.int .i64 c_with__From), .lit (.int .i64 c_with__Until)], .agg [.lit (.int .i64 s_From), .lit (.int .i64 s_Until)]] [] = some ((fun (c : TMeeting) (s : TSpan) => True) ⟨⟨c_with__From, c_with__Until⟩⟩ ⟨s_From, s_Until⟩, (fun (c : TMeeting) (s : TSpan) => (encTSpan (mMeet s c.with_) : D)) ⟨⟨c_with__From, c_with__Until⟩⟩ ⟨s_From, s_Until⟩, (fun (c : TMeeting) (s : TSpan) => []) ⟨⟨c_with__From, c_with__Until⟩⟩ ⟨s_From, s_Until⟩) :=
  mkCon_fn (fun x y h _ => c153_inj x y h) ((⟨⟨c_with__From, c_with__Until⟩⟩, ⟨s_From, s_Until⟩) : TMeeting × TSpan) (by simp [nz, nz1, ML_nil, encTMeeting, encTSpan]) rfl
theorem c153_pc (c : TMeeting) (s : TSpan) : PCo Try.prog 153 [encTMeeting c, encTSpan s] (Tab.of []) (encTSpan (mMeet s c.with_)) (Tab.of []) := by
  obtain ⟨⟨c_with__From, c_with__Until⟩⟩ := c
  obtain ⟨s_From, s_Until⟩ := s
  refine pco_of_run [] (E := ⟨[c152], []⟩) (m := false) (base := 0) (Env.ok_cons c152_ok Env.ok_nil) G_ok mix 300 6 Try.func153 (by kernel_rfl) rfl (by kernel_rfl) (by kernel_rfl) rfl ?_
  simp [Try.f153]
  trace_state
theorem c153_ok : c153.ok Try.prog := mkCon_ok fun ⟨c, s⟩ hpre => c153_pc c s
/-- (loop.example/g03007/impl.covering).applyTo -/
noncomputable def c154 : Con := mkCon 154 false (α := TMeeting × TSpan) (fun x => (fun (c : TMeeting) (s : TSpan) => [encTMeeting c, encTSpan s]) x.1 x.2) (fun _ => []) (fun x => (fun (c : TMeeting) (s : TSpan) => True) x.1 x.2) (fun x => (fun (c : TMeeting) (s : TSpan) => (encTSpan (mHull s c.with_) : D)) x.1 x.2) (fun x => (fun (c : TMeeting) (s : TSpan) => []) x.1 x.2)
@[simp] theorem c154_f : c154.f = 154 := rfl
@[simp] theorem c154_own : c154.own = false := rfl
theorem c154_inj : ∀ u_ v_ : TMeeting × TSpan, ((fun x => (fun (c : TMeeting) (s : TSpan) => [encTMeeting c, encTSpan s]) x.1 x.2) u_).map nz = ((fun x => (fun (c : TMeeting) (s : TSpan) => [encTMeeting c, encTSpan s]) x.1 x.2) v_).map nz → u_ = v_ := by
  intro u_ v_ h
  obtain ⟨⟨⟨c_with__From, c_with__Until⟩⟩, ⟨s_From, s_Until⟩⟩ := u_
  obtain ⟨⟨⟨c_with__From', c_with__Until'⟩⟩, ⟨s_From', s_Until'⟩⟩ := v_
  simp [nz_lit, nz1_lit, nz_agg, nz_sl, nz1_sl, encTMeeting, encTSpan] at h
  first | (simp [h]; done) | (obtain ⟨⟩ := h; simp_all; done) | simp_all
@[simp] theorem c154_fn (c_with__From : Int) (c_with__Until : Int) (s_From : Int) (s_Until : Int) : c154.fn [.agg [.lit (.int .i64 c_with__From), .lit (.int .i64 c_with__Until)], .agg [.lit (.int .i64 s_From), .lit (.int .i64 s_Until)]] [] = some ((fun (c : TMeeting) (s : TSpan) => True) ⟨⟨c_with__From, c_with__Until⟩⟩ ⟨s_From, s_Until⟩, (fun (c : TMeeting) (s : TSpan) => (encTSpan (mHull s c.with_) : D)) ⟨⟨c_with__From, c_with__Until⟩⟩ ⟨s_From, s_Until⟩, (fun (c : TMeeting) (s : TSpan) => []) ⟨⟨c_with__From, c_with__Until⟩⟩ ⟨s_From, s_Until⟩) :=
  mkCon_fn (fun x y h _ => c154_inj x y h) ((⟨⟨c_with__From, c_with__Until⟩⟩, ⟨s_From, s_Until⟩) : TMeeting × TSpan) (by simp [nz, nz1, ML_nil, encTMeeting, encTSpan]) rfl
theorem c154_pc (c : TMeeting) (s : TSpan) : PCo Try.prog 154 [encTMeeting c, encTSpan s] (Tab.of []) (encTSpan (mHull s c.with_)) (Tab.of []) := by
  obtain ⟨⟨c_with__From, c_with__Until⟩⟩ := c
  obtain ⟨s_From, s_Until⟩ := s
  refine pco_of_run [1] (E := ⟨[c38, c40], []⟩) (m := false) (base := 0) (Env.ok_cons c38_ok (Env.ok_cons c40_ok Env.ok_nil)) G_ok mix 300 6 Try.func154 (by kernel_rfl) rfl (by kernel_rfl) (by kernel_rfl) rfl ?_
  simp [Try.f154]
  simp [mHull]
theorem c154_ok : c154.ok Try.prog := mkCon_ok fun ⟨c, s⟩ hpre => c154_pc c s
/-- (loop.example/g03007/impl.widening).applyTo -/
noncomputable def c155 : Con := mkCon 155 false (α := TWidening × TSpan) (fun x => (fun (c : TWidening) (s : TSpan) => [encTWidening c, encTSpan s]) x.1 x.2) (fun _ => []) (fun x => (fun (c : TWidening) (s : TSpan) => mIsSpan s = true ∧ mIn c.by_ 0 100000 = true) x.1 x.2) (fun x => (fun (c : TWidening) (s : TSpan) => (encTSpan (mWiden s c.by_) : D)) x.1 x.2) (fun x => (fun (c : TWidening) (s : TSpan) => []) x.1 x.2)
@[simp] theorem c155_f : c155.f = 155 := rfl
@[simp] theorem c155_own : c155.own = false := rfl
theorem c155_inj : ∀ u_ v_ : TWidening × TSpan, ((fun x => (fun (c : TWidening) (s : TSpan) => [encTWidening c, encTSpan s]) x.1 x.2) u_).map nz = ((fun x => (fun (c : TWidening) (s : TSpan) => [encTWidening c, encTSpan s]) x.1 x.2) v_).map nz → u_ = v_ := by
  intro u_ v_ h
  obtain ⟨⟨c_by_⟩, ⟨s_From, s_Until⟩⟩ := u_
  obtain ⟨⟨c_by_'⟩, ⟨s_From', s_Until'⟩⟩ := v_
  simp [nz_lit, nz1_lit, nz_agg, nz_sl, nz1_sl, encTSpan, encTWidening] at h
  first | (simp [h]; done) | (obtain ⟨⟩ := h; simp_all; done) | simp_all
@[simp] theorem c155_fn (c_by_ : Int) (s_From : Int) (s_Until : Int) : c155.fn [.agg [.lit (.int .i64 c_by_)], .agg [.lit (.int .i64 s_From), .lit (.int .i64 s_Until)]] [] = some ((fun (c : TWidening) (s : TSpan) => mIsSpan s = true ∧ mIn c.by_ 0 100000 = true) ⟨c_by_⟩ ⟨s_From, s_Until⟩, (fun (c : TWidening) (s : TSpan) => (encTSpan (mWiden s c.by_) : D)) ⟨c_by_⟩ ⟨s_From, s_Until⟩, (fun (c : TWidening) (s : TSpan) => []) ⟨c_by_⟩ ⟨s_From, s_Until⟩) :=
  mkCon_fn (fun x y h _ => c155_inj x y h) ((⟨c_by_⟩, ⟨s_From, s_Until⟩) : TWidening × TSpan) (by simp [nz, nz1, ML_nil, encTSpan, encTWidening]) rfl
theorem c155_pc (c : TWidening) (s : TSpan) (hpre : mIsSpan s = true ∧ mIn c.by_ 0 100000 = true) : PCo Try.prog 155 [encTWidening c, encTSpan s] (Tab.of []) (encTSpan (mWiden s c.by_)) (Tab.of []) := by
  obtain ⟨c_by_⟩ := c
  obtain ⟨s_From, s_Until⟩ := s
  refine pco_of_run [] (E := ⟨[c152], []⟩) (m := false) (base := 0) (Env.ok_cons c152_ok Env.ok_nil) G_ok mix 300 6 Try.func155 (by kernel_rfl) rfl (by kernel_rfl) (by kernel_rfl) rfl ?_
  simp [Try.f155]
  have h3 := isSpan_of hpre.1
  have h4 := in_of hpre.2
  simp [mWiden, mMeet] at h3 h4 ⊢
  omega
theorem c155_ok : c155.ok Try.prog := mkCon_ok fun ⟨c, s⟩ hpre => c155_pc c s hpre

end Go.Proofs.Ytdccffbbkljkfaa
