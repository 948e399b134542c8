/- Contracts of the functions that the laws run. -/
import Derived.Test.YtnghehfdclhfdaaTS
import Derived.Test.YtnghehfdclhfdaaEngB
namespace Go.Proofs.Ytnghehfdclhfdaa
open Go Go.Eng
set_option linter.unusedSimpArgs false
set_option linter.unusedVariables false
set_option maxRecDepth 10000
set_option maxHeartbeats 1000000
def mIn (x y z : Int) : Bool := decide (y ≤ x) && decide (x ≤ z)
/-- loop.example/g03007/spec.l1In -/
noncomputable def c99 : Con := mkCon 99 false (α := Int × Int × Int) (fun x => (fun (x : Int) (y : Int) (z : Int) => [dI x, dI y, dI z]) x.1 x.2.1 x.2.2) (fun _ => []) (fun x => (fun (x : Int) (y : Int) (z : Int) => True) x.1 x.2.1 x.2.2) (fun x => (fun (x : Int) (y : Int) (z : Int) => (dB (mIn x y z) : D)) x.1 x.2.1 x.2.2) (fun x => (fun (x : Int) (y : Int) (z : Int) => []) x.1 x.2.1 x.2.2)
@[simp] theorem c99_f : c99.f = 99 := rfl
@[simp] theorem c99_own : c99.own = false := rfl
theorem c99_inj : ∀ u_ v_ : Int × Int × Int, ((fun x => (fun (x : Int) (y : Int) (z : Int) => [dI x, dI y, dI z]) x.1 x.2.1 x.2.2) u_).map nz = ((fun x => (fun (x : Int) (y : Int) (z : Int) => [dI x, dI y, dI z]) x.1 x.2.1 x.2.2) v_).map nz → u_ = v_ := by
  intro u_ v_ h
  obtain ⟨x, y, z⟩ := u_
  obtain ⟨x', y', z'⟩ := v_
  simp [nz_lit, nz1_lit, nz_agg, nz_sl, nz1_sl] at h
  first | (simp [h]; done) | (obtain ⟨⟩ := h; simp_all; done) | simp_all
@[simp] theorem c99_fn (x : Int) (y : Int) (z : Int) : c99.fn [.lit (.int .i64 x), .lit (.int .i64 y), .lit (.int .i64 z)] [] = some ((fun (x : Int) (y : Int) (z : Int) => True) x y z, (fun (x : Int) (y : Int) (z : Int) => (dB (mIn x y z) : D)) x y z, (fun (x : Int) (y : Int) (z : Int) => []) x y z) :=
  mkCon_fn (fun x y h _ => c99_inj x y h) ((x, y, z) : Int × Int × Int) (by simp [nz, nz1, ML_nil]) rfl
theorem c99_pc (x : Int) (y : Int) (z : Int) : PCo Try.prog 99 [dI x, dI y, dI z] (Tab.of []) (dB (mIn x y z)) (Tab.of []) := by
  refine pco_of_run [] (E := ⟨[], [], []⟩) (m := false) (base := 0) Env.ok_nil G_ok mix 300 6 Try.func99 (by kernel_rfl) rfl (by kernel_rfl) (by kernel_rfl) rfl ?_
  simp [Try.f99]
  simp [mIn]
theorem c99_ok : c99.ok Try.prog := mkCon_ok fun ⟨x, y, z⟩ hpre => c99_pc x y z
/-- loop.example/g03007/impl.InRange -/
noncomputable def c102 : Con := mkCon 102 false (α := Int × Int × Int) (fun x => (fun (x : Int) (y : Int) (z : Int) => [dI x, dI y, dI z]) x.1 x.2.1 x.2.2) (fun _ => []) (fun x => (fun (x : Int) (y : Int) (z : Int) => True) x.1 x.2.1 x.2.2) (fun x => (fun (x : Int) (y : Int) (z : Int) => (dB (mIn x y z) : D)) x.1 x.2.1 x.2.2) (fun x => (fun (x : Int) (y : Int) (z : Int) => []) x.1 x.2.1 x.2.2)
@[simp] theorem c102_f : c102.f = 102 := rfl
@[simp] theorem c102_own : c102.own = false := rfl
theorem c102_inj : ∀ u_ v_ : Int × Int × Int, ((fun x => (fun (x : Int) (y : Int) (z : Int) => [dI x, dI y, dI z]) x.1 x.2.1 x.2.2) u_).map nz = ((fun x => (fun (x : Int) (y : Int) (z : Int) => [dI x, dI y, dI z]) x.1 x.2.1 x.2.2) v_).map nz → u_ = v_ := by
  intro u_ v_ h
  obtain ⟨x, y, z⟩ := u_
  obtain ⟨x', y', z'⟩ := v_
  simp [nz_lit, nz1_lit, nz_agg, nz_sl, nz1_sl] at h
  first | (simp [h]; done) | (obtain ⟨⟩ := h; simp_all; done) | simp_all
@[simp] theorem c102_fn (x : Int) (y : Int) (z : Int) : c102.fn [.lit (.int .i64 x), .lit (.int .i64 y), .lit (.int .i64 z)] [] = some ((fun (x : Int) (y : Int) (z : Int) => True) x y z, (fun (x : Int) (y : Int) (z : Int) => (dB (mIn x y z) : D)) x y z, (fun (x : Int) (y : Int) (z : Int) => []) x y z) :=
  mkCon_fn (fun x y h _ => c102_inj x y h) ((x, y, z) : Int × Int × Int) (by simp [nz, nz1, ML_nil]) rfl
theorem c102_pc (x : Int) (y : Int) (z : Int) : PCo Try.prog 102 [dI x, dI y, dI z] (Tab.of []) (dB (mIn x y z)) (Tab.of []) := by
  refine pco_of_run [] (E := ⟨[], [], []⟩) (m := false) (base := 0) Env.ok_nil G_ok mix 300 6 Try.func102 (by kernel_rfl) rfl (by kernel_rfl) (by kernel_rfl) rfl ?_
  simp [Try.f102]
  simp [mIn]
theorem c102_ok : c102.ok Try.prog := mkCon_ok fun ⟨x, y, z⟩ hpre => c102_pc x y z
/-- loop.example/g03007/spec.Min -/
noncomputable def c94 : Con := mkCon 94 false (α := Int × Int) (fun x => (fun (a : Int) (b : Int) => [dI a, dI b]) x.1 x.2) (fun _ => []) (fun x => (fun (a : Int) (b : Int) => True) x.1 x.2) (fun x => (fun (a : Int) (b : Int) => (dI (min a b) : D)) x.1 x.2) (fun x => (fun (a : Int) (b : Int) => []) x.1 x.2)
@[simp] theorem c94_f : c94.f = 94 := rfl
@[simp] theorem c94_own : c94.own = false := rfl
theorem c94_inj : ∀ u_ v_ : Int × Int, ((fun x => (fun (a : Int) (b : Int) => [dI a, dI b]) x.1 x.2) u_).map nz = ((fun x => (fun (a : Int) (b : Int) => [dI a, dI b]) x.1 x.2) v_).map nz → u_ = v_ := by
  intro u_ v_ h
  obtain ⟨a, b⟩ := u_
  obtain ⟨a', b'⟩ := v_
  simp [nz_lit, nz1_lit, nz_agg, nz_sl, nz1_sl] at h
  first | (simp [h]; done) | (obtain ⟨⟩ := h; simp_all; done) | simp_all
@[simp] theorem c94_fn (a : Int) (b : Int) : c94.fn [.lit (.int .i64 a), .lit (.int .i64 b)] [] = some ((fun (a : Int) (b : Int) => True) a b, (fun (a : Int) (b : Int) => (dI (min a b) : D)) a b, (fun (a : Int) (b : Int) => []) a b) :=
  mkCon_fn (fun x y h _ => c94_inj x y h) ((a, b) : Int × Int) (by simp [nz, nz1, ML_nil]) rfl
theorem c94_pc (a : Int) (b : Int) : PCo Try.prog 94 [dI a, dI b] (Tab.of []) (dI (min a b)) (Tab.of []) := by
  refine pco_of_run [] (E := ⟨[], [], []⟩) (m := false) (base := 0) Env.ok_nil G_ok mix 300 6 Try.func94 (by kernel_rfl) rfl (by kernel_rfl) (by kernel_rfl) rfl ?_
  simp [Try.f94]
  all_goals first | omega | (rw [Bool.eq_iff_iff]; simp; omega) | grind
theorem c94_ok : c94.ok Try.prog := mkCon_ok fun ⟨a, b⟩ hpre => c94_pc a b
/-- loop.example/g03007/spec.Max -/
noncomputable def c93 : Con := mkCon 93 false (α := Int × Int) (fun x => (fun (a : Int) (b : Int) => [dI a, dI b]) x.1 x.2) (fun _ => []) (fun x => (fun (a : Int) (b : Int) => True) x.1 x.2) (fun x => (fun (a : Int) (b : Int) => (dI (max a b) : D)) x.1 x.2) (fun x => (fun (a : Int) (b : Int) => []) x.1 x.2)
@[simp] theorem c93_f : c93.f = 93 := rfl
@[simp] theorem c93_own : c93.own = false := rfl
theorem c93_inj : ∀ u_ v_ : Int × Int, ((fun x => (fun (a : Int) (b : Int) => [dI a, dI b]) x.1 x.2) u_).map nz = ((fun x => (fun (a : Int) (b : Int) => [dI a, dI b]) x.1 x.2) v_).map nz → u_ = v_ := by
  intro u_ v_ h
  obtain ⟨a, b⟩ := u_
  obtain ⟨a', b'⟩ := v_
  simp [nz_lit, nz1_lit, nz_agg, nz_sl, nz1_sl] at h
  first | (simp [h]; done) | (obtain ⟨⟩ := h; simp_all; done) | simp_all
@[simp] theorem c93_fn (a : Int) (b : Int) : c93.fn [.lit (.int .i64 a), .lit (.int .i64 b)] [] = some ((fun (a : Int) (b : Int) => True) a b, (fun (a : Int) (b : Int) => (dI (max a b) : D)) a b, (fun (a : Int) (b : Int) => []) a b) :=
  mkCon_fn (fun x y h _ => c93_inj x y h) ((a, b) : Int × Int) (by simp [nz, nz1, ML_nil]) rfl
theorem c93_pc (a : Int) (b : Int) : PCo Try.prog 93 [dI a, dI b] (Tab.of []) (dI (max a b)) (Tab.of []) := by
  refine pco_of_run [] (E := ⟨[], [], []⟩) (m := false) (base := 0) Env.ok_nil G_ok mix 300 6 Try.func93 (by kernel_rfl) rfl (by kernel_rfl) (by kernel_rfl) rfl ?_
  simp [Try.f93]
  all_goals first | omega | (rw [Bool.eq_iff_iff]; simp; omega) | grind
theorem c93_ok : c93.ok Try.prog := mkCon_ok fun ⟨a, b⟩ hpre => c93_pc a b
/-- cmp.isNaN[int] -/
noncomputable def c189 : Con := mkCon 189 false (α := Int) (fun x => (fun (a : Int) => [dI a]) x) (fun _ => []) (fun x => (fun (a : Int) => True) x) (fun x => (fun (a : Int) => (dB false : D)) x) (fun x => (fun (a : Int) => []) x)
@[simp] theorem c189_f : c189.f = 189 := rfl
@[simp] theorem c189_own : c189.own = false := rfl
theorem c189_inj : ∀ u_ v_ : Int, ((fun x => (fun (a : Int) => [dI a]) x) u_).map nz = ((fun x => (fun (a : Int) => [dI a]) x) v_).map nz → u_ = v_ := by
  intro u_ v_ h
  obtain a := u_
  obtain a' := v_
  simp [nz_lit, nz1_lit, nz_agg, nz_sl, nz1_sl] at h
  first | (simp [h]; done) | (obtain ⟨⟩ := h; simp_all; done) | simp_all
@[simp] theorem c189_fn (a : Int) : c189.fn [.lit (.int .i64 a)] [] = some ((fun (a : Int) => True) a, (fun (a : Int) => (dB false : D)) a, (fun (a : Int) => []) a) :=
  mkCon_fn (fun x y h _ => c189_inj x y h) (a : Int) (by simp [nz, nz1, ML_nil]) rfl
theorem c189_pc (a : Int) : PCo Try.prog 189 [dI a] (Tab.of []) (dB false) (Tab.of []) := by
  refine pco_of_run [] (E := ⟨[], [], []⟩) (m := false) (base := 0) Env.ok_nil G_ok mix 300 6 Try.func189 (by kernel_rfl) rfl (by kernel_rfl) (by kernel_rfl) rfl ?_
  simp [Try.f189]
  all_goals first | omega | (rw [Bool.eq_iff_iff]; simp; omega) | grind
theorem c189_ok : c189.ok Try.prog := mkCon_ok fun a hpre => c189_pc a
/-- cmp.Less[int] -/
noncomputable def c170 : Con := mkCon 170 false (α := Int × Int) (fun x => (fun (a : Int) (b : Int) => [dI a, dI b]) x.1 x.2) (fun _ => []) (fun x => (fun (a : Int) (b : Int) => True) x.1 x.2) (fun x => (fun (a : Int) (b : Int) => (dB (decide (a < b)) : D)) x.1 x.2) (fun x => (fun (a : Int) (b : Int) => []) x.1 x.2)
@[simp] theorem c170_f : c170.f = 170 := rfl
@[simp] theorem c170_own : c170.own = false := rfl
theorem c170_inj : ∀ u_ v_ : Int × Int, ((fun x => (fun (a : Int) (b : Int) => [dI a, dI b]) x.1 x.2) u_).map nz = ((fun x => (fun (a : Int) (b : Int) => [dI a, dI b]) x.1 x.2) v_).map nz → u_ = v_ := by
  intro u_ v_ h
  obtain ⟨a, b⟩ := u_
  obtain ⟨a', b'⟩ := v_
  simp [nz_lit, nz1_lit, nz_agg, nz_sl, nz1_sl] at h
  first | (simp [h]; done) | (obtain ⟨⟩ := h; simp_all; done) | simp_all
@[simp] theorem c170_fn (a : Int) (b : Int) : c170.fn [.lit (.int .i64 a), .lit (.int .i64 b)] [] = some ((fun (a : Int) (b : Int) => True) a b, (fun (a : Int) (b : Int) => (dB (decide (a < b)) : D)) a b, (fun (a : Int) (b : Int) => []) a b) :=
  mkCon_fn (fun x y h _ => c170_inj x y h) ((a, b) : Int × Int) (by simp [nz, nz1, ML_nil]) rfl
theorem c170_pc (a : Int) (b : Int) : PCo Try.prog 170 [dI a, dI b] (Tab.of []) (dB (decide (a < b))) (Tab.of []) := by
  refine pco_of_run [] (E := ⟨[c189], [], []⟩) (m := false) (base := 0) (Env.ok_cons c189_ok Env.ok_nil) G_ok mix 300 6 Try.func170 (by kernel_rfl) rfl (by kernel_rfl) (by kernel_rfl) rfl ?_
  simp [Try.f170]
  all_goals first | omega | (rw [Bool.eq_iff_iff]; simp; omega) | grind
theorem c170_ok : c170.ok Try.prog := mkCon_ok fun ⟨a, b⟩ hpre => c170_pc a b
/-- loop.example/g03007/impl.isGreater -/
noncomputable def c176 : Con := mkCon 176 false (α := Int × Int) (fun x => (fun (a : Int) (b : Int) => [dI a, dI b]) x.1 x.2) (fun _ => []) (fun x => (fun (a : Int) (b : Int) => True) x.1 x.2) (fun x => (fun (a : Int) (b : Int) => (dB (decide (b < a)) : D)) x.1 x.2) (fun x => (fun (a : Int) (b : Int) => []) x.1 x.2)
@[simp] theorem c176_f : c176.f = 176 := rfl
@[simp] theorem c176_own : c176.own = false := rfl
theorem c176_inj : ∀ u_ v_ : Int × Int, ((fun x => (fun (a : Int) (b : Int) => [dI a, dI b]) x.1 x.2) u_).map nz = ((fun x => (fun (a : Int) (b : Int) => [dI a, dI b]) x.1 x.2) v_).map nz → u_ = v_ := by
  intro u_ v_ h
  obtain ⟨a, b⟩ := u_
  obtain ⟨a', b'⟩ := v_
  simp [nz_lit, nz1_lit, nz_agg, nz_sl, nz1_sl] at h
  first | (simp [h]; done) | (obtain ⟨⟩ := h; simp_all; done) | simp_all
@[simp] theorem c176_fn (a : Int) (b : Int) : c176.fn [.lit (.int .i64 a), .lit (.int .i64 b)] [] = some ((fun (a : Int) (b : Int) => True) a b, (fun (a : Int) (b : Int) => (dB (decide (b < a)) : D)) a b, (fun (a : Int) (b : Int) => []) a b) :=
  mkCon_fn (fun x y h _ => c176_inj x y h) ((a, b) : Int × Int) (by simp [nz, nz1, ML_nil]) rfl
theorem c176_pc (a : Int) (b : Int) : PCo Try.prog 176 [dI a, dI b] (Tab.of []) (dB (decide (b < a))) (Tab.of []) := by
  refine pco_of_run [] (E := ⟨[], [], []⟩) (m := false) (base := 0) Env.ok_nil G_ok mix 300 6 Try.func176 (by kernel_rfl) rfl (by kernel_rfl) (by kernel_rfl) rfl ?_
  simp [Try.f176]
  all_goals first | omega | (rw [Bool.eq_iff_iff]; simp; omega) | grind
theorem c176_ok : c176.ok Try.prog := mkCon_ok fun ⟨a, b⟩ hpre => c176_pc a b
/-- loop.example/g03007/impl.firstInOrder -/
noncomputable def c175 : Con := mkCon 175 false (α := FuncId × Int × Int) (fun x => (fun (g : FuncId) (a : Int) (b : Int) => ([.fn (.func g) [] [], dI a, .sl false 1 (dI 0) [dI b]] : List D)) x.1 x.2.1 x.2.2) (fun x => (fun (g : FuncId) (a : Int) (b : Int) => ([] : List (Nm × OO))) x.1 x.2.1 x.2.2) (fun x => (fun (g : FuncId) (a : Int) (b : Int) => g = 170 ∨ g = 176) x.1 x.2.1 x.2.2) (fun x => (fun (g : FuncId) (a : Int) (b : Int) => (dI (if g = 170 then min a b else max a b) : D)) x.1 x.2.1 x.2.2) (fun x => (fun (g : FuncId) (a : Int) (b : Int) => ([] : List (Nm × OO))) x.1 x.2.1 x.2.2)
@[simp] theorem c175_f : c175.f = 175 := rfl
@[simp] theorem c175_own : c175.own = false := rfl
theorem c175_inj : ∀ u_ v_ : FuncId × Int × Int, ((fun x => (fun (g : FuncId) (a : Int) (b : Int) => ([.fn (.func g) [] [], dI a, .sl false 1 (dI 0) [dI b]] : List D)) x.1 x.2.1 x.2.2) u_).map nz = ((fun x => (fun (g : FuncId) (a : Int) (b : Int) => ([.fn (.func g) [] [], dI a, .sl false 1 (dI 0) [dI b]] : List D)) x.1 x.2.1 x.2.2) v_).map nz → (fun x => (fun (g : FuncId) (a : Int) (b : Int) => ([] : List (Nm × OO))) x.1 x.2.1 x.2.2) u_ = (fun x => (fun (g : FuncId) (a : Int) (b : Int) => ([] : List (Nm × OO))) x.1 x.2.1 x.2.2) v_ → u_ = v_ := by
  intro u_ v_ h h2_
  obtain ⟨g, a, b⟩ := u_
  obtain ⟨g', a', b'⟩ := v_
  simp [nz_lit, nz1_lit, nz_agg, nz_sl, nz1_sl, nz_sx, nz_el, nz1_el, nz_own, nz1_own, nz_ptr, nz_fn, nz_iface] at h h2_
  first | (simp [h, h2_]; done) | (obtain ⟨h3_, h4_⟩ := List.append_inj h2_ h.1; simp_all; done) | simp_all | grind
@[simp] theorem c175_fn (g : FuncId) (a : Int) (b : Int) : c175.fn ([.fn (.func g) [] [], dI a, .sl false 1 (dI 0) [dI b]]) ([]) = some (g = 170 ∨ g = 176, dI (if g = 170 then min a b else max a b), []) :=
  mkCon_fn c175_inj ((g, a, b) : FuncId × Int × Int) rfl rfl
theorem c175_pc (g : FuncId) (a : Int) (b : Int) (hpre : g = 170 ∨ g = 176) : PCo Try.prog 175 ([.fn (.func g) [] [], dI a, .sl false 1 (dI 0) [dI b]]) (Tab.of ([])) (dI (if g = 170 then min a b else max a b)) (Tab.of ([])) := by
  refine pco_of_run [] (E := ⟨[c170, c176], [], []⟩) (m := false) (base := 0) (Env.ok_cons c170_ok (Env.ok_cons c176_ok Env.ok_nil)) G_ok mix 300 6 Try.func175 (by kernel_rfl) rfl (by kernel_rfl) (by kernel_rfl) rfl ?_
  rcases hpre with rfl | rfl
  · simp [Try.f175]
    refine loop_unroll 100 ?_
    simp
    omega
  · simp [Try.f175]
    refine loop_unroll 100 ?_
    simp
    omega
theorem c175_ok : c175.ok Try.prog := mkCon_ok fun ⟨g, a, b⟩ hpre => c175_pc g a b hpre
/-- loop.example/g03007/impl.Min -/
noncomputable def c156 : Con := mkCon 156 false (α := Int × Int) (fun x => (fun (a : Int) (b : Int) => [dI a, dI b]) x.1 x.2) (fun _ => []) (fun x => (fun (a : Int) (b : Int) => True) x.1 x.2) (fun x => (fun (a : Int) (b : Int) => (dI (min a b) : D)) x.1 x.2) (fun x => (fun (a : Int) (b : Int) => []) x.1 x.2)
@[simp] theorem c156_f : c156.f = 156 := rfl
@[simp] theorem c156_own : c156.own = false := rfl
theorem c156_inj : ∀ u_ v_ : Int × Int, ((fun x => (fun (a : Int) (b : Int) => [dI a, dI b]) x.1 x.2) u_).map nz = ((fun x => (fun (a : Int) (b : Int) => [dI a, dI b]) x.1 x.2) v_).map nz → u_ = v_ := by
  intro u_ v_ h
  obtain ⟨a, b⟩ := u_
  obtain ⟨a', b'⟩ := v_
  simp [nz_lit, nz1_lit, nz_agg, nz_sl, nz1_sl] at h
  first | (simp [h]; done) | (obtain ⟨⟩ := h; simp_all; done) | simp_all
@[simp] theorem c156_fn (a : Int) (b : Int) : c156.fn [.lit (.int .i64 a), .lit (.int .i64 b)] [] = some ((fun (a : Int) (b : Int) => True) a b, (fun (a : Int) (b : Int) => (dI (min a b) : D)) a b, (fun (a : Int) (b : Int) => []) a b) :=
  mkCon_fn (fun x y h _ => c156_inj x y h) ((a, b) : Int × Int) (by simp [nz, nz1, ML_nil]) rfl
theorem c156_pc (a : Int) (b : Int) : PCo Try.prog 156 [dI a, dI b] (Tab.of []) (dI (min a b)) (Tab.of []) := by
  refine pco_of_run [] (E := ⟨[c170, c175], [], []⟩) (m := false) (base := 0) (Env.ok_cons c170_ok (Env.ok_cons c175_ok Env.ok_nil)) G_ok mix 300 6 Try.func156 (by kernel_rfl) rfl (by kernel_rfl) (by kernel_rfl) rfl ?_
  simp [Try.f156]
  all_goals first | omega | (rw [Bool.eq_iff_iff]; simp; omega) | grind
theorem c156_ok : c156.ok Try.prog := mkCon_ok fun ⟨a, b⟩ hpre => c156_pc a b
/-- loop.example/g03007/impl.Max -/
noncomputable def c155 : Con := mkCon 155 false (α := Int × Int) (fun x => (fun (a : Int) (b : Int) => [dI a, dI b]) x.1 x.2) (fun _ => []) (fun x => (fun (a : Int) (b : Int) => True) x.1 x.2) (fun x => (fun (a : Int) (b : Int) => (dI (max a b) : D)) x.1 x.2) (fun x => (fun (a : Int) (b : Int) => []) x.1 x.2)
@[simp] theorem c155_f : c155.f = 155 := rfl
@[simp] theorem c155_own : c155.own = false := rfl
theorem c155_inj : ∀ u_ v_ : Int × Int, ((fun x => (fun (a : Int) (b : Int) => [dI a, dI b]) x.1 x.2) u_).map nz = ((fun x => (fun (a : Int) (b : Int) => [dI a, dI b]) x.1 x.2) v_).map nz → u_ = v_ := by
  intro u_ v_ h
  obtain ⟨a, b⟩ := u_
  obtain ⟨a', b'⟩ := v_
  simp [nz_lit, nz1_lit, nz_agg, nz_sl, nz1_sl] at h
  first | (simp [h]; done) | (obtain ⟨⟩ := h; simp_all; done) | simp_all
@[simp] theorem c155_fn (a : Int) (b : Int) : c155.fn [.lit (.int .i64 a), .lit (.int .i64 b)] [] = some ((fun (a : Int) (b : Int) => True) a b, (fun (a : Int) (b : Int) => (dI (max a b) : D)) a b, (fun (a : Int) (b : Int) => []) a b) :=
  mkCon_fn (fun x y h _ => c155_inj x y h) ((a, b) : Int × Int) (by simp [nz, nz1, ML_nil]) rfl
theorem c155_pc (a : Int) (b : Int) : PCo Try.prog 155 [dI a, dI b] (Tab.of []) (dI (max a b)) (Tab.of []) := by
  refine pco_of_run [] (E := ⟨[c175, c176], [], []⟩) (m := false) (base := 0) (Env.ok_cons c175_ok (Env.ok_cons c176_ok Env.ok_nil)) G_ok mix 300 6 Try.func155 (by kernel_rfl) rfl (by kernel_rfl) (by kernel_rfl) rfl ?_
  simp [Try.f155]
  all_goals first | omega | (rw [Bool.eq_iff_iff]; simp; omega) | grind
theorem c155_ok : c155.ok Try.prog := mkCon_ok fun ⟨a, b⟩ hpre => c155_pc a b
/-- loop.example/g03007/laws.toSpan -/
noncomputable def c54 : Con := mkCon 54 false (α := TSpan) (fun x => (fun (s : TSpan) => [encTSpan s]) x) (fun _ => []) (fun x => (fun (s : TSpan) => True) x) (fun x => (fun (s : TSpan) => (encTSpan s : D)) x) (fun x => (fun (s : TSpan) => []) x)
@[simp] theorem c54_f : c54.f = 54 := rfl
@[simp] theorem c54_own : c54.own = false := rfl
theorem c54_inj : ∀ u_ v_ : TSpan, ((fun x => (fun (s : TSpan) => [encTSpan s]) x) u_).map nz = ((fun x => (fun (s : TSpan) => [encTSpan s]) x) v_).map nz → u_ = v_ := by
  intro u_ v_ h
  obtain ⟨s_From, s_Until⟩ := u_
  obtain ⟨s_From', s_Until'⟩ := v_
  simp [nz_lit, nz1_lit, nz_agg, nz_sl, nz1_sl, encTSpan] at h
  first | (simp [h]; done) | (obtain ⟨⟩ := h; simp_all; done) | simp_all
@[simp] theorem c54_fn (s_From : Int) (s_Until : Int) : c54.fn [.agg [.lit (.int .i64 s_From), .lit (.int .i64 s_Until)]] [] = some ((fun (s : TSpan) => True) ⟨s_From, s_Until⟩, (fun (s : TSpan) => (encTSpan s : D)) ⟨s_From, s_Until⟩, (fun (s : TSpan) => []) ⟨s_From, s_Until⟩) :=
  mkCon_fn (fun x y h _ => c54_inj x y h) (⟨s_From, s_Until⟩ : TSpan) (by simp [nz, nz1, ML_nil, encTSpan]) rfl
theorem c54_pc (s : TSpan) : PCo Try.prog 54 [encTSpan s] (Tab.of []) (encTSpan s) (Tab.of []) := by
  obtain ⟨s_From, s_Until⟩ := s
  refine pco_of_run [] (E := ⟨[], [], []⟩) (m := false) (base := 0) Env.ok_nil G_ok mix 300 6 Try.func54 (by kernel_rfl) rfl (by kernel_rfl) (by kernel_rfl) rfl ?_
  simp [Try.f54]
  all_goals first | omega | (rw [Bool.eq_iff_iff]; simp; omega) | grind
theorem c54_ok : c54.ok Try.prog := mkCon_ok fun s hpre => c54_pc s
/-- loop.example/g03007/laws.eqSpan -/
noncomputable def c57 : Con := mkCon 57 false (α := TSpan × TSpan) (fun x => (fun (a : TSpan) (b : TSpan) => [encTSpan a, encTSpan b]) x.1 x.2) (fun _ => []) (fun x => (fun (a : TSpan) (b : TSpan) => True) x.1 x.2) (fun x => (fun (a : TSpan) (b : TSpan) => (dB (decide (a = b)) : D)) x.1 x.2) (fun x => (fun (a : TSpan) (b : TSpan) => []) x.1 x.2)
@[simp] theorem c57_f : c57.f = 57 := rfl
@[simp] theorem c57_own : c57.own = false := rfl
theorem c57_inj : ∀ u_ v_ : TSpan × TSpan, ((fun x => (fun (a : TSpan) (b : TSpan) => [encTSpan a, encTSpan b]) x.1 x.2) u_).map nz = ((fun x => (fun (a : TSpan) (b : TSpan) => [encTSpan a, encTSpan b]) x.1 x.2) v_).map nz → u_ = v_ := by
  intro u_ v_ h
  obtain ⟨⟨a_From, a_Until⟩, ⟨b_From, b_Until⟩⟩ := u_
  obtain ⟨⟨a_From', a_Until'⟩, ⟨b_From', b_Until'⟩⟩ := v_
  simp [nz_lit, nz1_lit, nz_agg, nz_sl, nz1_sl, encTSpan] at h
  first | (simp [h]; done) | (obtain ⟨⟩ := h; simp_all; done) | simp_all
@[simp] theorem c57_fn (a_From : Int) (a_Until : Int) (b_From : Int) (b_Until : Int) : c57.fn [.agg [.lit (.int .i64 a_From), .lit (.int .i64 a_Until)], .agg [.lit (.int .i64 b_From), .lit (.int .i64 b_Until)]] [] = some ((fun (a : TSpan) (b : TSpan) => True) ⟨a_From, a_Until⟩ ⟨b_From, b_Until⟩, (fun (a : TSpan) (b : TSpan) => (dB (decide (a = b)) : D)) ⟨a_From, a_Until⟩ ⟨b_From, b_Until⟩, (fun (a : TSpan) (b : TSpan) => []) ⟨a_From, a_Until⟩ ⟨b_From, b_Until⟩) :=
  mkCon_fn (fun x y h _ => c57_inj x y h) ((⟨a_From, a_Until⟩, ⟨b_From, b_Until⟩) : TSpan × TSpan) (by simp [nz, nz1, ML_nil, encTSpan]) rfl
theorem c57_pc (a : TSpan) (b : TSpan) : PCo Try.prog 57 [encTSpan a, encTSpan b] (Tab.of []) (dB (decide (a = b))) (Tab.of []) := by
  obtain ⟨a_From, a_Until⟩ := a
  obtain ⟨b_From, b_Until⟩ := b
  refine pco_of_run [] (E := ⟨[], [], []⟩) (m := false) (base := 0) Env.ok_nil G_ok mix 300 6 Try.func57 (by kernel_rfl) rfl (by kernel_rfl) (by kernel_rfl) rfl ?_
  simp [Try.f57]
  all_goals first | omega | (rw [Bool.eq_iff_iff]; simp; omega) | grind
theorem c57_ok : c57.ok Try.prog := mkCon_ok fun ⟨a, b⟩ hpre => c57_pc a b
def mIsSpan (s : TSpan) : Bool := decide (0 ≤ s.From) && decide (s.From ≤ s.Until) && decide (s.Until ≤ 100000)
/-- loop.example/g03007/spec.IsSpan -/
noncomputable def c95 : Con := mkCon 95 false (α := TSpan) (fun x => (fun (s : TSpan) => [encTSpan s]) x) (fun _ => []) (fun x => (fun (s : TSpan) => True) x) (fun x => (fun (s : TSpan) => (dB (mIsSpan s) : D)) x) (fun x => (fun (s : TSpan) => []) x)
@[simp] theorem c95_f : c95.f = 95 := rfl
@[simp] theorem c95_own : c95.own = false := rfl
theorem c95_inj : ∀ u_ v_ : TSpan, ((fun x => (fun (s : TSpan) => [encTSpan s]) x) u_).map nz = ((fun x => (fun (s : TSpan) => [encTSpan s]) x) v_).map nz → u_ = v_ := by
  intro u_ v_ h
  obtain ⟨s_From, s_Until⟩ := u_
  obtain ⟨s_From', s_Until'⟩ := v_
  simp [nz_lit, nz1_lit, nz_agg, nz_sl, nz1_sl, encTSpan] at h
  first | (simp [h]; done) | (obtain ⟨⟩ := h; simp_all; done) | simp_all
@[simp] theorem c95_fn (s_From : Int) (s_Until : Int) : c95.fn [.agg [.lit (.int .i64 s_From), .lit (.int .i64 s_Until)]] [] = some ((fun (s : TSpan) => True) ⟨s_From, s_Until⟩, (fun (s : TSpan) => (dB (mIsSpan s) : D)) ⟨s_From, s_Until⟩, (fun (s : TSpan) => []) ⟨s_From, s_Until⟩) :=
  mkCon_fn (fun x y h _ => c95_inj x y h) (⟨s_From, s_Until⟩ : TSpan) (by simp [nz, nz1, ML_nil, encTSpan]) rfl
theorem c95_pc (s : TSpan) : PCo Try.prog 95 [encTSpan s] (Tab.of []) (dB (mIsSpan s)) (Tab.of []) := by
  obtain ⟨s_From, s_Until⟩ := s
  refine pco_of_run [] (E := ⟨[c99], [], []⟩) (m := false) (base := 0) (Env.ok_cons c99_ok Env.ok_nil) G_ok mix 300 6 Try.func95 (by kernel_rfl) rfl (by kernel_rfl) (by kernel_rfl) rfl ?_
  simp [Try.f95]
  rw [Bool.eq_iff_iff]; simp [mIsSpan, mIn]; omega
theorem c95_ok : c95.ok Try.prog := mkCon_ok fun s hpre => c95_pc s
/-- loop.example/g03007/impl.IsSpan -/
noncomputable def c104 : Con := mkCon 104 false (α := TSpan) (fun x => (fun (s : TSpan) => [encTSpan s]) x) (fun _ => []) (fun x => (fun (s : TSpan) => True) x) (fun x => (fun (s : TSpan) => (dB (mIsSpan s) : D)) x) (fun x => (fun (s : TSpan) => []) x)
@[simp] theorem c104_f : c104.f = 104 := rfl
@[simp] theorem c104_own : c104.own = false := rfl
theorem c104_inj : ∀ u_ v_ : TSpan, ((fun x => (fun (s : TSpan) => [encTSpan s]) x) u_).map nz = ((fun x => (fun (s : TSpan) => [encTSpan s]) x) v_).map nz → u_ = v_ := by
  intro u_ v_ h
  obtain ⟨s_From, s_Until⟩ := u_
  obtain ⟨s_From', s_Until'⟩ := v_
  simp [nz_lit, nz1_lit, nz_agg, nz_sl, nz1_sl, encTSpan] at h
  first | (simp [h]; done) | (obtain ⟨⟩ := h; simp_all; done) | simp_all
@[simp] theorem c104_fn (s_From : Int) (s_Until : Int) : c104.fn [.agg [.lit (.int .i64 s_From), .lit (.int .i64 s_Until)]] [] = some ((fun (s : TSpan) => True) ⟨s_From, s_Until⟩, (fun (s : TSpan) => (dB (mIsSpan s) : D)) ⟨s_From, s_Until⟩, (fun (s : TSpan) => []) ⟨s_From, s_Until⟩) :=
  mkCon_fn (fun x y h _ => c104_inj x y h) (⟨s_From, s_Until⟩ : TSpan) (by simp [nz, nz1, ML_nil, encTSpan]) rfl
theorem c104_pc (s : TSpan) : PCo Try.prog 104 [encTSpan s] (Tab.of []) (dB (mIsSpan s)) (Tab.of []) := by
  obtain ⟨s_From, s_Until⟩ := s
  refine pco_of_run [] (E := ⟨[], [], []⟩) (m := false) (base := 0) Env.ok_nil G_ok mix 300 6 Try.func104 (by kernel_rfl) rfl (by kernel_rfl) (by kernel_rfl) rfl ?_
  simp [Try.f104]
  simp [mIsSpan]
theorem c104_ok : c104.ok Try.prog := mkCon_ok fun s hpre => c104_pc s
def okS (ok : Bool) (s d : TSpan) : TSpan := if ok then s else d
@[simp] theorem okS_t (s d : TSpan) : okS true s d = s := rfl
@[simp] theorem okS_f (s d : TSpan) : okS false s d = d := rfl
@[simp] def rSpan (ok : Bool) (s d : TSpan) : D := .tup [encTSpan (okS ok s d), dB ok]
def mMeet (a b : TSpan) : TSpan := ⟨max a.From b.From, min a.Until b.Until⟩
def mHull (a b : TSpan) : TSpan := ⟨min a.From b.From, max a.Until b.Until⟩
def kMeet (a b : TSpan) : Bool := mIsSpan a && mIsSpan b && mIsSpan (mMeet a b)
/-- loop.example/g03007/spec.Meet -/
noncomputable def c67 : Con := mkCon 67 false (α := TSpan × TSpan) (fun x => (fun (a : TSpan) (b : TSpan) => [encTSpan a, encTSpan b]) x.1 x.2) (fun _ => []) (fun x => (fun (a : TSpan) (b : TSpan) => True) x.1 x.2) (fun x => (fun (a : TSpan) (b : TSpan) => (rSpan (kMeet a b) (mMeet a b) ⟨0, 0⟩ : D)) x.1 x.2) (fun x => (fun (a : TSpan) (b : TSpan) => []) x.1 x.2)
@[simp] theorem c67_f : c67.f = 67 := rfl
@[simp] theorem c67_own : c67.own = false := rfl
theorem c67_inj : ∀ u_ v_ : TSpan × TSpan, ((fun x => (fun (a : TSpan) (b : TSpan) => [encTSpan a, encTSpan b]) x.1 x.2) u_).map nz = ((fun x => (fun (a : TSpan) (b : TSpan) => [encTSpan a, encTSpan b]) x.1 x.2) v_).map nz → u_ = v_ := by
  intro u_ v_ h
  obtain ⟨⟨a_From, a_Until⟩, ⟨b_From, b_Until⟩⟩ := u_
  obtain ⟨⟨a_From', a_Until'⟩, ⟨b_From', b_Until'⟩⟩ := v_
  simp [nz_lit, nz1_lit, nz_agg, nz_sl, nz1_sl, encTSpan] at h
  first | (simp [h]; done) | (obtain ⟨⟩ := h; simp_all; done) | simp_all
@[simp] theorem c67_fn (a_From : Int) (a_Until : Int) (b_From : Int) (b_Until : Int) : c67.fn [.agg [.lit (.int .i64 a_From), .lit (.int .i64 a_Until)], .agg [.lit (.int .i64 b_From), .lit (.int .i64 b_Until)]] [] = some ((fun (a : TSpan) (b : TSpan) => True) ⟨a_From, a_Until⟩ ⟨b_From, b_Until⟩, (fun (a : TSpan) (b : TSpan) => (rSpan (kMeet a b) (mMeet a b) ⟨0, 0⟩ : D)) ⟨a_From, a_Until⟩ ⟨b_From, b_Until⟩, (fun (a : TSpan) (b : TSpan) => []) ⟨a_From, a_Until⟩ ⟨b_From, b_Until⟩) :=
  mkCon_fn (fun x y h _ => c67_inj x y h) ((⟨a_From, a_Until⟩, ⟨b_From, b_Until⟩) : TSpan × TSpan) (by simp [nz, nz1, ML_nil, encTSpan]) rfl
theorem c67_pc (a : TSpan) (b : TSpan) : PCo Try.prog 67 [encTSpan a, encTSpan b] (Tab.of []) (rSpan (kMeet a b) (mMeet a b) ⟨0, 0⟩) (Tab.of []) := by
  obtain ⟨a_From, a_Until⟩ := a
  obtain ⟨b_From, b_Until⟩ := b
  refine pco_of_run [1] (E := ⟨[c93, c94, c95], [], []⟩) (m := false) (base := 0) (Env.ok_cons c93_ok (Env.ok_cons c94_ok (Env.ok_cons c95_ok Env.ok_nil))) G_ok mix 300 6 Try.func67 (by kernel_rfl) rfl (by kernel_rfl) (by kernel_rfl) rfl ?_
  simp [Try.f67]
  refine ⟨fun h => ?_, fun h1 h2 h3 => ?_⟩
  · have : kMeet ⟨a_From, a_Until⟩ ⟨b_From, b_Until⟩ = false := by simp [kMeet, mMeet]; grind
    simp [this]
  · have : kMeet ⟨a_From, a_Until⟩ ⟨b_From, b_Until⟩ = true := by simp [kMeet, mMeet, *]
    simp [this, mMeet]
theorem c67_ok : c67.ok Try.prog := mkCon_ok fun ⟨a, b⟩ hpre => c67_pc a b
def kHull (a b : TSpan) : Bool := mIsSpan a && mIsSpan b
def kWiden (s : TSpan) (n : Int) : Bool := mIsSpan s && mIn n 0 100000
def mWiden (s : TSpan) (n : Int) : TSpan := ⟨max (s.From - n) 0, min (s.Until + n) 100000⟩
theorem isSpan_of {s : TSpan} (h : mIsSpan s = true) : 0 ≤ s.From ∧ s.From ≤ s.Until ∧ s.Until ≤ 100000 := by
  simp [mIsSpan] at h; omega
theorem in_of {x y z : Int} (h : mIn x y z = true) : y ≤ x ∧ x ≤ z := by
  simp [mIn] at h; exact h
def mHolds (s : TSpan) (h : Int) : Bool := mIsSpan s && mIn h s.From s.Until
def mHours (s : TSpan) : Int := if mIsSpan s then s.Until - s.From + 1 else 0
/-- (loop.example/g03007/impl.Span).meet -/
noncomputable def c210 : Con := mkCon 210 false (α := TSpan × TSpan) (fun x => (fun (s : TSpan) (o : TSpan) => [encTSpan s, encTSpan o]) x.1 x.2) (fun _ => []) (fun x => (fun (s : TSpan) (o : TSpan) => True) x.1 x.2) (fun x => (fun (s : TSpan) (o : TSpan) => (encTSpan (mMeet s o) : D)) x.1 x.2) (fun x => (fun (s : TSpan) (o : TSpan) => []) x.1 x.2)
@[simp] theorem c210_f : c210.f = 210 := rfl
@[simp] theorem c210_own : c210.own = false := rfl
theorem c210_inj : ∀ u_ v_ : TSpan × TSpan, ((fun x => (fun (s : TSpan) (o : TSpan) => [encTSpan s, encTSpan o]) x.1 x.2) u_).map nz = ((fun x => (fun (s : TSpan) (o : TSpan) => [encTSpan s, encTSpan o]) x.1 x.2) v_).map nz → u_ = v_ := by
  intro u_ v_ h
  obtain ⟨⟨s_From, s_Until⟩, ⟨o_From, o_Until⟩⟩ := u_
  obtain ⟨⟨s_From', s_Until'⟩, ⟨o_From', o_Until'⟩⟩ := v_
  simp [nz_lit, nz1_lit, nz_agg, nz_sl, nz1_sl, encTSpan] at h
  first | (simp [h]; done) | (obtain ⟨⟩ := h; simp_all; done) | simp_all
@[simp] theorem c210_fn (s_From : Int) (s_Until : Int) (o_From : Int) (o_Until : Int) : c210.fn [.agg [.lit (.int .i64 s_From), .lit (.int .i64 s_Until)], .agg [.lit (.int .i64 o_From), .lit (.int .i64 o_Until)]] [] = some ((fun (s : TSpan) (o : TSpan) => True) ⟨s_From, s_Until⟩ ⟨o_From, o_Until⟩, (fun (s : TSpan) (o : TSpan) => (encTSpan (mMeet s o) : D)) ⟨s_From, s_Until⟩ ⟨o_From, o_Until⟩, (fun (s : TSpan) (o : TSpan) => []) ⟨s_From, s_Until⟩ ⟨o_From, o_Until⟩) :=
  mkCon_fn (fun x y h _ => c210_inj x y h) ((⟨s_From, s_Until⟩, ⟨o_From, o_Until⟩) : TSpan × TSpan) (by simp [nz, nz1, ML_nil, encTSpan]) rfl
theorem c210_pc (s : TSpan) (o : TSpan) : PCo Try.prog 210 [encTSpan s, encTSpan o] (Tab.of []) (encTSpan (mMeet s o)) (Tab.of []) := by
  obtain ⟨s_From, s_Until⟩ := s
  obtain ⟨o_From, o_Until⟩ := o
  refine pco_of_run [1] (E := ⟨[c155, c156], [], []⟩) (m := false) (base := 0) (Env.ok_cons c155_ok (Env.ok_cons c156_ok Env.ok_nil)) G_ok mix 300 6 Try.func210 (by kernel_rfl) rfl (by kernel_rfl) (by kernel_rfl) rfl ?_
  simp [Try.f210]
  simp [mMeet]
theorem c210_ok : c210.ok Try.prog := mkCon_ok fun ⟨s, o⟩ hpre => c210_pc s o
/-- (loop.example/g03007/impl.meeting).applyTo -/
noncomputable def c215 : Con := mkCon 215 false (α := TMeeting × TSpan) (fun x => (fun (c : TMeeting) (s : TSpan) => [encTMeeting c, encTSpan s]) x.1 x.2) (fun _ => []) (fun x => (fun (c : TMeeting) (s : TSpan) => True) x.1 x.2) (fun x => (fun (c : TMeeting) (s : TSpan) => (encTSpan (mMeet s c.with_) : D)) x.1 x.2) (fun x => (fun (c : TMeeting) (s : TSpan) => []) x.1 x.2)
@[simp] theorem c215_f : c215.f = 215 := rfl
@[simp] theorem c215_own : c215.own = false := rfl
theorem c215_inj : ∀ u_ v_ : TMeeting × TSpan, ((fun x => (fun (c : TMeeting) (s : TSpan) => [encTMeeting c, encTSpan s]) x.1 x.2) u_).map nz = ((fun x => (fun (c : TMeeting) (s : TSpan) => [encTMeeting c, encTSpan s]) x.1 x.2) v_).map nz → u_ = v_ := by
  intro u_ v_ h
  obtain ⟨⟨⟨c_with__From, c_with__Until⟩⟩, ⟨s_From, s_Until⟩⟩ := u_
  obtain ⟨⟨⟨c_with__From', c_with__Until'⟩⟩, ⟨s_From', s_Until'⟩⟩ := v_
  simp [nz_lit, nz1_lit, nz_agg, nz_sl, nz1_sl, encTMeeting, encTSpan] at h
  first | (simp [h]; done) | (obtain ⟨⟩ := h; simp_all; done) | simp_all
@[simp] theorem c215_fn (c_with__From : Int) (c_with__Until : Int) (s_From : Int) (s_Until : Int) : c215.fn [.agg [.lit (.int .i64 c_with__From), .lit (.int .i64 c_with__Until)], .agg [.lit (.int .i64 s_From), .lit (.int .i64 s_Until)]] [] = some ((fun (c : TMeeting) (s : TSpan) => True) ⟨⟨c_with__From, c_with__Until⟩⟩ ⟨s_From, s_Until⟩, (fun (c : TMeeting) (s : TSpan) => (encTSpan (mMeet s c.with_) : D)) ⟨⟨c_with__From, c_with__Until⟩⟩ ⟨s_From, s_Until⟩, (fun (c : TMeeting) (s : TSpan) => []) ⟨⟨c_with__From, c_with__Until⟩⟩ ⟨s_From, s_Until⟩) :=
  mkCon_fn (fun x y h _ => c215_inj x y h) ((⟨⟨c_with__From, c_with__Until⟩⟩, ⟨s_From, s_Until⟩) : TMeeting × TSpan) (by simp [nz, nz1, ML_nil, encTMeeting, encTSpan]) rfl
theorem c215_pc (c : TMeeting) (s : TSpan) : PCo Try.prog 215 [encTMeeting c, encTSpan s] (Tab.of []) (encTSpan (mMeet s c.with_)) (Tab.of []) := by
  obtain ⟨⟨c_with__From, c_with__Until⟩⟩ := c
  obtain ⟨s_From, s_Until⟩ := s
  refine pco_of_run [] (E := ⟨[c210], [], []⟩) (m := false) (base := 0) (Env.ok_cons c210_ok Env.ok_nil) G_ok mix 300 6 Try.func215 (by kernel_rfl) rfl (by kernel_rfl) (by kernel_rfl) rfl ?_
  simp [Try.f215]
  trace_state
theorem c215_ok : c215.ok Try.prog := mkCon_ok fun ⟨c, s⟩ hpre => c215_pc c s
/-- (loop.example/g03007/impl.covering).applyTo -/
noncomputable def c217 : Con := mkCon 217 false (α := TMeeting × TSpan) (fun x => (fun (c : TMeeting) (s : TSpan) => [encTMeeting c, encTSpan s]) x.1 x.2) (fun _ => []) (fun x => (fun (c : TMeeting) (s : TSpan) => True) x.1 x.2) (fun x => (fun (c : TMeeting) (s : TSpan) => (encTSpan (mHull s c.with_) : D)) x.1 x.2) (fun x => (fun (c : TMeeting) (s : TSpan) => []) x.1 x.2)
@[simp] theorem c217_f : c217.f = 217 := rfl
@[simp] theorem c217_own : c217.own = false := rfl
theorem c217_inj : ∀ u_ v_ : TMeeting × TSpan, ((fun x => (fun (c : TMeeting) (s : TSpan) => [encTMeeting c, encTSpan s]) x.1 x.2) u_).map nz = ((fun x => (fun (c : TMeeting) (s : TSpan) => [encTMeeting c, encTSpan s]) x.1 x.2) v_).map nz → u_ = v_ := by
  intro u_ v_ h
  obtain ⟨⟨⟨c_with__From, c_with__Until⟩⟩, ⟨s_From, s_Until⟩⟩ := u_
  obtain ⟨⟨⟨c_with__From', c_with__Until'⟩⟩, ⟨s_From', s_Until'⟩⟩ := v_
  simp [nz_lit, nz1_lit, nz_agg, nz_sl, nz1_sl, encTMeeting, encTSpan] at h
  first | (simp [h]; done) | (obtain ⟨⟩ := h; simp_all; done) | simp_all
@[simp] theorem c217_fn (c_with__From : Int) (c_with__Until : Int) (s_From : Int) (s_Until : Int) : c217.fn [.agg [.lit (.int .i64 c_with__From), .lit (.int .i64 c_with__Until)], .agg [.lit (.int .i64 s_From), .lit (.int .i64 s_Until)]] [] = some ((fun (c : TMeeting) (s : TSpan) => True) ⟨⟨c_with__From, c_with__Until⟩⟩ ⟨s_From, s_Until⟩, (fun (c : TMeeting) (s : TSpan) => (encTSpan (mHull s c.with_) : D)) ⟨⟨c_with__From, c_with__Until⟩⟩ ⟨s_From, s_Until⟩, (fun (c : TMeeting) (s : TSpan) => []) ⟨⟨c_with__From, c_with__Until⟩⟩ ⟨s_From, s_Until⟩) :=
  mkCon_fn (fun x y h _ => c217_inj x y h) ((⟨⟨c_with__From, c_with__Until⟩⟩, ⟨s_From, s_Until⟩) : TMeeting × TSpan) (by simp [nz, nz1, ML_nil, encTMeeting, encTSpan]) rfl
theorem c217_pc (c : TMeeting) (s : TSpan) : PCo Try.prog 217 [encTMeeting c, encTSpan s] (Tab.of []) (encTSpan (mHull s c.with_)) (Tab.of []) := by
  obtain ⟨⟨c_with__From, c_with__Until⟩⟩ := c
  obtain ⟨s_From, s_Until⟩ := s
  refine pco_of_run [1] (E := ⟨[c155, c156], [], []⟩) (m := false) (base := 0) (Env.ok_cons c155_ok (Env.ok_cons c156_ok Env.ok_nil)) G_ok mix 300 6 Try.func217 (by kernel_rfl) rfl (by kernel_rfl) (by kernel_rfl) rfl ?_
  simp [Try.f217]
  simp [mHull]
theorem c217_ok : c217.ok Try.prog := mkCon_ok fun ⟨c, s⟩ hpre => c217_pc c s
/-- (loop.example/g03007/impl.widening).applyTo -/
noncomputable def c218 : Con := mkCon 218 false (α := TWidening × TSpan) (fun x => (fun (c : TWidening) (s : TSpan) => [encTWidening c, encTSpan s]) x.1 x.2) (fun _ => []) (fun x => (fun (c : TWidening) (s : TSpan) => mIsSpan s = true ∧ mIn c.by_ 0 100000 = true) x.1 x.2) (fun x => (fun (c : TWidening) (s : TSpan) => (encTSpan (mWiden s c.by_) : D)) x.1 x.2) (fun x => (fun (c : TWidening) (s : TSpan) => []) x.1 x.2)
@[simp] theorem c218_f : c218.f = 218 := rfl
@[simp] theorem c218_own : c218.own = false := rfl
theorem c218_inj : ∀ u_ v_ : TWidening × TSpan, ((fun x => (fun (c : TWidening) (s : TSpan) => [encTWidening c, encTSpan s]) x.1 x.2) u_).map nz = ((fun x => (fun (c : TWidening) (s : TSpan) => [encTWidening c, encTSpan s]) x.1 x.2) v_).map nz → u_ = v_ := by
  intro u_ v_ h
  obtain ⟨⟨c_by_⟩, ⟨s_From, s_Until⟩⟩ := u_
  obtain ⟨⟨c_by_'⟩, ⟨s_From', s_Until'⟩⟩ := v_
  simp [nz_lit, nz1_lit, nz_agg, nz_sl, nz1_sl, encTSpan, encTWidening] at h
  first | (simp [h]; done) | (obtain ⟨⟩ := h; simp_all; done) | simp_all
@[simp] theorem c218_fn (c_by_ : Int) (s_From : Int) (s_Until : Int) : c218.fn [.agg [.lit (.int .i64 c_by_)], .agg [.lit (.int .i64 s_From), .lit (.int .i64 s_Until)]] [] = some ((fun (c : TWidening) (s : TSpan) => mIsSpan s = true ∧ mIn c.by_ 0 100000 = true) ⟨c_by_⟩ ⟨s_From, s_Until⟩, (fun (c : TWidening) (s : TSpan) => (encTSpan (mWiden s c.by_) : D)) ⟨c_by_⟩ ⟨s_From, s_Until⟩, (fun (c : TWidening) (s : TSpan) => []) ⟨c_by_⟩ ⟨s_From, s_Until⟩) :=
  mkCon_fn (fun x y h _ => c218_inj x y h) ((⟨c_by_⟩, ⟨s_From, s_Until⟩) : TWidening × TSpan) (by simp [nz, nz1, ML_nil, encTSpan, encTWidening]) rfl
theorem c218_pc (c : TWidening) (s : TSpan) (hpre : mIsSpan s = true ∧ mIn c.by_ 0 100000 = true) : PCo Try.prog 218 [encTWidening c, encTSpan s] (Tab.of []) (encTSpan (mWiden s c.by_)) (Tab.of []) := by
  obtain ⟨c_by_⟩ := c
  obtain ⟨s_From, s_Until⟩ := s
  refine pco_of_run [] (E := ⟨[c210], [], []⟩) (m := false) (base := 0) (Env.ok_cons c210_ok Env.ok_nil) G_ok mix 300 6 Try.func218 (by kernel_rfl) rfl (by kernel_rfl) (by kernel_rfl) rfl ?_
  simp [Try.f218]
  have h3 := isSpan_of hpre.1
  have h4 := in_of hpre.2
  simp [mWiden, mMeet] at h3 h4 ⊢
  omega
theorem c218_ok : c218.ok Try.prog := mkCon_ok fun ⟨c, s⟩ hpre => c218_pc c s hpre
def geN {α : Type} (num : α → Int) (n : Int) (x : α) : Bool := decide (n ≤ num x)
def putAt {α : Type} (num : α → Int) (n : Int) (l : List α) : Nat := if indexBy (geN num n) 0 l < 0 then l.length else (indexBy (geN num n) 0 l).toNat
def putRest {α : Type} [Inhabited α] (num : α → Int) (n : Int) (l : List α) : Nat := if putAt num n l < l.length ∧ num (l[putAt num n l]?.getD default) = n then putAt num n l + 1 else putAt num n l
def putBy {α : Type} [Inhabited α] (num : α → Int) (x : α) (l : List α) : List α := l.take (putAt num (num x) l) ++ x :: l.drop (putRest num (num x) l)
theorem putAt_le {α : Type} (num : α → Int) (n : Int) (l : List α) : putAt num n l ≤ l.length := by
  have := indexBy_bd (want := geN num n) l 0
  simp only [putAt]; split <;> omega
theorem putRest_le {α : Type} [Inhabited α] (num : α → Int) (n : Int) (l : List α) : putAt num n l ≤ putRest num n l ∧ putRest num n l ≤ l.length ∧ putRest num n l ≤ putAt num n l + 1 := by
  have := putAt_le num n l
  simp only [putRest]; split <;> omega
theorem putBy_len {α : Type} [Inhabited α] (num : α → Int) (x : α) (l : List α) : (putBy num x l).length ≤ l.length + 1 := by
  have h1 := putAt_le num (num x) l
  have h2 := putRest_le num (num x) l
  simp [putBy]; omega

end Go.Proofs.Ytnghehfdclhfdaa
