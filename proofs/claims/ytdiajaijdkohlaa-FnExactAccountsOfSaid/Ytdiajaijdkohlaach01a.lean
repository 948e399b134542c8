/- Contracts of the functions that the laws run. -/
import Derived.Test.YtdiajaijdkohlaaTS
import Derived.Test.YtdiajaijdkohlaaEngB
namespace Go.Proofs.Ytdiajaijdkohlaa
open Go Go.Eng
set_option linter.unusedSimpArgs false
set_option linter.unusedVariables false
set_option maxRecDepth 10000
set_option maxHeartbeats 1000000
def mIn (x y z : Int) : Bool := decide (y ≤ x) && decide (x ≤ z)
/-- loop.example/g03007/spec.l1In -/
noncomputable def c62 : Con := mkCon 62 false (α := Int × Int × Int) (fun x => (fun (x : Int) (y : Int) (z : Int) => [dI x, dI y, dI z]) x.1 x.2.1 x.2.2) (fun _ => []) (fun x => (fun (x : Int) (y : Int) (z : Int) => True) x.1 x.2.1 x.2.2) (fun x => (fun (x : Int) (y : Int) (z : Int) => (dB (mIn x y z) : D)) x.1 x.2.1 x.2.2) (fun x => (fun (x : Int) (y : Int) (z : Int) => []) x.1 x.2.1 x.2.2)
@[simp] theorem c62_f : c62.f = 62 := rfl
@[simp] theorem c62_own : c62.own = false := rfl
theorem c62_inj : ∀ u_ v_ : Int × Int × Int, ((fun x => (fun (x : Int) (y : Int) (z : Int) => [dI x, dI y, dI z]) x.1 x.2.1 x.2.2) u_).map nz = ((fun x => (fun (x : Int) (y : Int) (z : Int) => [dI x, dI y, dI z]) x.1 x.2.1 x.2.2) v_).map nz → u_ = v_ := by
  intro u_ v_ h
  obtain ⟨x, y, z⟩ := u_
  obtain ⟨x', y', z'⟩ := v_
  simp [nz_lit, nz1_lit, nz_agg, nz_sl, nz1_sl] at h
  first | (simp [h]; done) | (obtain ⟨⟩ := h; simp_all; done) | simp_all
@[simp] theorem c62_fn (x : Int) (y : Int) (z : Int) : c62.fn [.lit (.int .i64 x), .lit (.int .i64 y), .lit (.int .i64 z)] [] = some ((fun (x : Int) (y : Int) (z : Int) => True) x y z, (fun (x : Int) (y : Int) (z : Int) => (dB (mIn x y z) : D)) x y z, (fun (x : Int) (y : Int) (z : Int) => []) x y z) :=
  mkCon_fn (fun x y h _ => c62_inj x y h) ((x, y, z) : Int × Int × Int) (by simp [nz, nz1, ML_nil]) rfl
theorem c62_pc (x : Int) (y : Int) (z : Int) : PCo Try.prog 62 [dI x, dI y, dI z] (Tab.of []) (dB (mIn x y z)) (Tab.of []) := by
  refine pco_of_run [] (E := ⟨[], [], []⟩) (m := false) (base := 0) Env.ok_nil G_ok mix 300 6 Try.func62 (by kernel_rfl) rfl (by kernel_rfl) (by kernel_rfl) rfl ?_
  simp [Try.f62]
  simp [mIn]
theorem c62_ok : c62.ok Try.prog := mkCon_ok fun ⟨x, y, z⟩ hpre => c62_pc x y z
/-- loop.example/g03007/impl.InRange -/
noncomputable def c78 : Con := mkCon 78 false (α := Int × Int × Int) (fun x => (fun (x : Int) (y : Int) (z : Int) => [dI x, dI y, dI z]) x.1 x.2.1 x.2.2) (fun _ => []) (fun x => (fun (x : Int) (y : Int) (z : Int) => True) x.1 x.2.1 x.2.2) (fun x => (fun (x : Int) (y : Int) (z : Int) => (dB (mIn x y z) : D)) x.1 x.2.1 x.2.2) (fun x => (fun (x : Int) (y : Int) (z : Int) => []) x.1 x.2.1 x.2.2)
@[simp] theorem c78_f : c78.f = 78 := rfl
@[simp] theorem c78_own : c78.own = false := rfl
theorem c78_inj : ∀ u_ v_ : Int × Int × Int, ((fun x => (fun (x : Int) (y : Int) (z : Int) => [dI x, dI y, dI z]) x.1 x.2.1 x.2.2) u_).map nz = ((fun x => (fun (x : Int) (y : Int) (z : Int) => [dI x, dI y, dI z]) x.1 x.2.1 x.2.2) v_).map nz → u_ = v_ := by
  intro u_ v_ h
  obtain ⟨x, y, z⟩ := u_
  obtain ⟨x', y', z'⟩ := v_
  simp [nz_lit, nz1_lit, nz_agg, nz_sl, nz1_sl] at h
  first | (simp [h]; done) | (obtain ⟨⟩ := h; simp_all; done) | simp_all
@[simp] theorem c78_fn (x : Int) (y : Int) (z : Int) : c78.fn [.lit (.int .i64 x), .lit (.int .i64 y), .lit (.int .i64 z)] [] = some ((fun (x : Int) (y : Int) (z : Int) => True) x y z, (fun (x : Int) (y : Int) (z : Int) => (dB (mIn x y z) : D)) x y z, (fun (x : Int) (y : Int) (z : Int) => []) x y z) :=
  mkCon_fn (fun x y h _ => c78_inj x y h) ((x, y, z) : Int × Int × Int) (by simp [nz, nz1, ML_nil]) rfl
theorem c78_pc (x : Int) (y : Int) (z : Int) : PCo Try.prog 78 [dI x, dI y, dI z] (Tab.of []) (dB (mIn x y z)) (Tab.of []) := by
  refine pco_of_run [] (E := ⟨[], [], []⟩) (m := false) (base := 0) Env.ok_nil G_ok mix 300 6 Try.func78 (by kernel_rfl) rfl (by kernel_rfl) (by kernel_rfl) rfl ?_
  simp [Try.f78]
  simp [mIn]
theorem c78_ok : c78.ok Try.prog := mkCon_ok fun ⟨x, y, z⟩ hpre => c78_pc x y z
/-- loop.example/g03007/spec.Min -/
noncomputable def c44 : Con := mkCon 44 false (α := Int × Int) (fun x => (fun (a : Int) (b : Int) => [dI a, dI b]) x.1 x.2) (fun _ => []) (fun x => (fun (a : Int) (b : Int) => True) x.1 x.2) (fun x => (fun (a : Int) (b : Int) => (dI (min a b) : D)) x.1 x.2) (fun x => (fun (a : Int) (b : Int) => []) x.1 x.2)
@[simp] theorem c44_f : c44.f = 44 := rfl
@[simp] theorem c44_own : c44.own = false := rfl
theorem c44_inj : ∀ u_ v_ : Int × Int, ((fun x => (fun (a : Int) (b : Int) => [dI a, dI b]) x.1 x.2) u_).map nz = ((fun x => (fun (a : Int) (b : Int) => [dI a, dI b]) x.1 x.2) v_).map nz → u_ = v_ := by
  intro u_ v_ h
  obtain ⟨a, b⟩ := u_
  obtain ⟨a', b'⟩ := v_
  simp [nz_lit, nz1_lit, nz_agg, nz_sl, nz1_sl] at h
  first | (simp [h]; done) | (obtain ⟨⟩ := h; simp_all; done) | simp_all
@[simp] theorem c44_fn (a : Int) (b : Int) : c44.fn [.lit (.int .i64 a), .lit (.int .i64 b)] [] = some ((fun (a : Int) (b : Int) => True) a b, (fun (a : Int) (b : Int) => (dI (min a b) : D)) a b, (fun (a : Int) (b : Int) => []) a b) :=
  mkCon_fn (fun x y h _ => c44_inj x y h) ((a, b) : Int × Int) (by simp [nz, nz1, ML_nil]) rfl
theorem c44_pc (a : Int) (b : Int) : PCo Try.prog 44 [dI a, dI b] (Tab.of []) (dI (min a b)) (Tab.of []) := by
  refine pco_of_run [] (E := ⟨[], [], []⟩) (m := false) (base := 0) Env.ok_nil G_ok mix 300 6 Try.func44 (by kernel_rfl) rfl (by kernel_rfl) (by kernel_rfl) rfl ?_
  simp [Try.f44]
  all_goals first | omega | (rw [Bool.eq_iff_iff]; simp; omega) | grind
theorem c44_ok : c44.ok Try.prog := mkCon_ok fun ⟨a, b⟩ hpre => c44_pc a b
/-- loop.example/g03007/spec.Max -/
noncomputable def c43 : Con := mkCon 43 false (α := Int × Int) (fun x => (fun (a : Int) (b : Int) => [dI a, dI b]) x.1 x.2) (fun _ => []) (fun x => (fun (a : Int) (b : Int) => True) x.1 x.2) (fun x => (fun (a : Int) (b : Int) => (dI (max a b) : D)) x.1 x.2) (fun x => (fun (a : Int) (b : Int) => []) x.1 x.2)
@[simp] theorem c43_f : c43.f = 43 := rfl
@[simp] theorem c43_own : c43.own = false := rfl
theorem c43_inj : ∀ u_ v_ : Int × Int, ((fun x => (fun (a : Int) (b : Int) => [dI a, dI b]) x.1 x.2) u_).map nz = ((fun x => (fun (a : Int) (b : Int) => [dI a, dI b]) x.1 x.2) v_).map nz → u_ = v_ := by
  intro u_ v_ h
  obtain ⟨a, b⟩ := u_
  obtain ⟨a', b'⟩ := v_
  simp [nz_lit, nz1_lit, nz_agg, nz_sl, nz1_sl] at h
  first | (simp [h]; done) | (obtain ⟨⟩ := h; simp_all; done) | simp_all
@[simp] theorem c43_fn (a : Int) (b : Int) : c43.fn [.lit (.int .i64 a), .lit (.int .i64 b)] [] = some ((fun (a : Int) (b : Int) => True) a b, (fun (a : Int) (b : Int) => (dI (max a b) : D)) a b, (fun (a : Int) (b : Int) => []) a b) :=
  mkCon_fn (fun x y h _ => c43_inj x y h) ((a, b) : Int × Int) (by simp [nz, nz1, ML_nil]) rfl
theorem c43_pc (a : Int) (b : Int) : PCo Try.prog 43 [dI a, dI b] (Tab.of []) (dI (max a b)) (Tab.of []) := by
  refine pco_of_run [] (E := ⟨[], [], []⟩) (m := false) (base := 0) Env.ok_nil G_ok mix 300 6 Try.func43 (by kernel_rfl) rfl (by kernel_rfl) (by kernel_rfl) rfl ?_
  simp [Try.f43]
  all_goals first | omega | (rw [Bool.eq_iff_iff]; simp; omega) | grind
theorem c43_ok : c43.ok Try.prog := mkCon_ok fun ⟨a, b⟩ hpre => c43_pc a b
/-- cmp.isNaN[int] -/
noncomputable def c101 : Con := mkCon 101 false (α := Int) (fun x => (fun (a : Int) => [dI a]) x) (fun _ => []) (fun x => (fun (a : Int) => True) x) (fun x => (fun (a : Int) => (dB false : D)) x) (fun x => (fun (a : Int) => []) x)
@[simp] theorem c101_f : c101.f = 101 := rfl
@[simp] theorem c101_own : c101.own = false := rfl
theorem c101_inj : ∀ u_ v_ : Int, ((fun x => (fun (a : Int) => [dI a]) x) u_).map nz = ((fun x => (fun (a : Int) => [dI a]) x) v_).map nz → u_ = v_ := by
  intro u_ v_ h
  obtain a := u_
  obtain a' := v_
  simp [nz_lit, nz1_lit, nz_agg, nz_sl, nz1_sl] at h
  first | (simp [h]; done) | (obtain ⟨⟩ := h; simp_all; done) | simp_all
@[simp] theorem c101_fn (a : Int) : c101.fn [.lit (.int .i64 a)] [] = some ((fun (a : Int) => True) a, (fun (a : Int) => (dB false : D)) a, (fun (a : Int) => []) a) :=
  mkCon_fn (fun x y h _ => c101_inj x y h) (a : Int) (by simp [nz, nz1, ML_nil]) rfl
theorem c101_pc (a : Int) : PCo Try.prog 101 [dI a] (Tab.of []) (dB false) (Tab.of []) := by
  refine pco_of_run [] (E := ⟨[], [], []⟩) (m := false) (base := 0) Env.ok_nil G_ok mix 300 6 Try.func101 (by kernel_rfl) rfl (by kernel_rfl) (by kernel_rfl) rfl ?_
  simp [Try.f101]
  all_goals first | omega | (rw [Bool.eq_iff_iff]; simp; omega) | grind
theorem c101_ok : c101.ok Try.prog := mkCon_ok fun a hpre => c101_pc a
/-- cmp.Less[int] -/
noncomputable def c87 : Con := mkCon 87 false (α := Int × Int) (fun x => (fun (a : Int) (b : Int) => [dI a, dI b]) x.1 x.2) (fun _ => []) (fun x => (fun (a : Int) (b : Int) => True) x.1 x.2) (fun x => (fun (a : Int) (b : Int) => (dB (decide (a < b)) : D)) x.1 x.2) (fun x => (fun (a : Int) (b : Int) => []) x.1 x.2)
@[simp] theorem c87_f : c87.f = 87 := rfl
@[simp] theorem c87_own : c87.own = false := rfl
theorem c87_inj : ∀ u_ v_ : Int × Int, ((fun x => (fun (a : Int) (b : Int) => [dI a, dI b]) x.1 x.2) u_).map nz = ((fun x => (fun (a : Int) (b : Int) => [dI a, dI b]) x.1 x.2) v_).map nz → u_ = v_ := by
  intro u_ v_ h
  obtain ⟨a, b⟩ := u_
  obtain ⟨a', b'⟩ := v_
  simp [nz_lit, nz1_lit, nz_agg, nz_sl, nz1_sl] at h
  first | (simp [h]; done) | (obtain ⟨⟩ := h; simp_all; done) | simp_all
@[simp] theorem c87_fn (a : Int) (b : Int) : c87.fn [.lit (.int .i64 a), .lit (.int .i64 b)] [] = some ((fun (a : Int) (b : Int) => True) a b, (fun (a : Int) (b : Int) => (dB (decide (a < b)) : D)) a b, (fun (a : Int) (b : Int) => []) a b) :=
  mkCon_fn (fun x y h _ => c87_inj x y h) ((a, b) : Int × Int) (by simp [nz, nz1, ML_nil]) rfl
theorem c87_pc (a : Int) (b : Int) : PCo Try.prog 87 [dI a, dI b] (Tab.of []) (dB (decide (a < b))) (Tab.of []) := by
  refine pco_of_run [] (E := ⟨[c101], [], []⟩) (m := false) (base := 0) (Env.ok_cons c101_ok Env.ok_nil) G_ok mix 300 6 Try.func87 (by kernel_rfl) rfl (by kernel_rfl) (by kernel_rfl) rfl ?_
  simp [Try.f87]
  all_goals first | omega | (rw [Bool.eq_iff_iff]; simp; omega) | grind
theorem c87_ok : c87.ok Try.prog := mkCon_ok fun ⟨a, b⟩ hpre => c87_pc a b
/-- loop.example/g03007/impl.isGreater -/
noncomputable def c86 : Con := mkCon 86 false (α := Int × Int) (fun x => (fun (a : Int) (b : Int) => [dI a, dI b]) x.1 x.2) (fun _ => []) (fun x => (fun (a : Int) (b : Int) => True) x.1 x.2) (fun x => (fun (a : Int) (b : Int) => (dB (decide (b < a)) : D)) x.1 x.2) (fun x => (fun (a : Int) (b : Int) => []) x.1 x.2)
@[simp] theorem c86_f : c86.f = 86 := rfl
@[simp] theorem c86_own : c86.own = false := rfl
theorem c86_inj : ∀ u_ v_ : Int × Int, ((fun x => (fun (a : Int) (b : Int) => [dI a, dI b]) x.1 x.2) u_).map nz = ((fun x => (fun (a : Int) (b : Int) => [dI a, dI b]) x.1 x.2) v_).map nz → u_ = v_ := by
  intro u_ v_ h
  obtain ⟨a, b⟩ := u_
  obtain ⟨a', b'⟩ := v_
  simp [nz_lit, nz1_lit, nz_agg, nz_sl, nz1_sl] at h
  first | (simp [h]; done) | (obtain ⟨⟩ := h; simp_all; done) | simp_all
@[simp] theorem c86_fn (a : Int) (b : Int) : c86.fn [.lit (.int .i64 a), .lit (.int .i64 b)] [] = some ((fun (a : Int) (b : Int) => True) a b, (fun (a : Int) (b : Int) => (dB (decide (b < a)) : D)) a b, (fun (a : Int) (b : Int) => []) a b) :=
  mkCon_fn (fun x y h _ => c86_inj x y h) ((a, b) : Int × Int) (by simp [nz, nz1, ML_nil]) rfl
theorem c86_pc (a : Int) (b : Int) : PCo Try.prog 86 [dI a, dI b] (Tab.of []) (dB (decide (b < a))) (Tab.of []) := by
  refine pco_of_run [] (E := ⟨[], [], []⟩) (m := false) (base := 0) Env.ok_nil G_ok mix 300 6 Try.func86 (by kernel_rfl) rfl (by kernel_rfl) (by kernel_rfl) rfl ?_
  simp [Try.f86]
  all_goals first | omega | (rw [Bool.eq_iff_iff]; simp; omega) | grind
theorem c86_ok : c86.ok Try.prog := mkCon_ok fun ⟨a, b⟩ hpre => c86_pc a b
/-- loop.example/g03007/impl.firstInOrder -/
noncomputable def c85 : Con := mkCon 85 false (α := FuncId × Int × Int) (fun x => (fun (g : FuncId) (a : Int) (b : Int) => ([.fn (.func g) [] [], dI a, .sl false 1 (dI 0) [dI b]] : List D)) x.1 x.2.1 x.2.2) (fun x => (fun (g : FuncId) (a : Int) (b : Int) => ([] : List (Nm × OO))) x.1 x.2.1 x.2.2) (fun x => (fun (g : FuncId) (a : Int) (b : Int) => g = 87 ∨ g = 86) x.1 x.2.1 x.2.2) (fun x => (fun (g : FuncId) (a : Int) (b : Int) => (dI (if g = 87 then min a b else max a b) : D)) x.1 x.2.1 x.2.2) (fun x => (fun (g : FuncId) (a : Int) (b : Int) => ([] : List (Nm × OO))) x.1 x.2.1 x.2.2)
@[simp] theorem c85_f : c85.f = 85 := rfl
@[simp] theorem c85_own : c85.own = false := rfl
theorem c85_inj : ∀ u_ v_ : FuncId × Int × Int, ((fun x => (fun (g : FuncId) (a : Int) (b : Int) => ([.fn (.func g) [] [], dI a, .sl false 1 (dI 0) [dI b]] : List D)) x.1 x.2.1 x.2.2) u_).map nz = ((fun x => (fun (g : FuncId) (a : Int) (b : Int) => ([.fn (.func g) [] [], dI a, .sl false 1 (dI 0) [dI b]] : List D)) x.1 x.2.1 x.2.2) v_).map nz → (fun x => (fun (g : FuncId) (a : Int) (b : Int) => ([] : List (Nm × OO))) x.1 x.2.1 x.2.2) u_ = (fun x => (fun (g : FuncId) (a : Int) (b : Int) => ([] : List (Nm × OO))) x.1 x.2.1 x.2.2) v_ → u_ = v_ := by
  intro u_ v_ h h2_
  obtain ⟨g, a, b⟩ := u_
  obtain ⟨g', a', b'⟩ := v_
  simp [nz_lit, nz1_lit, nz_agg, nz_sl, nz1_sl, nz_sx, nz_el, nz1_el, nz_own, nz1_own, nz_ptr, nz_fn, nz_iface] at h h2_
  first | (simp [h, h2_]; done) | (obtain ⟨h3_, h4_⟩ := List.append_inj h2_ h.1; simp_all; done) | simp_all | grind
@[simp] theorem c85_fn (g : FuncId) (a : Int) (b : Int) : c85.fn ([.fn (.func g) [] [], dI a, .sl false 1 (dI 0) [dI b]]) ([]) = some (g = 87 ∨ g = 86, dI (if g = 87 then min a b else max a b), []) :=
  mkCon_fn c85_inj ((g, a, b) : FuncId × Int × Int) rfl rfl
theorem c85_pc (g : FuncId) (a : Int) (b : Int) (hpre : g = 87 ∨ g = 86) : PCo Try.prog 85 ([.fn (.func g) [] [], dI a, .sl false 1 (dI 0) [dI b]]) (Tab.of ([])) (dI (if g = 87 then min a b else max a b)) (Tab.of ([])) := by
  refine pco_of_run [] (E := ⟨[c87, c86], [], []⟩) (m := false) (base := 0) (Env.ok_cons c87_ok (Env.ok_cons c86_ok Env.ok_nil)) G_ok mix 300 6 Try.func85 (by kernel_rfl) rfl (by kernel_rfl) (by kernel_rfl) rfl ?_
  rcases hpre with rfl | rfl
  · simp [Try.f85]
    refine loop_unroll 100 ?_
    simp
    omega
  · simp [Try.f85]
    refine loop_unroll 100 ?_
    simp
    omega
theorem c85_ok : c85.ok Try.prog := mkCon_ok fun ⟨g, a, b⟩ hpre => c85_pc g a b hpre
/-- loop.example/g03007/impl.Min -/
noncomputable def c55 : Con := mkCon 55 false (α := Int × Int) (fun x => (fun (a : Int) (b : Int) => [dI a, dI b]) x.1 x.2) (fun _ => []) (fun x => (fun (a : Int) (b : Int) => True) x.1 x.2) (fun x => (fun (a : Int) (b : Int) => (dI (min a b) : D)) x.1 x.2) (fun x => (fun (a : Int) (b : Int) => []) x.1 x.2)
@[simp] theorem c55_f : c55.f = 55 := rfl
@[simp] theorem c55_own : c55.own = false := rfl
theorem c55_inj : ∀ u_ v_ : Int × Int, ((fun x => (fun (a : Int) (b : Int) => [dI a, dI b]) x.1 x.2) u_).map nz = ((fun x => (fun (a : Int) (b : Int) => [dI a, dI b]) x.1 x.2) v_).map nz → u_ = v_ := by
  intro u_ v_ h
  obtain ⟨a, b⟩ := u_
  obtain ⟨a', b'⟩ := v_
  simp [nz_lit, nz1_lit, nz_agg, nz_sl, nz1_sl] at h
  first | (simp [h]; done) | (obtain ⟨⟩ := h; simp_all; done) | simp_all
@[simp] theorem c55_fn (a : Int) (b : Int) : c55.fn [.lit (.int .i64 a), .lit (.int .i64 b)] [] = some ((fun (a : Int) (b : Int) => True) a b, (fun (a : Int) (b : Int) => (dI (min a b) : D)) a b, (fun (a : Int) (b : Int) => []) a b) :=
  mkCon_fn (fun x y h _ => c55_inj x y h) ((a, b) : Int × Int) (by simp [nz, nz1, ML_nil]) rfl
theorem c55_pc (a : Int) (b : Int) : PCo Try.prog 55 [dI a, dI b] (Tab.of []) (dI (min a b)) (Tab.of []) := by
  refine pco_of_run [] (E := ⟨[c85, c87], [], []⟩) (m := false) (base := 0) (Env.ok_cons c85_ok (Env.ok_cons c87_ok Env.ok_nil)) G_ok mix 300 6 Try.func55 (by kernel_rfl) rfl (by kernel_rfl) (by kernel_rfl) rfl ?_
  simp [Try.f55]
  all_goals first | omega | (rw [Bool.eq_iff_iff]; simp; omega) | grind
theorem c55_ok : c55.ok Try.prog := mkCon_ok fun ⟨a, b⟩ hpre => c55_pc a b
/-- loop.example/g03007/impl.Max -/
noncomputable def c54 : Con := mkCon 54 false (α := Int × Int) (fun x => (fun (a : Int) (b : Int) => [dI a, dI b]) x.1 x.2) (fun _ => []) (fun x => (fun (a : Int) (b : Int) => True) x.1 x.2) (fun x => (fun (a : Int) (b : Int) => (dI (max a b) : D)) x.1 x.2) (fun x => (fun (a : Int) (b : Int) => []) x.1 x.2)
@[simp] theorem c54_f : c54.f = 54 := rfl
@[simp] theorem c54_own : c54.own = false := rfl
theorem c54_inj : ∀ u_ v_ : Int × Int, ((fun x => (fun (a : Int) (b : Int) => [dI a, dI b]) x.1 x.2) u_).map nz = ((fun x => (fun (a : Int) (b : Int) => [dI a, dI b]) x.1 x.2) v_).map nz → u_ = v_ := by
  intro u_ v_ h
  obtain ⟨a, b⟩ := u_
  obtain ⟨a', b'⟩ := v_
  simp [nz_lit, nz1_lit, nz_agg, nz_sl, nz1_sl] at h
  first | (simp [h]; done) | (obtain ⟨⟩ := h; simp_all; done) | simp_all
@[simp] theorem c54_fn (a : Int) (b : Int) : c54.fn [.lit (.int .i64 a), .lit (.int .i64 b)] [] = some ((fun (a : Int) (b : Int) => True) a b, (fun (a : Int) (b : Int) => (dI (max a b) : D)) a b, (fun (a : Int) (b : Int) => []) a b) :=
  mkCon_fn (fun x y h _ => c54_inj x y h) ((a, b) : Int × Int) (by simp [nz, nz1, ML_nil]) rfl
theorem c54_pc (a : Int) (b : Int) : PCo Try.prog 54 [dI a, dI b] (Tab.of []) (dI (max a b)) (Tab.of []) := by
  refine pco_of_run [] (E := ⟨[c85, c86], [], []⟩) (m := false) (base := 0) (Env.ok_cons c85_ok (Env.ok_cons c86_ok Env.ok_nil)) G_ok mix 300 6 Try.func54 (by kernel_rfl) rfl (by kernel_rfl) (by kernel_rfl) rfl ?_
  simp [Try.f54]
  all_goals first | omega | (rw [Bool.eq_iff_iff]; simp; omega) | grind
theorem c54_ok : c54.ok Try.prog := mkCon_ok fun ⟨a, b⟩ hpre => c54_pc a b
/-- loop.example/g03007/laws.toSpan -/
noncomputable def c27 : Con := mkCon 27 false (α := TSpan) (fun x => (fun (s : TSpan) => [encTSpan s]) x) (fun _ => []) (fun x => (fun (s : TSpan) => True) x) (fun x => (fun (s : TSpan) => (encTSpan s : D)) x) (fun x => (fun (s : TSpan) => []) x)
@[simp] theorem c27_f : c27.f = 27 := rfl
@[simp] theorem c27_own : c27.own = false := rfl
theorem c27_inj : ∀ u_ v_ : TSpan, ((fun x => (fun (s : TSpan) => [encTSpan s]) x) u_).map nz = ((fun x => (fun (s : TSpan) => [encTSpan s]) x) v_).map nz → u_ = v_ := by
  intro u_ v_ h
  obtain ⟨s_From, s_Until⟩ := u_
  obtain ⟨s_From', s_Until'⟩ := v_
  simp [nz_lit, nz1_lit, nz_agg, nz_sl, nz1_sl, encTSpan] at h
  first | (simp [h]; done) | (obtain ⟨⟩ := h; simp_all; done) | simp_all
@[simp] theorem c27_fn (s_From : Int) (s_Until : Int) : c27.fn [.agg [.lit (.int .i64 s_From), .lit (.int .i64 s_Until)]] [] = some ((fun (s : TSpan) => True) ⟨s_From, s_Until⟩, (fun (s : TSpan) => (encTSpan s : D)) ⟨s_From, s_Until⟩, (fun (s : TSpan) => []) ⟨s_From, s_Until⟩) :=
  mkCon_fn (fun x y h _ => c27_inj x y h) (⟨s_From, s_Until⟩ : TSpan) (by simp [nz, nz1, ML_nil, encTSpan]) rfl
theorem c27_pc (s : TSpan) : PCo Try.prog 27 [encTSpan s] (Tab.of []) (encTSpan s) (Tab.of []) := by
  obtain ⟨s_From, s_Until⟩ := s
  refine pco_of_run [] (E := ⟨[], [], []⟩) (m := false) (base := 0) Env.ok_nil G_ok mix 300 6 Try.func27 (by kernel_rfl) rfl (by kernel_rfl) (by kernel_rfl) rfl ?_
  simp [Try.f27]
  all_goals first | omega | (rw [Bool.eq_iff_iff]; simp; omega) | grind
theorem c27_ok : c27.ok Try.prog := mkCon_ok fun s hpre => c27_pc s
/-- loop.example/g03007/laws.eqSpan -/
noncomputable def c59 : Con := mkCon 59 false (α := TSpan × TSpan) (fun x => (fun (a : TSpan) (b : TSpan) => [encTSpan a, encTSpan b]) x.1 x.2) (fun _ => []) (fun x => (fun (a : TSpan) (b : TSpan) => True) x.1 x.2) (fun x => (fun (a : TSpan) (b : TSpan) => (dB (decide (a = b)) : D)) x.1 x.2) (fun x => (fun (a : TSpan) (b : TSpan) => []) x.1 x.2)
@[simp] theorem c59_f : c59.f = 59 := rfl
@[simp] theorem c59_own : c59.own = false := rfl
theorem c59_inj : ∀ u_ v_ : TSpan × TSpan, ((fun x => (fun (a : TSpan) (b : TSpan) => [encTSpan a, encTSpan b]) x.1 x.2) u_).map nz = ((fun x => (fun (a : TSpan) (b : TSpan) => [encTSpan a, encTSpan b]) x.1 x.2) v_).map nz → u_ = v_ := by
  intro u_ v_ h
  obtain ⟨⟨a_From, a_Until⟩, ⟨b_From, b_Until⟩⟩ := u_
  obtain ⟨⟨a_From', a_Until'⟩, ⟨b_From', b_Until'⟩⟩ := v_
  simp [nz_lit, nz1_lit, nz_agg, nz_sl, nz1_sl, encTSpan] at h
  first | (simp [h]; done) | (obtain ⟨⟩ := h; simp_all; done) | simp_all
@[simp] theorem c59_fn (a_From : Int) (a_Until : Int) (b_From : Int) (b_Until : Int) : c59.fn [.agg [.lit (.int .i64 a_From), .lit (.int .i64 a_Until)], .agg [.lit (.int .i64 b_From), .lit (.int .i64 b_Until)]] [] = some ((fun (a : TSpan) (b : TSpan) => True) ⟨a_From, a_Until⟩ ⟨b_From, b_Until⟩, (fun (a : TSpan) (b : TSpan) => (dB (decide (a = b)) : D)) ⟨a_From, a_Until⟩ ⟨b_From, b_Until⟩, (fun (a : TSpan) (b : TSpan) => []) ⟨a_From, a_Until⟩ ⟨b_From, b_Until⟩) :=
  mkCon_fn (fun x y h _ => c59_inj x y h) ((⟨a_From, a_Until⟩, ⟨b_From, b_Until⟩) : TSpan × TSpan) (by simp [nz, nz1, ML_nil, encTSpan]) rfl
theorem c59_pc (a : TSpan) (b : TSpan) : PCo Try.prog 59 [encTSpan a, encTSpan b] (Tab.of []) (dB (decide (a = b))) (Tab.of []) := by
  obtain ⟨a_From, a_Until⟩ := a
  obtain ⟨b_From, b_Until⟩ := b
  refine pco_of_run [] (E := ⟨[], [], []⟩) (m := false) (base := 0) Env.ok_nil G_ok mix 300 6 Try.func59 (by kernel_rfl) rfl (by kernel_rfl) (by kernel_rfl) rfl ?_
  simp [Try.f59]
  all_goals first | omega | (rw [Bool.eq_iff_iff]; simp; omega) | grind
theorem c59_ok : c59.ok Try.prog := mkCon_ok fun ⟨a, b⟩ hpre => c59_pc a b
def mIsSpan (s : TSpan) : Bool := decide (0 ≤ s.From) && decide (s.From ≤ s.Until) && decide (s.Until ≤ 100000)
/-- loop.example/g03007/spec.IsSpan -/
noncomputable def c66 : Con := mkCon 66 false (α := TSpan) (fun x => (fun (s : TSpan) => [encTSpan s]) x) (fun _ => []) (fun x => (fun (s : TSpan) => True) x) (fun x => (fun (s : TSpan) => (dB (mIsSpan s) : D)) x) (fun x => (fun (s : TSpan) => []) x)
@[simp] theorem c66_f : c66.f = 66 := rfl
@[simp] theorem c66_own : c66.own = false := rfl
theorem c66_inj : ∀ u_ v_ : TSpan, ((fun x => (fun (s : TSpan) => [encTSpan s]) x) u_).map nz = ((fun x => (fun (s : TSpan) => [encTSpan s]) x) v_).map nz → u_ = v_ := by
  intro u_ v_ h
  obtain ⟨s_From, s_Until⟩ := u_
  obtain ⟨s_From', s_Until'⟩ := v_
  simp [nz_lit, nz1_lit, nz_agg, nz_sl, nz1_sl, encTSpan] at h
  first | (simp [h]; done) | (obtain ⟨⟩ := h; simp_all; done) | simp_all
@[simp] theorem c66_fn (s_From : Int) (s_Until : Int) : c66.fn [.agg [.lit (.int .i64 s_From), .lit (.int .i64 s_Until)]] [] = some ((fun (s : TSpan) => True) ⟨s_From, s_Until⟩, (fun (s : TSpan) => (dB (mIsSpan s) : D)) ⟨s_From, s_Until⟩, (fun (s : TSpan) => []) ⟨s_From, s_Until⟩) :=
  mkCon_fn (fun x y h _ => c66_inj x y h) (⟨s_From, s_Until⟩ : TSpan) (by simp [nz, nz1, ML_nil, encTSpan]) rfl
theorem c66_pc (s : TSpan) : PCo Try.prog 66 [encTSpan s] (Tab.of []) (dB (mIsSpan s)) (Tab.of []) := by
  obtain ⟨s_From, s_Until⟩ := s
  refine pco_of_run [] (E := ⟨[c62], [], []⟩) (m := false) (base := 0) (Env.ok_cons c62_ok Env.ok_nil) G_ok mix 300 6 Try.func66 (by kernel_rfl) rfl (by kernel_rfl) (by kernel_rfl) rfl ?_
  simp [Try.f66]
  rw [Bool.eq_iff_iff]; simp [mIsSpan, mIn]; omega
theorem c66_ok : c66.ok Try.prog := mkCon_ok fun s hpre => c66_pc s
/-- loop.example/g03007/impl.IsSpan -/
noncomputable def c69 : Con := mkCon 69 false (α := TSpan) (fun x => (fun (s : TSpan) => [encTSpan s]) x) (fun _ => []) (fun x => (fun (s : TSpan) => True) x) (fun x => (fun (s : TSpan) => (dB (mIsSpan s) : D)) x) (fun x => (fun (s : TSpan) => []) x)
@[simp] theorem c69_f : c69.f = 69 := rfl
@[simp] theorem c69_own : c69.own = false := rfl
theorem c69_inj : ∀ u_ v_ : TSpan, ((fun x => (fun (s : TSpan) => [encTSpan s]) x) u_).map nz = ((fun x => (fun (s : TSpan) => [encTSpan s]) x) v_).map nz → u_ = v_ := by
  intro u_ v_ h
  obtain ⟨s_From, s_Until⟩ := u_
  obtain ⟨s_From', s_Until'⟩ := v_
  simp [nz_lit, nz1_lit, nz_agg, nz_sl, nz1_sl, encTSpan] at h
  first | (simp [h]; done) | (obtain ⟨⟩ := h; simp_all; done) | simp_all
@[simp] theorem c69_fn (s_From : Int) (s_Until : Int) : c69.fn [.agg [.lit (.int .i64 s_From), .lit (.int .i64 s_Until)]] [] = some ((fun (s : TSpan) => True) ⟨s_From, s_Until⟩, (fun (s : TSpan) => (dB (mIsSpan s) : D)) ⟨s_From, s_Until⟩, (fun (s : TSpan) => []) ⟨s_From, s_Until⟩) :=
  mkCon_fn (fun x y h _ => c69_inj x y h) (⟨s_From, s_Until⟩ : TSpan) (by simp [nz, nz1, ML_nil, encTSpan]) rfl
theorem c69_pc (s : TSpan) : PCo Try.prog 69 [encTSpan s] (Tab.of []) (dB (mIsSpan s)) (Tab.of []) := by
  obtain ⟨s_From, s_Until⟩ := s
  refine pco_of_run [] (E := ⟨[], [], []⟩) (m := false) (base := 0) Env.ok_nil G_ok mix 300 6 Try.func69 (by kernel_rfl) rfl (by kernel_rfl) (by kernel_rfl) rfl ?_
  simp [Try.f69]
  simp [mIsSpan]
theorem c69_ok : c69.ok Try.prog := mkCon_ok fun s hpre => c69_pc s
def okS (ok : Bool) (s d : TSpan) : TSpan := if ok then s else d
@[simp] theorem okS_t (s d : TSpan) : okS true s d = s := rfl
@[simp] theorem okS_f (s d : TSpan) : okS false s d = d := rfl
@[simp] def rSpan (ok : Bool) (s d : TSpan) : D := .tup [encTSpan (okS ok s d), dB ok]
def mMeet (a b : TSpan) : TSpan := ⟨max a.From b.From, min a.Until b.Until⟩
def mHull (a b : TSpan) : TSpan := ⟨min a.From b.From, max a.Until b.Until⟩
def kMeet (a b : TSpan) : Bool := mIsSpan a && mIsSpan b && mIsSpan (mMeet a b)
/-- loop.example/g03007/spec.Meet -/
noncomputable def c67 : Con := mkCon 67 false (α := TSpan × TSpan) (fun x => (fun (a : TSpan) (b : TSpan) => [encTSpan a, encTSpan b]) x.1 x.2) (fun _ => []) (fun x => (fun (a : TSpan) (b : TSpan) => True) x.1 x.2) (fun x => (fun (a : TSpan) (b : TSpan) => (rSpan (kMeet a b) (mMeet a b) ⟨0, 0⟩ : D)) x.1 x.2) (fun x => (fun (a : TSpan) (b : TSpan) => []) x.1 x.2)
@[simp] theorem c67_f : c67.f = 67 := rfl
@[simp] theorem c67_own : c67.own = false := rfl
theorem c67_inj : ∀ u_ v_ : TSpan × TSpan, ((fun x => (fun (a : TSpan) (b : TSpan) => [encTSpan a, encTSpan b]) x.1 x.2) u_).map nz = ((fun x => (fun (a : TSpan) (b : TSpan) => [encTSpan a, encTSpan b]) x.1 x.2) v_).map nz → u_ = v_ := by
  intro u_ v_ h
  obtain ⟨⟨a_From, a_Until⟩, ⟨b_From, b_Until⟩⟩ := u_
  obtain ⟨⟨a_From', a_Until'⟩, ⟨b_From', b_Until'⟩⟩ := v_
  simp [nz_lit, nz1_lit, nz_agg, nz_sl, nz1_sl, encTSpan] at h
  first | (simp [h]; done) | (obtain ⟨⟩ := h; simp_all; done) | simp_all
@[simp] theorem c67_fn (a_From : Int) (a_Until : Int) (b_From : Int) (b_Until : Int) : c67.fn [.agg [.lit (.int .i64 a_From), .lit (.int .i64 a_Until)], .agg [.lit (.int .i64 b_From), .lit (.int .i64 b_Until)]] [] = some ((fun (a : TSpan) (b : TSpan) => True) ⟨a_From, a_Until⟩ ⟨b_From, b_Until⟩, (fun (a : TSpan) (b : TSpan) => (rSpan (kMeet a b) (mMeet a b) ⟨0, 0⟩ : D)) ⟨a_From, a_Until⟩ ⟨b_From, b_Until⟩, (fun (a : TSpan) (b : TSpan) => []) ⟨a_From, a_Until⟩ ⟨b_From, b_Until⟩) :=
  mkCon_fn (fun x y h _ => c67_inj x y h) ((⟨a_From, a_Until⟩, ⟨b_From, b_Until⟩) : TSpan × TSpan) (by simp [nz, nz1, ML_nil, encTSpan]) rfl
theorem c67_pc (a : TSpan) (b : TSpan) : PCo Try.prog 67 [encTSpan a, encTSpan b] (Tab.of []) (rSpan (kMeet a b) (mMeet a b) ⟨0, 0⟩) (Tab.of []) := by
  obtain ⟨a_From, a_Until⟩ := a
  obtain ⟨b_From, b_Until⟩ := b
  refine pco_of_run [1] (E := ⟨[c43, c44, c66], [], []⟩) (m := false) (base := 0) (Env.ok_cons c43_ok (Env.ok_cons c44_ok (Env.ok_cons c66_ok Env.ok_nil))) G_ok mix 300 6 Try.func67 (by kernel_rfl) rfl (by kernel_rfl) (by kernel_rfl) rfl ?_
  simp [Try.f67]
  refine ⟨fun h => ?_, fun h1 h2 h3 => ?_⟩
  · have : kMeet ⟨a_From, a_Until⟩ ⟨b_From, b_Until⟩ = false := by simp [kMeet, mMeet]; grind
    simp [this]
  · have : kMeet ⟨a_From, a_Until⟩ ⟨b_From, b_Until⟩ = true := by simp [kMeet, mMeet, *]
    simp [this, mMeet]
theorem c67_ok : c67.ok Try.prog := mkCon_ok fun ⟨a, b⟩ hpre => c67_pc a b
def kHull (a b : TSpan) : Bool := mIsSpan a && mIsSpan b
def kWiden (s : TSpan) (n : Int) : Bool := mIsSpan s && mIn n 0 100000
def mWiden (s : TSpan) (n : Int) : TSpan := ⟨max (s.From - n) 0, min (s.Until + n) 100000⟩
theorem isSpan_of {s : TSpan} (h : mIsSpan s = true) : 0 ≤ s.From ∧ s.From ≤ s.Until ∧ s.Until ≤ 100000 := by
  simp [mIsSpan] at h; omega
theorem in_of {x y z : Int} (h : mIn x y z = true) : y ≤ x ∧ x ≤ z := by
  simp [mIn] at h; exact h
def mHolds (s : TSpan) (h : Int) : Bool := mIsSpan s && mIn h s.From s.Until
def mHours (s : TSpan) : Int := if mIsSpan s then s.Until - s.From + 1 else 0
/-- (loop.example/g03007/impl.Span).meet -/
noncomputable def c137 : Con := mkCon 137 false (α := TSpan × TSpan) (fun x => (fun (s : TSpan) (o : TSpan) => [encTSpan s, encTSpan o]) x.1 x.2) (fun _ => []) (fun x => (fun (s : TSpan) (o : TSpan) => True) x.1 x.2) (fun x => (fun (s : TSpan) (o : TSpan) => (encTSpan (mMeet s o) : D)) x.1 x.2) (fun x => (fun (s : TSpan) (o : TSpan) => []) x.1 x.2)
@[simp] theorem c137_f : c137.f = 137 := rfl
@[simp] theorem c137_own : c137.own = false := rfl
theorem c137_inj : ∀ u_ v_ : TSpan × TSpan, ((fun x => (fun (s : TSpan) (o : TSpan) => [encTSpan s, encTSpan o]) x.1 x.2) u_).map nz = ((fun x => (fun (s : TSpan) (o : TSpan) => [encTSpan s, encTSpan o]) x.1 x.2) v_).map nz → u_ = v_ := by
  intro u_ v_ h
  obtain ⟨⟨s_From, s_Until⟩, ⟨o_From, o_Until⟩⟩ := u_
  obtain ⟨⟨s_From', s_Until'⟩, ⟨o_From', o_Until'⟩⟩ := v_
  simp [nz_lit, nz1_lit, nz_agg, nz_sl, nz1_sl, encTSpan] at h
  first | (simp [h]; done) | (obtain ⟨⟩ := h; simp_all; done) | simp_all
@[simp] theorem c137_fn (s_From : Int) (s_Until : Int) (o_From : Int) (o_Until : Int) : c137.fn [.agg [.lit (.int .i64 s_From), .lit (.int .i64 s_Until)], .agg [.lit (.int .i64 o_From), .lit (.int .i64 o_Until)]] [] = some ((fun (s : TSpan) (o : TSpan) => True) ⟨s_From, s_Until⟩ ⟨o_From, o_Until⟩, (fun (s : TSpan) (o : TSpan) => (encTSpan (mMeet s o) : D)) ⟨s_From, s_Until⟩ ⟨o_From, o_Until⟩, (fun (s : TSpan) (o : TSpan) => []) ⟨s_From, s_Until⟩ ⟨o_From, o_Until⟩) :=
  mkCon_fn (fun x y h _ => c137_inj x y h) ((⟨s_From, s_Until⟩, ⟨o_From, o_Until⟩) : TSpan × TSpan) (by simp [nz, nz1, ML_nil, encTSpan]) rfl
theorem c137_pc (s : TSpan) (o : TSpan) : PCo Try.prog 137 [encTSpan s, encTSpan o] (Tab.of []) (encTSpan (mMeet s o)) (Tab.of []) := by
  obtain ⟨s_From, s_Until⟩ := s
  obtain ⟨o_From, o_Until⟩ := o
  refine pco_of_run [1] (E := ⟨[c54, c55], [], []⟩) (m := false) (base := 0) (Env.ok_cons c54_ok (Env.ok_cons c55_ok Env.ok_nil)) G_ok mix 300 6 Try.func137 (by kernel_rfl) rfl (by kernel_rfl) (by kernel_rfl) rfl ?_
  simp [Try.f137]
  simp [mMeet]
theorem c137_ok : c137.ok Try.prog := mkCon_ok fun ⟨s, o⟩ hpre => c137_pc s o
/-- (loop.example/g03007/impl.meeting).applyTo -/
noncomputable def c140 : Con := mkCon 140 false (α := TMeeting × TSpan) (fun x => (fun (c : TMeeting) (s : TSpan) => [encTMeeting c, encTSpan s]) x.1 x.2) (fun _ => []) (fun x => (fun (c : TMeeting) (s : TSpan) => True) x.1 x.2) (fun x => (fun (c : TMeeting) (s : TSpan) => (encTSpan (mMeet s c.with_) : D)) x.1 x.2) (fun x => (fun (c : TMeeting) (s : TSpan) => []) x.1 x.2)
@[simp] theorem c140_f : c140.f = 140 := rfl
@[simp] theorem c140_own : c140.own = false := rfl
theorem c140_inj : ∀ u_ v_ : TMeeting × TSpan, ((fun x => (fun (c : TMeeting) (s : TSpan) => [encTMeeting c, encTSpan s]) x.1 x.2) u_).map nz = ((fun x => (fun (c : TMeeting) (s : TSpan) => [encTMeeting c, encTSpan s]) x.1 x.2) v_).map nz → u_ = v_ := by
  intro u_ v_ h
  obtain ⟨⟨⟨c_with__From, c_with__Until⟩⟩, ⟨s_From, s_Until⟩⟩ := u_
  obtain ⟨⟨⟨c_with__From', c_with__Until'⟩⟩, ⟨s_From', s_Until'⟩⟩ := v_
  simp [nz_lit, nz1_lit, nz_agg, nz_sl, nz1_sl, encTMeeting, encTSpan] at h
  first | (simp [h]; done) | (obtain ⟨⟩ := h; simp_all; done) | simp_all
@[simp] theorem c140_fn (c_with__From : Int) (c_with__Until : Int) (s_From : Int) (s_Until : Int) : c140.fn [.agg [.lit (.int .i64 c_with__From), .lit (.int .i64 c_with__Until)], .agg [.lit (.int .i64 s_From), .lit (.int .i64 s_Until)]] [] = some ((fun (c : TMeeting) (s : TSpan) => True) ⟨⟨c_with__From, c_with__Until⟩⟩ ⟨s_From, s_Until⟩, (fun (c : TMeeting) (s : TSpan) => (encTSpan (mMeet s c.with_) : D)) ⟨⟨c_with__From, c_with__Until⟩⟩ ⟨s_From, s_Until⟩, (fun (c : TMeeting) (s : TSpan) => []) ⟨⟨c_with__From, c_with__Until⟩⟩ ⟨s_From, s_Until⟩) :=
  mkCon_fn (fun x y h _ => c140_inj x y h) ((⟨⟨c_with__From, c_with__Until⟩⟩, ⟨s_From, s_Until⟩) : TMeeting × TSpan) (by simp [nz, nz1, ML_nil, encTMeeting, encTSpan]) rfl
theorem c140_pc (c : TMeeting) (s : TSpan) : PCo Try.prog 140 [encTMeeting c, encTSpan s] (Tab.of []) (encTSpan (mMeet s c.with_)) (Tab.of []) := by
  obtain ⟨⟨c_with__From, c_with__Until⟩⟩ := c
  obtain ⟨s_From, s_Until⟩ := s
  refine pco_of_run [] (E := ⟨[c137], [], []⟩) (m := false) (base := 0) (Env.ok_cons c137_ok Env.ok_nil) G_ok mix 300 6 Try.func140 (by kernel_rfl) rfl (by kernel_rfl) (by kernel_rfl) rfl ?_
  simp [Try.f140]
  trace_state
theorem c140_ok : c140.ok Try.prog := mkCon_ok fun ⟨c, s⟩ hpre => c140_pc c s
/-- (loop.example/g03007/impl.covering).applyTo -/
noncomputable def c141 : Con := mkCon 141 false (α := TMeeting × TSpan) (fun x => (fun (c : TMeeting) (s : TSpan) => [encTMeeting c, encTSpan s]) x.1 x.2) (fun _ => []) (fun x => (fun (c : TMeeting) (s : TSpan) => True) x.1 x.2) (fun x => (fun (c : TMeeting) (s : TSpan) => (encTSpan (mHull s c.with_) : D)) x.1 x.2) (fun x => (fun (c : TMeeting) (s : TSpan) => []) x.1 x.2)
@[simp] theorem c141_f : c141.f = 141 := rfl
@[simp] theorem c141_own : c141.own = false := rfl
theorem c141_inj : ∀ u_ v_ : TMeeting × TSpan, ((fun x => (fun (c : TMeeting) (s : TSpan) => [encTMeeting c, encTSpan s]) x.1 x.2) u_).map nz = ((fun x => (fun (c : TMeeting) (s : TSpan) => [encTMeeting c, encTSpan s]) x.1 x.2) v_).map nz → u_ = v_ := by
  intro u_ v_ h
  obtain ⟨⟨⟨c_with__From, c_with__Until⟩⟩, ⟨s_From, s_Until⟩⟩ := u_
  obtain ⟨⟨⟨c_with__From', c_with__Until'⟩⟩, ⟨s_From', s_Until'⟩⟩ := v_
  simp [nz_lit, nz1_lit, nz_agg, nz_sl, nz1_sl, encTMeeting, encTSpan] at h
  first | (simp [h]; done) | (obtain ⟨⟩ := h; simp_all; done) | simp_all
@[simp] theorem c141_fn (c_with__From : Int) (c_with__Until : Int) (s_From : Int) (s_Until : Int) : c141.fn [.agg [.lit (.int .i64 c_with__From), .lit (.int .i64 c_with__Until)], .agg [.lit (.int .i64 s_From), .lit (.int .i64 s_Until)]] [] = some ((fun (c : TMeeting) (s : TSpan) => True) ⟨⟨c_with__From, c_with__Until⟩⟩ ⟨s_From, s_Until⟩, (fun (c : TMeeting) (s : TSpan) => (encTSpan (mHull s c.with_) : D)) ⟨⟨c_with__From, c_with__Until⟩⟩ ⟨s_From, s_Until⟩, (fun (c : TMeeting) (s : TSpan) => []) ⟨⟨c_with__From, c_with__Until⟩⟩ ⟨s_From, s_Until⟩) :=
  mkCon_fn (fun x y h _ => c141_inj x y h) ((⟨⟨c_with__From, c_with__Until⟩⟩, ⟨s_From, s_Until⟩) : TMeeting × TSpan) (by simp [nz, nz1, ML_nil, encTMeeting, encTSpan]) rfl
theorem c141_pc (c : TMeeting) (s : TSpan) : PCo Try.prog 141 [encTMeeting c, encTSpan s] (Tab.of []) (encTSpan (mHull s c.with_)) (Tab.of []) := by
  obtain ⟨⟨c_with__From, c_with__Until⟩⟩ := c
  obtain ⟨s_From, s_Until⟩ := s
  refine pco_of_run [1] (E := ⟨[c54, c55], [], []⟩) (m := false) (base := 0) (Env.ok_cons c54_ok (Env.ok_cons c55_ok Env.ok_nil)) G_ok mix 300 6 Try.func141 (by kernel_rfl) rfl (by kernel_rfl) (by kernel_rfl) rfl ?_
  simp [Try.f141]
  simp [mHull]
theorem c141_ok : c141.ok Try.prog := mkCon_ok fun ⟨c, s⟩ hpre => c141_pc c s
/-- (loop.example/g03007/impl.widening).applyTo -/
noncomputable def c142 : Con := mkCon 142 false (α := TWidening × TSpan) (fun x => (fun (c : TWidening) (s : TSpan) => [encTWidening c, encTSpan s]) x.1 x.2) (fun _ => []) (fun x => (fun (c : TWidening) (s : TSpan) => mIsSpan s = true ∧ mIn c.by_ 0 100000 = true) x.1 x.2) (fun x => (fun (c : TWidening) (s : TSpan) => (encTSpan (mWiden s c.by_) : D)) x.1 x.2) (fun x => (fun (c : TWidening) (s : TSpan) => []) x.1 x.2)
@[simp] theorem c142_f : c142.f = 142 := rfl
@[simp] theorem c142_own : c142.own = false := rfl
theorem c142_inj : ∀ u_ v_ : TWidening × TSpan, ((fun x => (fun (c : TWidening) (s : TSpan) => [encTWidening c, encTSpan s]) x.1 x.2) u_).map nz = ((fun x => (fun (c : TWidening) (s : TSpan) => [encTWidening c, encTSpan s]) x.1 x.2) v_).map nz → u_ = v_ := by
  intro u_ v_ h
  obtain ⟨⟨c_by_⟩, ⟨s_From, s_Until⟩⟩ := u_
  obtain ⟨⟨c_by_'⟩, ⟨s_From', s_Until'⟩⟩ := v_
  simp [nz_lit, nz1_lit, nz_agg, nz_sl, nz1_sl, encTSpan, encTWidening] at h
  first | (simp [h]; done) | (obtain ⟨⟩ := h; simp_all; done) | simp_all
@[simp] theorem c142_fn (c_by_ : Int) (s_From : Int) (s_Until : Int) : c142.fn [.agg [.lit (.int .i64 c_by_)], .agg [.lit (.int .i64 s_From), .lit (.int .i64 s_Until)]] [] = some ((fun (c : TWidening) (s : TSpan) => mIsSpan s = true ∧ mIn c.by_ 0 100000 = true) ⟨c_by_⟩ ⟨s_From, s_Until⟩, (fun (c : TWidening) (s : TSpan) => (encTSpan (mWiden s c.by_) : D)) ⟨c_by_⟩ ⟨s_From, s_Until⟩, (fun (c : TWidening) (s : TSpan) => []) ⟨c_by_⟩ ⟨s_From, s_Until⟩) :=
  mkCon_fn (fun x y h _ => c142_inj x y h) ((⟨c_by_⟩, ⟨s_From, s_Until⟩) : TWidening × TSpan) (by simp [nz, nz1, ML_nil, encTSpan, encTWidening]) rfl
theorem c142_pc (c : TWidening) (s : TSpan) (hpre : mIsSpan s = true ∧ mIn c.by_ 0 100000 = true) : PCo Try.prog 142 [encTWidening c, encTSpan s] (Tab.of []) (encTSpan (mWiden s c.by_)) (Tab.of []) := by
  obtain ⟨c_by_⟩ := c
  obtain ⟨s_From, s_Until⟩ := s
  refine pco_of_run [] (E := ⟨[c137], [], []⟩) (m := false) (base := 0) (Env.ok_cons c137_ok Env.ok_nil) G_ok mix 300 6 Try.func142 (by kernel_rfl) rfl (by kernel_rfl) (by kernel_rfl) rfl ?_
  simp [Try.f142]
  have h3 := isSpan_of hpre.1
  have h4 := in_of hpre.2
  simp [mWiden, mMeet] at h3 h4 ⊢
  omega
theorem c142_ok : c142.ok Try.prog := mkCon_ok fun ⟨c, s⟩ hpre => c142_pc c s hpre
def geN {α : Type} (num : α → Int) (n : Int) (x : α) : Bool := decide (n ≤ num x)
def putAt {α : Type} (num : α → Int) (n : Int) (l : List α) : Nat := if indexBy (geN num n) 0 l < 0 then l.length else (indexBy (geN num n) 0 l).toNat
def putRest {α : Type} [Inhabited α] (num : α → Int) (n : Int) (l : List α) : Nat := if putAt num n l < l.length ∧ num (l[putAt num n l]?.getD default) = n then putAt num n l + 1 else putAt num n l
def putBy {α : Type} [Inhabited α] (num : α → Int) (x : α) (l : List α) : List α := l.take (putAt num (num x) l) ++ x :: l.drop (putRest num (num x) l)
theorem putAt_le {α : Type} (num : α → Int) (n : Int) (l : List α) : putAt num n l ≤ l.length := by
  have := indexBy_bd (want := geN num n) l 0
  simp only [putAt]; split <;> omega
theorem putRest_le {α : Type} [Inhabited α] (num : α → Int) (n : Int) (l : List α) : putAt num n l ≤ putRest num n l ∧ putRest num n l ≤ l.length ∧ putRest num n l ≤ putAt num n l + 1 := by
  have := putAt_le num n l
  simp only [putRest]; split <;> omega
theorem putBy_len {α : Type} [Inhabited α] (num : α → Int) (x : α) (l : List α) : (putBy num x l).length ≤ l.length + 1 := by
  have h1 := putAt_le num (num x) l
  have h2 := putRest_le num (num x) l
  simp [putBy]; omega

end Go.Proofs.Ytdiajaijdkohlaa
