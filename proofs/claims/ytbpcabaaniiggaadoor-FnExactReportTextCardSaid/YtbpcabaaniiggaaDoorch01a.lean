/- Contracts of the functions that the laws run. -/
import Derived.Test.YtbpcabaaniiggaaDoorTS
import Derived.Test.YtbpcabaaniiggaaDoorEngB
namespace Go.Proofs.YtbpcabaaniiggaaDoor
open Go Go.Eng
set_option linter.unusedSimpArgs false
set_option linter.unusedVariables false
set_option maxRecDepth 10000
set_option maxHeartbeats 1000000
def mIn (x y z : Int) : Bool := decide (y ≤ x) && decide (x ≤ z)
/-- loop.example/g03007/spec.l1In -/
noncomputable def c74 : Con := mkCon 74 false (α := Int × Int × Int) (fun x => (fun (x : Int) (y : Int) (z : Int) => [dI x, dI y, dI z]) x.1 x.2.1 x.2.2) (fun _ => []) (fun x => (fun (x : Int) (y : Int) (z : Int) => True) x.1 x.2.1 x.2.2) (fun x => (fun (x : Int) (y : Int) (z : Int) => (dB (mIn x y z) : D)) x.1 x.2.1 x.2.2) (fun x => (fun (x : Int) (y : Int) (z : Int) => []) x.1 x.2.1 x.2.2)
@[simp] theorem c74_f : c74.f = 74 := rfl
@[simp] theorem c74_own : c74.own = false := rfl
theorem c74_inj : ∀ u_ v_ : Int × Int × Int, ((fun x => (fun (x : Int) (y : Int) (z : Int) => [dI x, dI y, dI z]) x.1 x.2.1 x.2.2) u_).map nz = ((fun x => (fun (x : Int) (y : Int) (z : Int) => [dI x, dI y, dI z]) x.1 x.2.1 x.2.2) v_).map nz → u_ = v_ := by
  intro u_ v_ h
  obtain ⟨x, y, z⟩ := u_
  obtain ⟨x', y', z'⟩ := v_
  simp [nz_lit, nz1_lit, nz_agg, nz_sl, nz1_sl] at h
  first | (simp [h]; done) | (obtain ⟨⟩ := h; simp_all; done) | simp_all
@[simp] theorem c74_fn (x : Int) (y : Int) (z : Int) : c74.fn [.lit (.int .i64 x), .lit (.int .i64 y), .lit (.int .i64 z)] [] = some ((fun (x : Int) (y : Int) (z : Int) => True) x y z, (fun (x : Int) (y : Int) (z : Int) => (dB (mIn x y z) : D)) x y z, (fun (x : Int) (y : Int) (z : Int) => []) x y z) :=
  mkCon_fn (fun x y h _ => c74_inj x y h) ((x, y, z) : Int × Int × Int) (by simp [nz, nz1, ML_nil]) rfl
theorem c74_pc (x : Int) (y : Int) (z : Int) : PCo Tryd.prog 74 [dI x, dI y, dI z] (Tab.of []) (dB (mIn x y z)) (Tab.of []) := by
  refine pco_of_run [] (E := ⟨[], []⟩) (m := false) (base := 0) Env.ok_nil G_ok mix 300 6 Tryd.func74 (by kernel_rfl) rfl (by kernel_rfl) (by kernel_rfl) rfl ?_
  simp [Tryd.f74]
  simp [mIn]
theorem c74_ok : c74.ok Tryd.prog := mkCon_ok fun ⟨x, y, z⟩ hpre => c74_pc x y z
/-- loop.example/g03007/impl.InRange -/
noncomputable def c75 : Con := mkCon 75 false (α := Int × Int × Int) (fun x => (fun (x : Int) (y : Int) (z : Int) => [dI x, dI y, dI z]) x.1 x.2.1 x.2.2) (fun _ => []) (fun x => (fun (x : Int) (y : Int) (z : Int) => True) x.1 x.2.1 x.2.2) (fun x => (fun (x : Int) (y : Int) (z : Int) => (dB (mIn x y z) : D)) x.1 x.2.1 x.2.2) (fun x => (fun (x : Int) (y : Int) (z : Int) => []) x.1 x.2.1 x.2.2)
@[simp] theorem c75_f : c75.f = 75 := rfl
@[simp] theorem c75_own : c75.own = false := rfl
theorem c75_inj : ∀ u_ v_ : Int × Int × Int, ((fun x => (fun (x : Int) (y : Int) (z : Int) => [dI x, dI y, dI z]) x.1 x.2.1 x.2.2) u_).map nz = ((fun x => (fun (x : Int) (y : Int) (z : Int) => [dI x, dI y, dI z]) x.1 x.2.1 x.2.2) v_).map nz → u_ = v_ := by
  intro u_ v_ h
  obtain ⟨x, y, z⟩ := u_
  obtain ⟨x', y', z'⟩ := v_
  simp [nz_lit, nz1_lit, nz_agg, nz_sl, nz1_sl] at h
  first | (simp [h]; done) | (obtain ⟨⟩ := h; simp_all; done) | simp_all
@[simp] theorem c75_fn (x : Int) (y : Int) (z : Int) : c75.fn [.lit (.int .i64 x), .lit (.int .i64 y), .lit (.int .i64 z)] [] = some ((fun (x : Int) (y : Int) (z : Int) => True) x y z, (fun (x : Int) (y : Int) (z : Int) => (dB (mIn x y z) : D)) x y z, (fun (x : Int) (y : Int) (z : Int) => []) x y z) :=
  mkCon_fn (fun x y h _ => c75_inj x y h) ((x, y, z) : Int × Int × Int) (by simp [nz, nz1, ML_nil]) rfl
theorem c75_pc (x : Int) (y : Int) (z : Int) : PCo Tryd.prog 75 [dI x, dI y, dI z] (Tab.of []) (dB (mIn x y z)) (Tab.of []) := by
  refine pco_of_run [] (E := ⟨[], []⟩) (m := false) (base := 0) Env.ok_nil G_ok mix 300 6 Tryd.func75 (by kernel_rfl) rfl (by kernel_rfl) (by kernel_rfl) rfl ?_
  simp [Tryd.f75]
  simp [mIn]
theorem c75_ok : c75.ok Tryd.prog := mkCon_ok fun ⟨x, y, z⟩ hpre => c75_pc x y z
/-- cmp.isNaN[int] -/
noncomputable def c128 : Con := mkCon 128 false (α := Int) (fun x => (fun (a : Int) => [dI a]) x) (fun _ => []) (fun x => (fun (a : Int) => True) x) (fun x => (fun (a : Int) => (dB false : D)) x) (fun x => (fun (a : Int) => []) x)
@[simp] theorem c128_f : c128.f = 128 := rfl
@[simp] theorem c128_own : c128.own = false := rfl
theorem c128_inj : ∀ u_ v_ : Int, ((fun x => (fun (a : Int) => [dI a]) x) u_).map nz = ((fun x => (fun (a : Int) => [dI a]) x) v_).map nz → u_ = v_ := by
  intro u_ v_ h
  obtain a := u_
  obtain a' := v_
  simp [nz_lit, nz1_lit, nz_agg, nz_sl, nz1_sl] at h
  first | (simp [h]; done) | (obtain ⟨⟩ := h; simp_all; done) | simp_all
@[simp] theorem c128_fn (a : Int) : c128.fn [.lit (.int .i64 a)] [] = some ((fun (a : Int) => True) a, (fun (a : Int) => (dB false : D)) a, (fun (a : Int) => []) a) :=
  mkCon_fn (fun x y h _ => c128_inj x y h) (a : Int) (by simp [nz, nz1, ML_nil]) rfl
theorem c128_pc (a : Int) : PCo Tryd.prog 128 [dI a] (Tab.of []) (dB false) (Tab.of []) := by
  refine pco_of_run [] (E := ⟨[], []⟩) (m := false) (base := 0) Env.ok_nil G_ok mix 300 6 Tryd.func128 (by kernel_rfl) rfl (by kernel_rfl) (by kernel_rfl) rfl ?_
  simp [Tryd.f128]
  all_goals first | omega | (rw [Bool.eq_iff_iff]; simp; omega) | grind
theorem c128_ok : c128.ok Tryd.prog := mkCon_ok fun a hpre => c128_pc a
/-- cmp.Less[int] -/
noncomputable def c124 : Con := mkCon 124 false (α := Int × Int) (fun x => (fun (a : Int) (b : Int) => [dI a, dI b]) x.1 x.2) (fun _ => []) (fun x => (fun (a : Int) (b : Int) => True) x.1 x.2) (fun x => (fun (a : Int) (b : Int) => (dB (decide (a < b)) : D)) x.1 x.2) (fun x => (fun (a : Int) (b : Int) => []) x.1 x.2)
@[simp] theorem c124_f : c124.f = 124 := rfl
@[simp] theorem c124_own : c124.own = false := rfl
theorem c124_inj : ∀ u_ v_ : Int × Int, ((fun x => (fun (a : Int) (b : Int) => [dI a, dI b]) x.1 x.2) u_).map nz = ((fun x => (fun (a : Int) (b : Int) => [dI a, dI b]) x.1 x.2) v_).map nz → u_ = v_ := by
  intro u_ v_ h
  obtain ⟨a, b⟩ := u_
  obtain ⟨a', b'⟩ := v_
  simp [nz_lit, nz1_lit, nz_agg, nz_sl, nz1_sl] at h
  first | (simp [h]; done) | (obtain ⟨⟩ := h; simp_all; done) | simp_all
@[simp] theorem c124_fn (a : Int) (b : Int) : c124.fn [.lit (.int .i64 a), .lit (.int .i64 b)] [] = some ((fun (a : Int) (b : Int) => True) a b, (fun (a : Int) (b : Int) => (dB (decide (a < b)) : D)) a b, (fun (a : Int) (b : Int) => []) a b) :=
  mkCon_fn (fun x y h _ => c124_inj x y h) ((a, b) : Int × Int) (by simp [nz, nz1, ML_nil]) rfl
theorem c124_pc (a : Int) (b : Int) : PCo Tryd.prog 124 [dI a, dI b] (Tab.of []) (dB (decide (a < b))) (Tab.of []) := by
  refine pco_of_run [] (E := ⟨[c128], []⟩) (m := false) (base := 0) (Env.ok_cons c128_ok Env.ok_nil) G_ok mix 300 6 Tryd.func124 (by kernel_rfl) rfl (by kernel_rfl) (by kernel_rfl) rfl ?_
  simp [Tryd.f124]
  all_goals first | omega | (rw [Bool.eq_iff_iff]; simp; omega) | grind
theorem c124_ok : c124.ok Tryd.prog := mkCon_ok fun ⟨a, b⟩ hpre => c124_pc a b
/-- loop.example/g03007/impl.isGreater -/
noncomputable def c125 : Con := mkCon 125 false (α := Int × Int) (fun x => (fun (a : Int) (b : Int) => [dI a, dI b]) x.1 x.2) (fun _ => []) (fun x => (fun (a : Int) (b : Int) => True) x.1 x.2) (fun x => (fun (a : Int) (b : Int) => (dB (decide (b < a)) : D)) x.1 x.2) (fun x => (fun (a : Int) (b : Int) => []) x.1 x.2)
@[simp] theorem c125_f : c125.f = 125 := rfl
@[simp] theorem c125_own : c125.own = false := rfl
theorem c125_inj : ∀ u_ v_ : Int × Int, ((fun x => (fun (a : Int) (b : Int) => [dI a, dI b]) x.1 x.2) u_).map nz = ((fun x => (fun (a : Int) (b : Int) => [dI a, dI b]) x.1 x.2) v_).map nz → u_ = v_ := by
  intro u_ v_ h
  obtain ⟨a, b⟩ := u_
  obtain ⟨a', b'⟩ := v_
  simp [nz_lit, nz1_lit, nz_agg, nz_sl, nz1_sl] at h
  first | (simp [h]; done) | (obtain ⟨⟩ := h; simp_all; done) | simp_all
@[simp] theorem c125_fn (a : Int) (b : Int) : c125.fn [.lit (.int .i64 a), .lit (.int .i64 b)] [] = some ((fun (a : Int) (b : Int) => True) a b, (fun (a : Int) (b : Int) => (dB (decide (b < a)) : D)) a b, (fun (a : Int) (b : Int) => []) a b) :=
  mkCon_fn (fun x y h _ => c125_inj x y h) ((a, b) : Int × Int) (by simp [nz, nz1, ML_nil]) rfl
theorem c125_pc (a : Int) (b : Int) : PCo Tryd.prog 125 [dI a, dI b] (Tab.of []) (dB (decide (b < a))) (Tab.of []) := by
  refine pco_of_run [] (E := ⟨[], []⟩) (m := false) (base := 0) Env.ok_nil G_ok mix 300 6 Tryd.func125 (by kernel_rfl) rfl (by kernel_rfl) (by kernel_rfl) rfl ?_
  simp [Tryd.f125]
  all_goals first | omega | (rw [Bool.eq_iff_iff]; simp; omega) | grind
theorem c125_ok : c125.ok Tryd.prog := mkCon_ok fun ⟨a, b⟩ hpre => c125_pc a b
/-- loop.example/g03007/impl.firstInOrder -/
noncomputable def c123 : Con := mkCon 123 false (α := FuncId × Int × Int) (fun x => (fun (g : FuncId) (a : Int) (b : Int) => ([.fn (.func g) [] [], dI a, .sl false 1 (dI 0) [dI b]] : List D)) x.1 x.2.1 x.2.2) (fun x => (fun (g : FuncId) (a : Int) (b : Int) => ([] : List (Nm × OO))) x.1 x.2.1 x.2.2) (fun x => (fun (g : FuncId) (a : Int) (b : Int) => g = 124 ∨ g = 125) x.1 x.2.1 x.2.2) (fun x => (fun (g : FuncId) (a : Int) (b : Int) => (dI (if g = 124 then min a b else max a b) : D)) x.1 x.2.1 x.2.2) (fun x => (fun (g : FuncId) (a : Int) (b : Int) => ([] : List (Nm × OO))) x.1 x.2.1 x.2.2)
@[simp] theorem c123_f : c123.f = 123 := rfl
@[simp] theorem c123_own : c123.own = false := rfl
theorem c123_inj : ∀ u_ v_ : FuncId × Int × Int, ((fun x => (fun (g : FuncId) (a : Int) (b : Int) => ([.fn (.func g) [] [], dI a, .sl false 1 (dI 0) [dI b]] : List D)) x.1 x.2.1 x.2.2) u_).map nz = ((fun x => (fun (g : FuncId) (a : Int) (b : Int) => ([.fn (.func g) [] [], dI a, .sl false 1 (dI 0) [dI b]] : List D)) x.1 x.2.1 x.2.2) v_).map nz → (fun x => (fun (g : FuncId) (a : Int) (b : Int) => ([] : List (Nm × OO))) x.1 x.2.1 x.2.2) u_ = (fun x => (fun (g : FuncId) (a : Int) (b : Int) => ([] : List (Nm × OO))) x.1 x.2.1 x.2.2) v_ → u_ = v_ := by
  intro u_ v_ h h2_
  obtain ⟨g, a, b⟩ := u_
  obtain ⟨g', a', b'⟩ := v_
  simp [nz_lit, nz1_lit, nz_agg, nz_sl, nz1_sl, nz_sx, nz_el, nz1_el, nz_own, nz1_own, nz_ptr, nz_fn, nz_iface] at h h2_
  first | (simp [h, h2_]; done) | (obtain ⟨h3_, h4_⟩ := List.append_inj h2_ h.1; simp_all; done) | simp_all | grind
@[simp] theorem c123_fn (g : FuncId) (a : Int) (b : Int) : c123.fn ([.fn (.func g) [] [], dI a, .sl false 1 (dI 0) [dI b]]) ([]) = some (g = 124 ∨ g = 125, dI (if g = 124 then min a b else max a b), []) :=
  mkCon_fn c123_inj ((g, a, b) : FuncId × Int × Int) rfl rfl
theorem c123_pc (g : FuncId) (a : Int) (b : Int) (hpre : g = 124 ∨ g = 125) : PCo Tryd.prog 123 ([.fn (.func g) [] [], dI a, .sl false 1 (dI 0) [dI b]]) (Tab.of ([])) (dI (if g = 124 then min a b else max a b)) (Tab.of ([])) := by
  refine pco_of_run [] (E := ⟨[c124, c125], []⟩) (m := false) (base := 0) (Env.ok_cons c124_ok (Env.ok_cons c125_ok Env.ok_nil)) G_ok mix 300 6 Tryd.func123 (by kernel_rfl) rfl (by kernel_rfl) (by kernel_rfl) rfl ?_
  rcases hpre with rfl | rfl
  · simp [Tryd.f123]
    refine loop_unroll 100 ?_
    simp
    omega
  · simp [Tryd.f123]
    refine loop_unroll 100 ?_
    simp
    omega
theorem c123_ok : c123.ok Tryd.prog := mkCon_ok fun ⟨g, a, b⟩ hpre => c123_pc g a b hpre
/-- loop.example/g03007/impl.Min -/
noncomputable def c114 : Con := mkCon 114 false (α := Int × Int) (fun x => (fun (a : Int) (b : Int) => [dI a, dI b]) x.1 x.2) (fun _ => []) (fun x => (fun (a : Int) (b : Int) => True) x.1 x.2) (fun x => (fun (a : Int) (b : Int) => (dI (min a b) : D)) x.1 x.2) (fun x => (fun (a : Int) (b : Int) => []) x.1 x.2)
@[simp] theorem c114_f : c114.f = 114 := rfl
@[simp] theorem c114_own : c114.own = false := rfl
theorem c114_inj : ∀ u_ v_ : Int × Int, ((fun x => (fun (a : Int) (b : Int) => [dI a, dI b]) x.1 x.2) u_).map nz = ((fun x => (fun (a : Int) (b : Int) => [dI a, dI b]) x.1 x.2) v_).map nz → u_ = v_ := by
  intro u_ v_ h
  obtain ⟨a, b⟩ := u_
  obtain ⟨a', b'⟩ := v_
  simp [nz_lit, nz1_lit, nz_agg, nz_sl, nz1_sl] at h
  first | (simp [h]; done) | (obtain ⟨⟩ := h; simp_all; done) | simp_all
@[simp] theorem c114_fn (a : Int) (b : Int) : c114.fn [.lit (.int .i64 a), .lit (.int .i64 b)] [] = some ((fun (a : Int) (b : Int) => True) a b, (fun (a : Int) (b : Int) => (dI (min a b) : D)) a b, (fun (a : Int) (b : Int) => []) a b) :=
  mkCon_fn (fun x y h _ => c114_inj x y h) ((a, b) : Int × Int) (by simp [nz, nz1, ML_nil]) rfl
theorem c114_pc (a : Int) (b : Int) : PCo Tryd.prog 114 [dI a, dI b] (Tab.of []) (dI (min a b)) (Tab.of []) := by
  refine pco_of_run [] (E := ⟨[c123, c124], []⟩) (m := false) (base := 0) (Env.ok_cons c123_ok (Env.ok_cons c124_ok Env.ok_nil)) G_ok mix 300 6 Tryd.func114 (by kernel_rfl) rfl (by kernel_rfl) (by kernel_rfl) rfl ?_
  simp [Tryd.f114]
  all_goals first | omega | (rw [Bool.eq_iff_iff]; simp; omega) | grind
theorem c114_ok : c114.ok Tryd.prog := mkCon_ok fun ⟨a, b⟩ hpre => c114_pc a b
/-- loop.example/g03007/impl.Max -/
noncomputable def c115 : Con := mkCon 115 false (α := Int × Int) (fun x => (fun (a : Int) (b : Int) => [dI a, dI b]) x.1 x.2) (fun _ => []) (fun x => (fun (a : Int) (b : Int) => True) x.1 x.2) (fun x => (fun (a : Int) (b : Int) => (dI (max a b) : D)) x.1 x.2) (fun x => (fun (a : Int) (b : Int) => []) x.1 x.2)
@[simp] theorem c115_f : c115.f = 115 := rfl
@[simp] theorem c115_own : c115.own = false := rfl
theorem c115_inj : ∀ u_ v_ : Int × Int, ((fun x => (fun (a : Int) (b : Int) => [dI a, dI b]) x.1 x.2) u_).map nz = ((fun x => (fun (a : Int) (b : Int) => [dI a, dI b]) x.1 x.2) v_).map nz → u_ = v_ := by
  intro u_ v_ h
  obtain ⟨a, b⟩ := u_
  obtain ⟨a', b'⟩ := v_
  simp [nz_lit, nz1_lit, nz_agg, nz_sl, nz1_sl] at h
  first | (simp [h]; done) | (obtain ⟨⟩ := h; simp_all; done) | simp_all
@[simp] theorem c115_fn (a : Int) (b : Int) : c115.fn [.lit (.int .i64 a), .lit (.int .i64 b)] [] = some ((fun (a : Int) (b : Int) => True) a b, (fun (a : Int) (b : Int) => (dI (max a b) : D)) a b, (fun (a : Int) (b : Int) => []) a b) :=
  mkCon_fn (fun x y h _ => c115_inj x y h) ((a, b) : Int × Int) (by simp [nz, nz1, ML_nil]) rfl
theorem c115_pc (a : Int) (b : Int) : PCo Tryd.prog 115 [dI a, dI b] (Tab.of []) (dI (max a b)) (Tab.of []) := by
  refine pco_of_run [] (E := ⟨[c123, c125], []⟩) (m := false) (base := 0) (Env.ok_cons c123_ok (Env.ok_cons c125_ok Env.ok_nil)) G_ok mix 300 6 Tryd.func115 (by kernel_rfl) rfl (by kernel_rfl) (by kernel_rfl) rfl ?_
  simp [Tryd.f115]
  all_goals first | omega | (rw [Bool.eq_iff_iff]; simp; omega) | grind
theorem c115_ok : c115.ok Tryd.prog := mkCon_ok fun ⟨a, b⟩ hpre => c115_pc a b
/-- loop.example/g03007/laws.toSpan -/
noncomputable def c63 : Con := mkCon 63 false (α := TSpan) (fun x => (fun (s : TSpan) => [encTSpan s]) x) (fun _ => []) (fun x => (fun (s : TSpan) => True) x) (fun x => (fun (s : TSpan) => (encTSpan s : D)) x) (fun x => (fun (s : TSpan) => []) x)
@[simp] theorem c63_f : c63.f = 63 := rfl
@[simp] theorem c63_own : c63.own = false := rfl
theorem c63_inj : ∀ u_ v_ : TSpan, ((fun x => (fun (s : TSpan) => [encTSpan s]) x) u_).map nz = ((fun x => (fun (s : TSpan) => [encTSpan s]) x) v_).map nz → u_ = v_ := by
  intro u_ v_ h
  obtain ⟨s_From, s_Until⟩ := u_
  obtain ⟨s_From', s_Until'⟩ := v_
  simp [nz_lit, nz1_lit, nz_agg, nz_sl, nz1_sl, encTSpan] at h
  first | (simp [h]; done) | (obtain ⟨⟩ := h; simp_all; done) | simp_all
@[simp] theorem c63_fn (s_From : Int) (s_Until : Int) : c63.fn [.agg [.lit (.int .i64 s_From), .lit (.int .i64 s_Until)]] [] = some ((fun (s : TSpan) => True) ⟨s_From, s_Until⟩, (fun (s : TSpan) => (encTSpan s : D)) ⟨s_From, s_Until⟩, (fun (s : TSpan) => []) ⟨s_From, s_Until⟩) :=
  mkCon_fn (fun x y h _ => c63_inj x y h) (⟨s_From, s_Until⟩ : TSpan) (by simp [nz, nz1, ML_nil, encTSpan]) rfl
theorem c63_pc (s : TSpan) : PCo Tryd.prog 63 [encTSpan s] (Tab.of []) (encTSpan s) (Tab.of []) := by
  obtain ⟨s_From, s_Until⟩ := s
  refine pco_of_run [] (E := ⟨[], []⟩) (m := false) (base := 0) Env.ok_nil G_ok mix 300 6 Tryd.func63 (by kernel_rfl) rfl (by kernel_rfl) (by kernel_rfl) rfl ?_
  simp [Tryd.f63]
  all_goals first | omega | (rw [Bool.eq_iff_iff]; simp; omega) | grind
theorem c63_ok : c63.ok Tryd.prog := mkCon_ok fun s hpre => c63_pc s
/-- loop.example/g03007/laws.eqSpan -/
noncomputable def c66 : Con := mkCon 66 false (α := TSpan × TSpan) (fun x => (fun (a : TSpan) (b : TSpan) => [encTSpan a, encTSpan b]) x.1 x.2) (fun _ => []) (fun x => (fun (a : TSpan) (b : TSpan) => True) x.1 x.2) (fun x => (fun (a : TSpan) (b : TSpan) => (dB (decide (a = b)) : D)) x.1 x.2) (fun x => (fun (a : TSpan) (b : TSpan) => []) x.1 x.2)
@[simp] theorem c66_f : c66.f = 66 := rfl
@[simp] theorem c66_own : c66.own = false := rfl
theorem c66_inj : ∀ u_ v_ : TSpan × TSpan, ((fun x => (fun (a : TSpan) (b : TSpan) => [encTSpan a, encTSpan b]) x.1 x.2) u_).map nz = ((fun x => (fun (a : TSpan) (b : TSpan) => [encTSpan a, encTSpan b]) x.1 x.2) v_).map nz → u_ = v_ := by
  intro u_ v_ h
  obtain ⟨⟨a_From, a_Until⟩, ⟨b_From, b_Until⟩⟩ := u_
  obtain ⟨⟨a_From', a_Until'⟩, ⟨b_From', b_Until'⟩⟩ := v_
  simp [nz_lit, nz1_lit, nz_agg, nz_sl, nz1_sl, encTSpan] at h
  first | (simp [h]; done) | (obtain ⟨⟩ := h; simp_all; done) | simp_all
@[simp] theorem c66_fn (a_From : Int) (a_Until : Int) (b_From : Int) (b_Until : Int) : c66.fn [.agg [.lit (.int .i64 a_From), .lit (.int .i64 a_Until)], .agg [.lit (.int .i64 b_From), .lit (.int .i64 b_Until)]] [] = some ((fun (a : TSpan) (b : TSpan) => True) ⟨a_From, a_Until⟩ ⟨b_From, b_Until⟩, (fun (a : TSpan) (b : TSpan) => (dB (decide (a = b)) : D)) ⟨a_From, a_Until⟩ ⟨b_From, b_Until⟩, (fun (a : TSpan) (b : TSpan) => []) ⟨a_From, a_Until⟩ ⟨b_From, b_Until⟩) :=
  mkCon_fn (fun x y h _ => c66_inj x y h) ((⟨a_From, a_Until⟩, ⟨b_From, b_Until⟩) : TSpan × TSpan) (by simp [nz, nz1, ML_nil, encTSpan]) rfl
theorem c66_pc (a : TSpan) (b : TSpan) : PCo Tryd.prog 66 [encTSpan a, encTSpan b] (Tab.of []) (dB (decide (a = b))) (Tab.of []) := by
  obtain ⟨a_From, a_Until⟩ := a
  obtain ⟨b_From, b_Until⟩ := b
  refine pco_of_run [] (E := ⟨[], []⟩) (m := false) (base := 0) Env.ok_nil G_ok mix 300 6 Tryd.func66 (by kernel_rfl) rfl (by kernel_rfl) (by kernel_rfl) rfl ?_
  simp [Tryd.f66]
  all_goals first | omega | (rw [Bool.eq_iff_iff]; simp; omega) | grind
theorem c66_ok : c66.ok Tryd.prog := mkCon_ok fun ⟨a, b⟩ hpre => c66_pc a b
def mIsSpan (s : TSpan) : Bool := decide (0 ≤ s.From) && decide (s.From ≤ s.Until) && decide (s.Until ≤ 100000)
/-- loop.example/g03007/spec.IsSpan -/
noncomputable def c97 : Con := mkCon 97 false (α := TSpan) (fun x => (fun (s : TSpan) => [encTSpan s]) x) (fun _ => []) (fun x => (fun (s : TSpan) => True) x) (fun x => (fun (s : TSpan) => (dB (mIsSpan s) : D)) x) (fun x => (fun (s : TSpan) => []) x)
@[simp] theorem c97_f : c97.f = 97 := rfl
@[simp] theorem c97_own : c97.own = false := rfl
theorem c97_inj : ∀ u_ v_ : TSpan, ((fun x => (fun (s : TSpan) => [encTSpan s]) x) u_).map nz = ((fun x => (fun (s : TSpan) => [encTSpan s]) x) v_).map nz → u_ = v_ := by
  intro u_ v_ h
  obtain ⟨s_From, s_Until⟩ := u_
  obtain ⟨s_From', s_Until'⟩ := v_
  simp [nz_lit, nz1_lit, nz_agg, nz_sl, nz1_sl, encTSpan] at h
  first | (simp [h]; done) | (obtain ⟨⟩ := h; simp_all; done) | simp_all
@[simp] theorem c97_fn (s_From : Int) (s_Until : Int) : c97.fn [.agg [.lit (.int .i64 s_From), .lit (.int .i64 s_Until)]] [] = some ((fun (s : TSpan) => True) ⟨s_From, s_Until⟩, (fun (s : TSpan) => (dB (mIsSpan s) : D)) ⟨s_From, s_Until⟩, (fun (s : TSpan) => []) ⟨s_From, s_Until⟩) :=
  mkCon_fn (fun x y h _ => c97_inj x y h) (⟨s_From, s_Until⟩ : TSpan) (by simp [nz, nz1, ML_nil, encTSpan]) rfl
theorem c97_pc (s : TSpan) : PCo Tryd.prog 97 [encTSpan s] (Tab.of []) (dB (mIsSpan s)) (Tab.of []) := by
  obtain ⟨s_From, s_Until⟩ := s
  refine pco_of_run [] (E := ⟨[c74], []⟩) (m := false) (base := 0) (Env.ok_cons c74_ok Env.ok_nil) G_ok mix 300 6 Tryd.func97 (by kernel_rfl) rfl (by kernel_rfl) (by kernel_rfl) rfl ?_
  simp [Tryd.f97]
  rw [Bool.eq_iff_iff]; simp [mIsSpan, mIn]; omega
theorem c97_ok : c97.ok Tryd.prog := mkCon_ok fun s hpre => c97_pc s
/-- loop.example/g03007/impl.IsSpan -/
noncomputable def c99 : Con := mkCon 99 false (α := TSpan) (fun x => (fun (s : TSpan) => [encTSpan s]) x) (fun _ => []) (fun x => (fun (s : TSpan) => True) x) (fun x => (fun (s : TSpan) => (dB (mIsSpan s) : D)) x) (fun x => (fun (s : TSpan) => []) x)
@[simp] theorem c99_f : c99.f = 99 := rfl
@[simp] theorem c99_own : c99.own = false := rfl
theorem c99_inj : ∀ u_ v_ : TSpan, ((fun x => (fun (s : TSpan) => [encTSpan s]) x) u_).map nz = ((fun x => (fun (s : TSpan) => [encTSpan s]) x) v_).map nz → u_ = v_ := by
  intro u_ v_ h
  obtain ⟨s_From, s_Until⟩ := u_
  obtain ⟨s_From', s_Until'⟩ := v_
  simp [nz_lit, nz1_lit, nz_agg, nz_sl, nz1_sl, encTSpan] at h
  first | (simp [h]; done) | (obtain ⟨⟩ := h; simp_all; done) | simp_all
@[simp] theorem c99_fn (s_From : Int) (s_Until : Int) : c99.fn [.agg [.lit (.int .i64 s_From), .lit (.int .i64 s_Until)]] [] = some ((fun (s : TSpan) => True) ⟨s_From, s_Until⟩, (fun (s : TSpan) => (dB (mIsSpan s) : D)) ⟨s_From, s_Until⟩, (fun (s : TSpan) => []) ⟨s_From, s_Until⟩) :=
  mkCon_fn (fun x y h _ => c99_inj x y h) (⟨s_From, s_Until⟩ : TSpan) (by simp [nz, nz1, ML_nil, encTSpan]) rfl
theorem c99_pc (s : TSpan) : PCo Tryd.prog 99 [encTSpan s] (Tab.of []) (dB (mIsSpan s)) (Tab.of []) := by
  obtain ⟨s_From, s_Until⟩ := s
  refine pco_of_run [] (E := ⟨[], []⟩) (m := false) (base := 0) Env.ok_nil G_ok mix 300 6 Tryd.func99 (by kernel_rfl) rfl (by kernel_rfl) (by kernel_rfl) rfl ?_
  simp [Tryd.f99]
  simp [mIsSpan]
theorem c99_ok : c99.ok Tryd.prog := mkCon_ok fun s hpre => c99_pc s
def okS (ok : Bool) (s d : TSpan) : TSpan := if ok then s else d
@[simp] theorem okS_t (s d : TSpan) : okS true s d = s := rfl
@[simp] theorem okS_f (s d : TSpan) : okS false s d = d := rfl
@[simp] def rSpan (ok : Bool) (s d : TSpan) : D := .tup [encTSpan (okS ok s d), dB ok]
def mMeet (a b : TSpan) : TSpan := ⟨max a.From b.From, min a.Until b.Until⟩
def mHull (a b : TSpan) : TSpan := ⟨min a.From b.From, max a.Until b.Until⟩
def kMeet (a b : TSpan) : Bool := mIsSpan a && mIsSpan b && mIsSpan (mMeet a b)
def kHull (a b : TSpan) : Bool := mIsSpan a && mIsSpan b
def kWiden (s : TSpan) (n : Int) : Bool := mIsSpan s && mIn n 0 100000
def mWiden (s : TSpan) (n : Int) : TSpan := ⟨max (s.From - n) 0, min (s.Until + n) 100000⟩
theorem isSpan_of {s : TSpan} (h : mIsSpan s = true) : 0 ≤ s.From ∧ s.From ≤ s.Until ∧ s.Until ≤ 100000 := by
  simp [mIsSpan] at h; omega
theorem in_of {x y z : Int} (h : mIn x y z = true) : y ≤ x ∧ x ≤ z := by
  simp [mIn] at h; exact h
def mHolds (s : TSpan) (h : Int) : Bool := mIsSpan s && mIn h s.From s.Until
def mHours (s : TSpan) : Int := if mIsSpan s then s.Until - s.From + 1 else 0
def geN {α : Type} (num : α → Int) (n : Int) (x : α) : Bool := decide (n ≤ num x)
def putAt {α : Type} (num : α → Int) (n : Int) (l : List α) : Nat := if indexBy (geN num n) 0 l < 0 then l.length else (indexBy (geN num n) 0 l).toNat
def putRest {α : Type} [Inhabited α] (num : α → Int) (n : Int) (l : List α) : Nat := if putAt num n l < l.length ∧ num (l[putAt num n l]?.getD default) = n then putAt num n l + 1 else putAt num n l
def putBy {α : Type} [Inhabited α] (num : α → Int) (x : α) (l : List α) : List α := l.take (putAt num (num x) l) ++ x :: l.drop (putRest num (num x) l)
theorem putAt_le {α : Type} (num : α → Int) (n : Int) (l : List α) : putAt num n l ≤ l.length := by
  have := indexBy_bd (want := geN num n) l 0
  simp only [putAt]; split <;> omega
theorem putRest_le {α : Type} [Inhabited α] (num : α → Int) (n : Int) (l : List α) : putAt num n l ≤ putRest num n l ∧ putRest num n l ≤ l.length ∧ putRest num n l ≤ putAt num n l + 1 := by
  have := putAt_le num n l
  simp only [putRest]; split <;> omega
theorem putBy_len {α : Type} [Inhabited α] (num : α → Int) (x : α) (l : List α) : (putBy num x l).length ≤ l.length + 1 := by
  have h1 := putAt_le num (num x) l
  have h2 := putRest_le num (num x) l
  simp [putBy]; omega

end Go.Proofs.YtbpcabaaniiggaaDoor
