/- Contracts of the functions that the laws run. -/
import Derived.Test.YtmhbciaolpamaaaRTS
import Derived.Test.YtmhbciaolpamaaaREngB
namespace Go.Proofs.YtmhbciaolpamaaaR
open Go Go.Eng
set_option linter.unusedSimpArgs false
set_option linter.unusedVariables false
set_option maxRecDepth 10000
set_option maxHeartbeats 1000000
def mIn (x y z : Int) : Bool := decide (y ≤ x) && decide (x ≤ z)
/-- loop.example/g03007/spec.l1In -/
noncomputable def c102 : Con := mkCon 102 false (α := Int × Int × Int) (fun x => (fun (x : Int) (y : Int) (z : Int) => [dI x, dI y, dI z]) x.1 x.2.1 x.2.2) (fun _ => []) (fun x => (fun (x : Int) (y : Int) (z : Int) => True) x.1 x.2.1 x.2.2) (fun x => (fun (x : Int) (y : Int) (z : Int) => (dB (mIn x y z) : D)) x.1 x.2.1 x.2.2) (fun x => (fun (x : Int) (y : Int) (z : Int) => []) x.1 x.2.1 x.2.2)
@[simp] theorem c102_f : c102.f = 102 := rfl
@[simp] theorem c102_own : c102.own = false := rfl
theorem c102_inj : ∀ u_ v_ : Int × Int × Int, ((fun x => (fun (x : Int) (y : Int) (z : Int) => [dI x, dI y, dI z]) x.1 x.2.1 x.2.2) u_).map nz = ((fun x => (fun (x : Int) (y : Int) (z : Int) => [dI x, dI y, dI z]) x.1 x.2.1 x.2.2) v_).map nz → u_ = v_ := by
  intro u_ v_ h
  obtain ⟨x, y, z⟩ := u_
  obtain ⟨x', y', z'⟩ := v_
  simp [nz_lit, nz1_lit, nz_agg, nz_sl, nz1_sl] at h
  first | (simp [h]; done) | (obtain ⟨⟩ := h; simp_all; done) | simp_all
@[simp] theorem c102_fn (x : Int) (y : Int) (z : Int) : c102.fn [.lit (.int .i64 x), .lit (.int .i64 y), .lit (.int .i64 z)] [] = some ((fun (x : Int) (y : Int) (z : Int) => True) x y z, (fun (x : Int) (y : Int) (z : Int) => (dB (mIn x y z) : D)) x y z, (fun (x : Int) (y : Int) (z : Int) => []) x y z) :=
  mkCon_fn (fun x y h _ => c102_inj x y h) ((x, y, z) : Int × Int × Int) (by simp [nz, nz1, ML_nil]) rfl
theorem c102_pc (x : Int) (y : Int) (z : Int) : PCo Try.prog 102 [dI x, dI y, dI z] (Tab.of []) (dB (mIn x y z)) (Tab.of []) := by
  refine pco_of_run [] (E := ⟨[], []⟩) (m := false) (base := 0) Env.ok_nil G_ok mix 300 6 Try.func102 (by kernel_rfl) rfl (by kernel_rfl) (by kernel_rfl) rfl ?_
  simp [Try.f102]
  simp [mIn]
theorem c102_ok : c102.ok Try.prog := mkCon_ok fun ⟨x, y, z⟩ hpre => c102_pc x y z
/-- loop.example/g03007/impl.InRange -/
noncomputable def c138 : Con := mkCon 138 false (α := Int × Int × Int) (fun x => (fun (x : Int) (y : Int) (z : Int) => [dI x, dI y, dI z]) x.1 x.2.1 x.2.2) (fun _ => []) (fun x => (fun (x : Int) (y : Int) (z : Int) => True) x.1 x.2.1 x.2.2) (fun x => (fun (x : Int) (y : Int) (z : Int) => (dB (mIn x y z) : D)) x.1 x.2.1 x.2.2) (fun x => (fun (x : Int) (y : Int) (z : Int) => []) x.1 x.2.1 x.2.2)
@[simp] theorem c138_f : c138.f = 138 := rfl
@[simp] theorem c138_own : c138.own = false := rfl
theorem c138_inj : ∀ u_ v_ : Int × Int × Int, ((fun x => (fun (x : Int) (y : Int) (z : Int) => [dI x, dI y, dI z]) x.1 x.2.1 x.2.2) u_).map nz = ((fun x => (fun (x : Int) (y : Int) (z : Int) => [dI x, dI y, dI z]) x.1 x.2.1 x.2.2) v_).map nz → u_ = v_ := by
  intro u_ v_ h
  obtain ⟨x, y, z⟩ := u_
  obtain ⟨x', y', z'⟩ := v_
  simp [nz_lit, nz1_lit, nz_agg, nz_sl, nz1_sl] at h
  first | (simp [h]; done) | (obtain ⟨⟩ := h; simp_all; done) | simp_all
@[simp] theorem c138_fn (x : Int) (y : Int) (z : Int) : c138.fn [.lit (.int .i64 x), .lit (.int .i64 y), .lit (.int .i64 z)] [] = some ((fun (x : Int) (y : Int) (z : Int) => True) x y z, (fun (x : Int) (y : Int) (z : Int) => (dB (mIn x y z) : D)) x y z, (fun (x : Int) (y : Int) (z : Int) => []) x y z) :=
  mkCon_fn (fun x y h _ => c138_inj x y h) ((x, y, z) : Int × Int × Int) (by simp [nz, nz1, ML_nil]) rfl
theorem c138_pc (x : Int) (y : Int) (z : Int) : PCo Try.prog 138 [dI x, dI y, dI z] (Tab.of []) (dB (mIn x y z)) (Tab.of []) := by
  refine pco_of_run [] (E := ⟨[], []⟩) (m := false) (base := 0) Env.ok_nil G_ok mix 300 6 Try.func138 (by kernel_rfl) rfl (by kernel_rfl) (by kernel_rfl) rfl ?_
  simp [Try.f138]
  simp [mIn]
theorem c138_ok : c138.ok Try.prog := mkCon_ok fun ⟨x, y, z⟩ hpre => c138_pc x y z
/-- cmp.isNaN[int] -/
noncomputable def c259 : Con := mkCon 259 false (α := Int) (fun x => (fun (a : Int) => [dI a]) x) (fun _ => []) (fun x => (fun (a : Int) => True) x) (fun x => (fun (a : Int) => (dB false : D)) x) (fun x => (fun (a : Int) => []) x)
@[simp] theorem c259_f : c259.f = 259 := rfl
@[simp] theorem c259_own : c259.own = false := rfl
theorem c259_inj : ∀ u_ v_ : Int, ((fun x => (fun (a : Int) => [dI a]) x) u_).map nz = ((fun x => (fun (a : Int) => [dI a]) x) v_).map nz → u_ = v_ := by
  intro u_ v_ h
  obtain a := u_
  obtain a' := v_
  simp [nz_lit, nz1_lit, nz_agg, nz_sl, nz1_sl] at h
  first | (simp [h]; done) | (obtain ⟨⟩ := h; simp_all; done) | simp_all
@[simp] theorem c259_fn (a : Int) : c259.fn [.lit (.int .i64 a)] [] = some ((fun (a : Int) => True) a, (fun (a : Int) => (dB false : D)) a, (fun (a : Int) => []) a) :=
  mkCon_fn (fun x y h _ => c259_inj x y h) (a : Int) (by simp [nz, nz1, ML_nil]) rfl
theorem c259_pc (a : Int) : PCo Try.prog 259 [dI a] (Tab.of []) (dB false) (Tab.of []) := by
  refine pco_of_run [] (E := ⟨[], []⟩) (m := false) (base := 0) Env.ok_nil G_ok mix 300 6 Try.func259 (by kernel_rfl) rfl (by kernel_rfl) (by kernel_rfl) rfl ?_
  simp [Try.f259]
  all_goals first | omega | (rw [Bool.eq_iff_iff]; simp; omega) | grind
theorem c259_ok : c259.ok Try.prog := mkCon_ok fun a hpre => c259_pc a
/-- cmp.Less[int] -/
noncomputable def c257 : Con := mkCon 257 false (α := Int × Int) (fun x => (fun (a : Int) (b : Int) => [dI a, dI b]) x.1 x.2) (fun _ => []) (fun x => (fun (a : Int) (b : Int) => True) x.1 x.2) (fun x => (fun (a : Int) (b : Int) => (dB (decide (a < b)) : D)) x.1 x.2) (fun x => (fun (a : Int) (b : Int) => []) x.1 x.2)
@[simp] theorem c257_f : c257.f = 257 := rfl
@[simp] theorem c257_own : c257.own = false := rfl
theorem c257_inj : ∀ u_ v_ : Int × Int, ((fun x => (fun (a : Int) (b : Int) => [dI a, dI b]) x.1 x.2) u_).map nz = ((fun x => (fun (a : Int) (b : Int) => [dI a, dI b]) x.1 x.2) v_).map nz → u_ = v_ := by
  intro u_ v_ h
  obtain ⟨a, b⟩ := u_
  obtain ⟨a', b'⟩ := v_
  simp [nz_lit, nz1_lit, nz_agg, nz_sl, nz1_sl] at h
  first | (simp [h]; done) | (obtain ⟨⟩ := h; simp_all; done) | simp_all
@[simp] theorem c257_fn (a : Int) (b : Int) : c257.fn [.lit (.int .i64 a), .lit (.int .i64 b)] [] = some ((fun (a : Int) (b : Int) => True) a b, (fun (a : Int) (b : Int) => (dB (decide (a < b)) : D)) a b, (fun (a : Int) (b : Int) => []) a b) :=
  mkCon_fn (fun x y h _ => c257_inj x y h) ((a, b) : Int × Int) (by simp [nz, nz1, ML_nil]) rfl
theorem c257_pc (a : Int) (b : Int) : PCo Try.prog 257 [dI a, dI b] (Tab.of []) (dB (decide (a < b))) (Tab.of []) := by
  refine pco_of_run [] (E := ⟨[c259], []⟩) (m := false) (base := 0) (Env.ok_cons c259_ok Env.ok_nil) G_ok mix 300 6 Try.func257 (by kernel_rfl) rfl (by kernel_rfl) (by kernel_rfl) rfl ?_
  simp [Try.f257]
  all_goals first | omega | (rw [Bool.eq_iff_iff]; simp; omega) | grind
theorem c257_ok : c257.ok Try.prog := mkCon_ok fun ⟨a, b⟩ hpre => c257_pc a b
/-- loop.example/g03007/impl.isGreater -/
noncomputable def c258 : Con := mkCon 258 false (α := Int × Int) (fun x => (fun (a : Int) (b : Int) => [dI a, dI b]) x.1 x.2) (fun _ => []) (fun x => (fun (a : Int) (b : Int) => True) x.1 x.2) (fun x => (fun (a : Int) (b : Int) => (dB (decide (b < a)) : D)) x.1 x.2) (fun x => (fun (a : Int) (b : Int) => []) x.1 x.2)
@[simp] theorem c258_f : c258.f = 258 := rfl
@[simp] theorem c258_own : c258.own = false := rfl
theorem c258_inj : ∀ u_ v_ : Int × Int, ((fun x => (fun (a : Int) (b : Int) => [dI a, dI b]) x.1 x.2) u_).map nz = ((fun x => (fun (a : Int) (b : Int) => [dI a, dI b]) x.1 x.2) v_).map nz → u_ = v_ := by
  intro u_ v_ h
  obtain ⟨a, b⟩ := u_
  obtain ⟨a', b'⟩ := v_
  simp [nz_lit, nz1_lit, nz_agg, nz_sl, nz1_sl] at h
  first | (simp [h]; done) | (obtain ⟨⟩ := h; simp_all; done) | simp_all
@[simp] theorem c258_fn (a : Int) (b : Int) : c258.fn [.lit (.int .i64 a), .lit (.int .i64 b)] [] = some ((fun (a : Int) (b : Int) => True) a b, (fun (a : Int) (b : Int) => (dB (decide (b < a)) : D)) a b, (fun (a : Int) (b : Int) => []) a b) :=
  mkCon_fn (fun x y h _ => c258_inj x y h) ((a, b) : Int × Int) (by simp [nz, nz1, ML_nil]) rfl
theorem c258_pc (a : Int) (b : Int) : PCo Try.prog 258 [dI a, dI b] (Tab.of []) (dB (decide (b < a))) (Tab.of []) := by
  refine pco_of_run [] (E := ⟨[], []⟩) (m := false) (base := 0) Env.ok_nil G_ok mix 300 6 Try.func258 (by kernel_rfl) rfl (by kernel_rfl) (by kernel_rfl) rfl ?_
  simp [Try.f258]
  all_goals first | omega | (rw [Bool.eq_iff_iff]; simp; omega) | grind
theorem c258_ok : c258.ok Try.prog := mkCon_ok fun ⟨a, b⟩ hpre => c258_pc a b
/-- loop.example/g03007/impl.firstInOrder -/
noncomputable def c256 : Con := mkCon 256 false (α := FuncId × Int × Int) (fun x => (fun (g : FuncId) (a : Int) (b : Int) => ([.fn (.func g) [] [], dI a, .sl false 1 (dI 0) [dI b]] : List D)) x.1 x.2.1 x.2.2) (fun x => (fun (g : FuncId) (a : Int) (b : Int) => ([] : List (Nm × OO))) x.1 x.2.1 x.2.2) (fun x => (fun (g : FuncId) (a : Int) (b : Int) => g = 257 ∨ g = 258) x.1 x.2.1 x.2.2) (fun x => (fun (g : FuncId) (a : Int) (b : Int) => (dI (if g = 257 then min a b else max a b) : D)) x.1 x.2.1 x.2.2) (fun x => (fun (g : FuncId) (a : Int) (b : Int) => ([] : List (Nm × OO))) x.1 x.2.1 x.2.2)
@[simp] theorem c256_f : c256.f = 256 := rfl
@[simp] theorem c256_own : c256.own = false := rfl
theorem c256_inj : ∀ u_ v_ : FuncId × Int × Int, ((fun x => (fun (g : FuncId) (a : Int) (b : Int) => ([.fn (.func g) [] [], dI a, .sl false 1 (dI 0) [dI b]] : List D)) x.1 x.2.1 x.2.2) u_).map nz = ((fun x => (fun (g : FuncId) (a : Int) (b : Int) => ([.fn (.func g) [] [], dI a, .sl false 1 (dI 0) [dI b]] : List D)) x.1 x.2.1 x.2.2) v_).map nz → (fun x => (fun (g : FuncId) (a : Int) (b : Int) => ([] : List (Nm × OO))) x.1 x.2.1 x.2.2) u_ = (fun x => (fun (g : FuncId) (a : Int) (b : Int) => ([] : List (Nm × OO))) x.1 x.2.1 x.2.2) v_ → u_ = v_ := by
  intro u_ v_ h h2_
  obtain ⟨g, a, b⟩ := u_
  obtain ⟨g', a', b'⟩ := v_
  simp [nz_lit, nz1_lit, nz_agg, nz_sl, nz1_sl, nz_sx, nz_el, nz1_el, nz_own, nz1_own, nz_ptr, nz_fn, nz_iface] at h h2_
  first | (simp [h, h2_]; done) | (obtain ⟨h3_, h4_⟩ := List.append_inj h2_ h.1; simp_all; done) | simp_all | grind
@[simp] theorem c256_fn (g : FuncId) (a : Int) (b : Int) : c256.fn ([.fn (.func g) [] [], dI a, .sl false 1 (dI 0) [dI b]]) ([]) = some (g = 257 ∨ g = 258, dI (if g = 257 then min a b else max a b), []) :=
  mkCon_fn c256_inj ((g, a, b) : FuncId × Int × Int) rfl rfl
theorem c256_pc (g : FuncId) (a : Int) (b : Int) (hpre : g = 257 ∨ g = 258) : PCo Try.prog 256 ([.fn (.func g) [] [], dI a, .sl false 1 (dI 0) [dI b]]) (Tab.of ([])) (dI (if g = 257 then min a b else max a b)) (Tab.of ([])) := by
  refine pco_of_run [] (E := ⟨[c257, c258], []⟩) (m := false) (base := 0) (Env.ok_cons c257_ok (Env.ok_cons c258_ok Env.ok_nil)) G_ok mix 300 6 Try.func256 (by kernel_rfl) rfl (by kernel_rfl) (by kernel_rfl) rfl ?_
  rcases hpre with rfl | rfl
  · simp [Try.f256]
    refine loop_unroll 100 ?_
    simp
    omega
  · simp [Try.f256]
    refine loop_unroll 100 ?_
    simp
    omega
theorem c256_ok : c256.ok Try.prog := mkCon_ok fun ⟨g, a, b⟩ hpre => c256_pc g a b hpre
/-- loop.example/g03007/impl.Min -/
noncomputable def c253 : Con := mkCon 253 false (α := Int × Int) (fun x => (fun (a : Int) (b : Int) => [dI a, dI b]) x.1 x.2) (fun _ => []) (fun x => (fun (a : Int) (b : Int) => True) x.1 x.2) (fun x => (fun (a : Int) (b : Int) => (dI (min a b) : D)) x.1 x.2) (fun x => (fun (a : Int) (b : Int) => []) x.1 x.2)
@[simp] theorem c253_f : c253.f = 253 := rfl
@[simp] theorem c253_own : c253.own = false := rfl
theorem c253_inj : ∀ u_ v_ : Int × Int, ((fun x => (fun (a : Int) (b : Int) => [dI a, dI b]) x.1 x.2) u_).map nz = ((fun x => (fun (a : Int) (b : Int) => [dI a, dI b]) x.1 x.2) v_).map nz → u_ = v_ := by
  intro u_ v_ h
  obtain ⟨a, b⟩ := u_
  obtain ⟨a', b'⟩ := v_
  simp [nz_lit, nz1_lit, nz_agg, nz_sl, nz1_sl] at h
  first | (simp [h]; done) | (obtain ⟨⟩ := h; simp_all; done) | simp_all
@[simp] theorem c253_fn (a : Int) (b : Int) : c253.fn [.lit (.int .i64 a), .lit (.int .i64 b)] [] = some ((fun (a : Int) (b : Int) => True) a b, (fun (a : Int) (b : Int) => (dI (min a b) : D)) a b, (fun (a : Int) (b : Int) => []) a b) :=
  mkCon_fn (fun x y h _ => c253_inj x y h) ((a, b) : Int × Int) (by simp [nz, nz1, ML_nil]) rfl
theorem c253_pc (a : Int) (b : Int) : PCo Try.prog 253 [dI a, dI b] (Tab.of []) (dI (min a b)) (Tab.of []) := by
  refine pco_of_run [] (E := ⟨[c256, c257], []⟩) (m := false) (base := 0) (Env.ok_cons c256_ok (Env.ok_cons c257_ok Env.ok_nil)) G_ok mix 300 6 Try.func253 (by kernel_rfl) rfl (by kernel_rfl) (by kernel_rfl) rfl ?_
  simp [Try.f253]
  all_goals first | omega | (rw [Bool.eq_iff_iff]; simp; omega) | grind
theorem c253_ok : c253.ok Try.prog := mkCon_ok fun ⟨a, b⟩ hpre => c253_pc a b
/-- loop.example/g03007/impl.Max -/
noncomputable def c254 : Con := mkCon 254 false (α := Int × Int) (fun x => (fun (a : Int) (b : Int) => [dI a, dI b]) x.1 x.2) (fun _ => []) (fun x => (fun (a : Int) (b : Int) => True) x.1 x.2) (fun x => (fun (a : Int) (b : Int) => (dI (max a b) : D)) x.1 x.2) (fun x => (fun (a : Int) (b : Int) => []) x.1 x.2)
@[simp] theorem c254_f : c254.f = 254 := rfl
@[simp] theorem c254_own : c254.own = false := rfl
theorem c254_inj : ∀ u_ v_ : Int × Int, ((fun x => (fun (a : Int) (b : Int) => [dI a, dI b]) x.1 x.2) u_).map nz = ((fun x => (fun (a : Int) (b : Int) => [dI a, dI b]) x.1 x.2) v_).map nz → u_ = v_ := by
  intro u_ v_ h
  obtain ⟨a, b⟩ := u_
  obtain ⟨a', b'⟩ := v_
  simp [nz_lit, nz1_lit, nz_agg, nz_sl, nz1_sl] at h
  first | (simp [h]; done) | (obtain ⟨⟩ := h; simp_all; done) | simp_all
@[simp] theorem c254_fn (a : Int) (b : Int) : c254.fn [.lit (.int .i64 a), .lit (.int .i64 b)] [] = some ((fun (a : Int) (b : Int) => True) a b, (fun (a : Int) (b : Int) => (dI (max a b) : D)) a b, (fun (a : Int) (b : Int) => []) a b) :=
  mkCon_fn (fun x y h _ => c254_inj x y h) ((a, b) : Int × Int) (by simp [nz, nz1, ML_nil]) rfl
theorem c254_pc (a : Int) (b : Int) : PCo Try.prog 254 [dI a, dI b] (Tab.of []) (dI (max a b)) (Tab.of []) := by
  refine pco_of_run [] (E := ⟨[c256, c258], []⟩) (m := false) (base := 0) (Env.ok_cons c256_ok (Env.ok_cons c258_ok Env.ok_nil)) G_ok mix 300 6 Try.func254 (by kernel_rfl) rfl (by kernel_rfl) (by kernel_rfl) rfl ?_
  simp [Try.f254]
  all_goals first | omega | (rw [Bool.eq_iff_iff]; simp; omega) | grind
theorem c254_ok : c254.ok Try.prog := mkCon_ok fun ⟨a, b⟩ hpre => c254_pc a b
/-- loop.example/g03007/laws.toSpan -/
noncomputable def c115 : Con := mkCon 115 false (α := TSpan) (fun x => (fun (s : TSpan) => [encTSpan s]) x) (fun _ => []) (fun x => (fun (s : TSpan) => True) x) (fun x => (fun (s : TSpan) => (encTSpan s : D)) x) (fun x => (fun (s : TSpan) => []) x)
@[simp] theorem c115_f : c115.f = 115 := rfl
@[simp] theorem c115_own : c115.own = false := rfl
theorem c115_inj : ∀ u_ v_ : TSpan, ((fun x => (fun (s : TSpan) => [encTSpan s]) x) u_).map nz = ((fun x => (fun (s : TSpan) => [encTSpan s]) x) v_).map nz → u_ = v_ := by
  intro u_ v_ h
  obtain ⟨s_From, s_Until⟩ := u_
  obtain ⟨s_From', s_Until'⟩ := v_
  simp [nz_lit, nz1_lit, nz_agg, nz_sl, nz1_sl, encTSpan] at h
  first | (simp [h]; done) | (obtain ⟨⟩ := h; simp_all; done) | simp_all
@[simp] theorem c115_fn (s_From : Int) (s_Until : Int) : c115.fn [.agg [.lit (.int .i64 s_From), .lit (.int .i64 s_Until)]] [] = some ((fun (s : TSpan) => True) ⟨s_From, s_Until⟩, (fun (s : TSpan) => (encTSpan s : D)) ⟨s_From, s_Until⟩, (fun (s : TSpan) => []) ⟨s_From, s_Until⟩) :=
  mkCon_fn (fun x y h _ => c115_inj x y h) (⟨s_From, s_Until⟩ : TSpan) (by simp [nz, nz1, ML_nil, encTSpan]) rfl
theorem c115_pc (s : TSpan) : PCo Try.prog 115 [encTSpan s] (Tab.of []) (encTSpan s) (Tab.of []) := by
  obtain ⟨s_From, s_Until⟩ := s
  refine pco_of_run [] (E := ⟨[], []⟩) (m := false) (base := 0) Env.ok_nil G_ok mix 300 6 Try.func115 (by kernel_rfl) rfl (by kernel_rfl) (by kernel_rfl) rfl ?_
  simp [Try.f115]
  all_goals first | omega | (rw [Bool.eq_iff_iff]; simp; omega) | grind
theorem c115_ok : c115.ok Try.prog := mkCon_ok fun s hpre => c115_pc s
/-- loop.example/g03007/laws.eqSpan -/
noncomputable def c118 : Con := mkCon 118 false (α := TSpan × TSpan) (fun x => (fun (a : TSpan) (b : TSpan) => [encTSpan a, encTSpan b]) x.1 x.2) (fun _ => []) (fun x => (fun (a : TSpan) (b : TSpan) => True) x.1 x.2) (fun x => (fun (a : TSpan) (b : TSpan) => (dB (decide (a = b)) : D)) x.1 x.2) (fun x => (fun (a : TSpan) (b : TSpan) => []) x.1 x.2)
@[simp] theorem c118_f : c118.f = 118 := rfl
@[simp] theorem c118_own : c118.own = false := rfl
theorem c118_inj : ∀ u_ v_ : TSpan × TSpan, ((fun x => (fun (a : TSpan) (b : TSpan) => [encTSpan a, encTSpan b]) x.1 x.2) u_).map nz = ((fun x => (fun (a : TSpan) (b : TSpan) => [encTSpan a, encTSpan b]) x.1 x.2) v_).map nz → u_ = v_ := by
  intro u_ v_ h
  obtain ⟨⟨a_From, a_Until⟩, ⟨b_From, b_Until⟩⟩ := u_
  obtain ⟨⟨a_From', a_Until'⟩, ⟨b_From', b_Until'⟩⟩ := v_
  simp [nz_lit, nz1_lit, nz_agg, nz_sl, nz1_sl, encTSpan] at h
  first | (simp [h]; done) | (obtain ⟨⟩ := h; simp_all; done) | simp_all
@[simp] theorem c118_fn (a_From : Int) (a_Until : Int) (b_From : Int) (b_Until : Int) : c118.fn [.agg [.lit (.int .i64 a_From), .lit (.int .i64 a_Until)], .agg [.lit (.int .i64 b_From), .lit (.int .i64 b_Until)]] [] = some ((fun (a : TSpan) (b : TSpan) => True) ⟨a_From, a_Until⟩ ⟨b_From, b_Until⟩, (fun (a : TSpan) (b : TSpan) => (dB (decide (a = b)) : D)) ⟨a_From, a_Until⟩ ⟨b_From, b_Until⟩, (fun (a : TSpan) (b : TSpan) => []) ⟨a_From, a_Until⟩ ⟨b_From, b_Until⟩) :=
  mkCon_fn (fun x y h _ => c118_inj x y h) ((⟨a_From, a_Until⟩, ⟨b_From, b_Until⟩) : TSpan × TSpan) (by simp [nz, nz1, ML_nil, encTSpan]) rfl
theorem c118_pc (a : TSpan) (b : TSpan) : PCo Try.prog 118 [encTSpan a, encTSpan b] (Tab.of []) (dB (decide (a = b))) (Tab.of []) := by
  obtain ⟨a_From, a_Until⟩ := a
  obtain ⟨b_From, b_Until⟩ := b
  refine pco_of_run [] (E := ⟨[], []⟩) (m := false) (base := 0) Env.ok_nil G_ok mix 300 6 Try.func118 (by kernel_rfl) rfl (by kernel_rfl) (by kernel_rfl) rfl ?_
  simp [Try.f118]
  all_goals first | omega | (rw [Bool.eq_iff_iff]; simp; omega) | grind
theorem c118_ok : c118.ok Try.prog := mkCon_ok fun ⟨a, b⟩ hpre => c118_pc a b
def mIsSpan (s : TSpan) : Bool := decide (0 ≤ s.From) && decide (s.From ≤ s.Until) && decide (s.Until ≤ 100000)
/-- loop.example/g03007/spec.IsSpan -/
noncomputable def c187 : Con := mkCon 187 false (α := TSpan) (fun x => (fun (s : TSpan) => [encTSpan s]) x) (fun _ => []) (fun x => (fun (s : TSpan) => True) x) (fun x => (fun (s : TSpan) => (dB (mIsSpan s) : D)) x) (fun x => (fun (s : TSpan) => []) x)
@[simp] theorem c187_f : c187.f = 187 := rfl
@[simp] theorem c187_own : c187.own = false := rfl
theorem c187_inj : ∀ u_ v_ : TSpan, ((fun x => (fun (s : TSpan) => [encTSpan s]) x) u_).map nz = ((fun x => (fun (s : TSpan) => [encTSpan s]) x) v_).map nz → u_ = v_ := by
  intro u_ v_ h
  obtain ⟨s_From, s_Until⟩ := u_
  obtain ⟨s_From', s_Until'⟩ := v_
  simp [nz_lit, nz1_lit, nz_agg, nz_sl, nz1_sl, encTSpan] at h
  first | (simp [h]; done) | (obtain ⟨⟩ := h; simp_all; done) | simp_all
@[simp] theorem c187_fn (s_From : Int) (s_Until : Int) : c187.fn [.agg [.lit (.int .i64 s_From), .lit (.int .i64 s_Until)]] [] = some ((fun (s : TSpan) => True) ⟨s_From, s_Until⟩, (fun (s : TSpan) => (dB (mIsSpan s) : D)) ⟨s_From, s_Until⟩, (fun (s : TSpan) => []) ⟨s_From, s_Until⟩) :=
  mkCon_fn (fun x y h _ => c187_inj x y h) (⟨s_From, s_Until⟩ : TSpan) (by simp [nz, nz1, ML_nil, encTSpan]) rfl
theorem c187_pc (s : TSpan) : PCo Try.prog 187 [encTSpan s] (Tab.of []) (dB (mIsSpan s)) (Tab.of []) := by
  obtain ⟨s_From, s_Until⟩ := s
  refine pco_of_run [] (E := ⟨[c102], []⟩) (m := false) (base := 0) (Env.ok_cons c102_ok Env.ok_nil) G_ok mix 300 6 Try.func187 (by kernel_rfl) rfl (by kernel_rfl) (by kernel_rfl) rfl ?_
  simp [Try.f187]
  rw [Bool.eq_iff_iff]; simp [mIsSpan, mIn]; omega
theorem c187_ok : c187.ok Try.prog := mkCon_ok fun s hpre => c187_pc s
/-- loop.example/g03007/impl.IsSpan -/
noncomputable def c189 : Con := mkCon 189 false (α := TSpan) (fun x => (fun (s : TSpan) => [encTSpan s]) x) (fun _ => []) (fun x => (fun (s : TSpan) => True) x) (fun x => (fun (s : TSpan) => (dB (mIsSpan s) : D)) x) (fun x => (fun (s : TSpan) => []) x)
@[simp] theorem c189_f : c189.f = 189 := rfl
@[simp] theorem c189_own : c189.own = false := rfl
theorem c189_inj : ∀ u_ v_ : TSpan, ((fun x => (fun (s : TSpan) => [encTSpan s]) x) u_).map nz = ((fun x => (fun (s : TSpan) => [encTSpan s]) x) v_).map nz → u_ = v_ := by
  intro u_ v_ h
  obtain ⟨s_From, s_Until⟩ := u_
  obtain ⟨s_From', s_Until'⟩ := v_
  simp [nz_lit, nz1_lit, nz_agg, nz_sl, nz1_sl, encTSpan] at h
  first | (simp [h]; done) | (obtain ⟨⟩ := h; simp_all; done) | simp_all
@[simp] theorem c189_fn (s_From : Int) (s_Until : Int) : c189.fn [.agg [.lit (.int .i64 s_From), .lit (.int .i64 s_Until)]] [] = some ((fun (s : TSpan) => True) ⟨s_From, s_Until⟩, (fun (s : TSpan) => (dB (mIsSpan s) : D)) ⟨s_From, s_Until⟩, (fun (s : TSpan) => []) ⟨s_From, s_Until⟩) :=
  mkCon_fn (fun x y h _ => c189_inj x y h) (⟨s_From, s_Until⟩ : TSpan) (by simp [nz, nz1, ML_nil, encTSpan]) rfl
theorem c189_pc (s : TSpan) : PCo Try.prog 189 [encTSpan s] (Tab.of []) (dB (mIsSpan s)) (Tab.of []) := by
  obtain ⟨s_From, s_Until⟩ := s
  refine pco_of_run [] (E := ⟨[], []⟩) (m := false) (base := 0) Env.ok_nil G_ok mix 300 6 Try.func189 (by kernel_rfl) rfl (by kernel_rfl) (by kernel_rfl) rfl ?_
  simp [Try.f189]
  simp [mIsSpan]
theorem c189_ok : c189.ok Try.prog := mkCon_ok fun s hpre => c189_pc s
def okS (ok : Bool) (s d : TSpan) : TSpan := if ok then s else d
@[simp] theorem okS_t (s d : TSpan) : okS true s d = s := rfl
@[simp] theorem okS_f (s d : TSpan) : okS false s d = d := rfl
@[simp] def rSpan (ok : Bool) (s d : TSpan) : D := .tup [encTSpan (okS ok s d), dB ok]
def mMeet (a b : TSpan) : TSpan := ⟨max a.From b.From, min a.Until b.Until⟩
def mHull (a b : TSpan) : TSpan := ⟨min a.From b.From, max a.Until b.Until⟩
def kMeet (a b : TSpan) : Bool := mIsSpan a && mIsSpan b && mIsSpan (mMeet a b)
def kHull (a b : TSpan) : Bool := mIsSpan a && mIsSpan b
def kWiden (s : TSpan) (n : Int) : Bool := mIsSpan s && mIn n 0 100000
def mWiden (s : TSpan) (n : Int) : TSpan := ⟨max (s.From - n) 0, min (s.Until + n) 100000⟩
theorem isSpan_of {s : TSpan} (h : mIsSpan s = true) : 0 ≤ s.From ∧ s.From ≤ s.Until ∧ s.Until ≤ 100000 := by
  simp [mIsSpan] at h; omega
theorem in_of {x y z : Int} (h : mIn x y z = true) : y ≤ x ∧ x ≤ z := by
  simp [mIn] at h; exact h
def mHolds (s : TSpan) (h : Int) : Bool := mIsSpan s && mIn h s.From s.Until
def mHours (s : TSpan) : Int := if mIsSpan s then s.Until - s.From + 1 else 0
def geN {α : Type} (num : α → Int) (n : Int) (x : α) : Bool := decide (n ≤ num x)
def putAt {α : Type} (num : α → Int) (n : Int) (l : List α) : Nat := if indexBy (geN num n) 0 l < 0 then l.length else (indexBy (geN num n) 0 l).toNat
def putRest {α : Type} [Inhabited α] (num : α → Int) (n : Int) (l : List α) : Nat := if putAt num n l < l.length ∧ num (l[putAt num n l]?.getD default) = n then putAt num n l + 1 else putAt num n l
def putBy {α : Type} [Inhabited α] (num : α → Int) (x : α) (l : List α) : List α := l.take (putAt num (num x) l) ++ x :: l.drop (putRest num (num x) l)
theorem putAt_le {α : Type} (num : α → Int) (n : Int) (l : List α) : putAt num n l ≤ l.length := by
  have := indexBy_bd (want := geN num n) l 0
  simp only [putAt]; split <;> omega
theorem putRest_le {α : Type} [Inhabited α] (num : α → Int) (n : Int) (l : List α) : putAt num n l ≤ putRest num n l ∧ putRest num n l ≤ l.length ∧ putRest num n l ≤ putAt num n l + 1 := by
  have := putAt_le num n l
  simp only [putRest]; split <;> omega
theorem putBy_len {α : Type} [Inhabited α] (num : α → Int) (x : α) (l : List α) : (putBy num x l).length ≤ l.length + 1 := by
  have h1 := putAt_le num (num x) l
  have h2 := putRest_le num (num x) l
  simp [putBy]; omega

end Go.Proofs.YtmhbciaolpamaaaR
