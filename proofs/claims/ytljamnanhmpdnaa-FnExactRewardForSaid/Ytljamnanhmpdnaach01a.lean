/- Contracts of the functions that the laws run. -/
import Derived.Test.YtljamnanhmpdnaaTS
import Derived.Test.YtljamnanhmpdnaaEngB
namespace Go.Proofs.Ytljamnanhmpdnaa
open Go Go.Eng
set_option linter.unusedSimpArgs false
set_option linter.unusedVariables false
set_option maxRecDepth 10000
set_option maxHeartbeats 1000000
def mIn (x y z : Int) : Bool := decide (y ≤ x) && decide (x ≤ z)
/-- loop.example/g03007/spec.l1In -/
noncomputable def c61 : Con := mkCon 61 false (α := Int × Int × Int) (fun x => (fun (x : Int) (y : Int) (z : Int) => [dI x, dI y, dI z]) x.1 x.2.1 x.2.2) (fun _ => []) (fun x => (fun (x : Int) (y : Int) (z : Int) => True) x.1 x.2.1 x.2.2) (fun x => (fun (x : Int) (y : Int) (z : Int) => (dB (mIn x y z) : D)) x.1 x.2.1 x.2.2) (fun x => (fun (x : Int) (y : Int) (z : Int) => []) x.1 x.2.1 x.2.2)
@[simp] theorem c61_f : c61.f = 61 := rfl
@[simp] theorem c61_own : c61.own = false := rfl
theorem c61_inj : ∀ u_ v_ : Int × Int × Int, ((fun x => (fun (x : Int) (y : Int) (z : Int) => [dI x, dI y, dI z]) x.1 x.2.1 x.2.2) u_).map nz = ((fun x => (fun (x : Int) (y : Int) (z : Int) => [dI x, dI y, dI z]) x.1 x.2.1 x.2.2) v_).map nz → u_ = v_ := by
  intro u_ v_ h
  obtain ⟨x, y, z⟩ := u_
  obtain ⟨x', y', z'⟩ := v_
  simp [nz_lit, nz1_lit, nz_agg, nz_sl, nz1_sl] at h
  first | (simp [h]; done) | (obtain ⟨⟩ := h; simp_all; done) | simp_all
@[simp] theorem c61_fn (x : Int) (y : Int) (z : Int) : c61.fn [.lit (.int .i64 x), .lit (.int .i64 y), .lit (.int .i64 z)] [] = some ((fun (x : Int) (y : Int) (z : Int) => True) x y z, (fun (x : Int) (y : Int) (z : Int) => (dB (mIn x y z) : D)) x y z, (fun (x : Int) (y : Int) (z : Int) => []) x y z) :=
  mkCon_fn (fun x y h _ => c61_inj x y h) ((x, y, z) : Int × Int × Int) (by simp [nz, nz1, ML_nil]) rfl
theorem c61_pc (x : Int) (y : Int) (z : Int) : PCo Try.prog 61 [dI x, dI y, dI z] (Tab.of []) (dB (mIn x y z)) (Tab.of []) := by
  refine pco_of_run [] (E := ⟨[], []⟩) (m := false) (base := 0) Env.ok_nil G_ok mix 300 6 Try.func61 (by kernel_rfl) rfl (by kernel_rfl) (by kernel_rfl) rfl ?_
  simp [Try.f61]
  simp [mIn]
theorem c61_ok : c61.ok Try.prog := mkCon_ok fun ⟨x, y, z⟩ hpre => c61_pc x y z
/-- loop.example/g03007/impl.InRange -/
noncomputable def c80 : Con := mkCon 80 false (α := Int × Int × Int) (fun x => (fun (x : Int) (y : Int) (z : Int) => [dI x, dI y, dI z]) x.1 x.2.1 x.2.2) (fun _ => []) (fun x => (fun (x : Int) (y : Int) (z : Int) => True) x.1 x.2.1 x.2.2) (fun x => (fun (x : Int) (y : Int) (z : Int) => (dB (mIn x y z) : D)) x.1 x.2.1 x.2.2) (fun x => (fun (x : Int) (y : Int) (z : Int) => []) x.1 x.2.1 x.2.2)
@[simp] theorem c80_f : c80.f = 80 := rfl
@[simp] theorem c80_own : c80.own = false := rfl
theorem c80_inj : ∀ u_ v_ : Int × Int × Int, ((fun x => (fun (x : Int) (y : Int) (z : Int) => [dI x, dI y, dI z]) x.1 x.2.1 x.2.2) u_).map nz = ((fun x => (fun (x : Int) (y : Int) (z : Int) => [dI x, dI y, dI z]) x.1 x.2.1 x.2.2) v_).map nz → u_ = v_ := by
  intro u_ v_ h
  obtain ⟨x, y, z⟩ := u_
  obtain ⟨x', y', z'⟩ := v_
  simp [nz_lit, nz1_lit, nz_agg, nz_sl, nz1_sl] at h
  first | (simp [h]; done) | (obtain ⟨⟩ := h; simp_all; done) | simp_all
@[simp] theorem c80_fn (x : Int) (y : Int) (z : Int) : c80.fn [.lit (.int .i64 x), .lit (.int .i64 y), .lit (.int .i64 z)] [] = some ((fun (x : Int) (y : Int) (z : Int) => True) x y z, (fun (x : Int) (y : Int) (z : Int) => (dB (mIn x y z) : D)) x y z, (fun (x : Int) (y : Int) (z : Int) => []) x y z) :=
  mkCon_fn (fun x y h _ => c80_inj x y h) ((x, y, z) : Int × Int × Int) (by simp [nz, nz1, ML_nil]) rfl
theorem c80_pc (x : Int) (y : Int) (z : Int) : PCo Try.prog 80 [dI x, dI y, dI z] (Tab.of []) (dB (mIn x y z)) (Tab.of []) := by
  refine pco_of_run [] (E := ⟨[], []⟩) (m := false) (base := 0) Env.ok_nil G_ok mix 300 6 Try.func80 (by kernel_rfl) rfl (by kernel_rfl) (by kernel_rfl) rfl ?_
  simp [Try.f80]
  simp [mIn]
theorem c80_ok : c80.ok Try.prog := mkCon_ok fun ⟨x, y, z⟩ hpre => c80_pc x y z
/-- loop.example/g03007/spec.Min -/
noncomputable def c78 : Con := mkCon 78 false (α := Int × Int) (fun x => (fun (a : Int) (b : Int) => [dI a, dI b]) x.1 x.2) (fun _ => []) (fun x => (fun (a : Int) (b : Int) => True) x.1 x.2) (fun x => (fun (a : Int) (b : Int) => (dI (min a b) : D)) x.1 x.2) (fun x => (fun (a : Int) (b : Int) => []) x.1 x.2)
@[simp] theorem c78_f : c78.f = 78 := rfl
@[simp] theorem c78_own : c78.own = false := rfl
theorem c78_inj : ∀ u_ v_ : Int × Int, ((fun x => (fun (a : Int) (b : Int) => [dI a, dI b]) x.1 x.2) u_).map nz = ((fun x => (fun (a : Int) (b : Int) => [dI a, dI b]) x.1 x.2) v_).map nz → u_ = v_ := by
  intro u_ v_ h
  obtain ⟨a, b⟩ := u_
  obtain ⟨a', b'⟩ := v_
  simp [nz_lit, nz1_lit, nz_agg, nz_sl, nz1_sl] at h
  first | (simp [h]; done) | (obtain ⟨⟩ := h; simp_all; done) | simp_all
@[simp] theorem c78_fn (a : Int) (b : Int) : c78.fn [.lit (.int .i64 a), .lit (.int .i64 b)] [] = some ((fun (a : Int) (b : Int) => True) a b, (fun (a : Int) (b : Int) => (dI (min a b) : D)) a b, (fun (a : Int) (b : Int) => []) a b) :=
  mkCon_fn (fun x y h _ => c78_inj x y h) ((a, b) : Int × Int) (by simp [nz, nz1, ML_nil]) rfl
theorem c78_pc (a : Int) (b : Int) : PCo Try.prog 78 [dI a, dI b] (Tab.of []) (dI (min a b)) (Tab.of []) := by
  refine pco_of_run [] (E := ⟨[], []⟩) (m := false) (base := 0) Env.ok_nil G_ok mix 300 6 Try.func78 (by kernel_rfl) rfl (by kernel_rfl) (by kernel_rfl) rfl ?_
  simp [Try.f78]
  all_goals first | omega | (rw [Bool.eq_iff_iff]; simp; omega) | grind
theorem c78_ok : c78.ok Try.prog := mkCon_ok fun ⟨a, b⟩ hpre => c78_pc a b
/-- loop.example/g03007/spec.Max -/
noncomputable def c82 : Con := mkCon 82 false (α := Int × Int) (fun x => (fun (a : Int) (b : Int) => [dI a, dI b]) x.1 x.2) (fun _ => []) (fun x => (fun (a : Int) (b : Int) => True) x.1 x.2) (fun x => (fun (a : Int) (b : Int) => (dI (max a b) : D)) x.1 x.2) (fun x => (fun (a : Int) (b : Int) => []) x.1 x.2)
@[simp] theorem c82_f : c82.f = 82 := rfl
@[simp] theorem c82_own : c82.own = false := rfl
theorem c82_inj : ∀ u_ v_ : Int × Int, ((fun x => (fun (a : Int) (b : Int) => [dI a, dI b]) x.1 x.2) u_).map nz = ((fun x => (fun (a : Int) (b : Int) => [dI a, dI b]) x.1 x.2) v_).map nz → u_ = v_ := by
  intro u_ v_ h
  obtain ⟨a, b⟩ := u_
  obtain ⟨a', b'⟩ := v_
  simp [nz_lit, nz1_lit, nz_agg, nz_sl, nz1_sl] at h
  first | (simp [h]; done) | (obtain ⟨⟩ := h; simp_all; done) | simp_all
@[simp] theorem c82_fn (a : Int) (b : Int) : c82.fn [.lit (.int .i64 a), .lit (.int .i64 b)] [] = some ((fun (a : Int) (b : Int) => True) a b, (fun (a : Int) (b : Int) => (dI (max a b) : D)) a b, (fun (a : Int) (b : Int) => []) a b) :=
  mkCon_fn (fun x y h _ => c82_inj x y h) ((a, b) : Int × Int) (by simp [nz, nz1, ML_nil]) rfl
theorem c82_pc (a : Int) (b : Int) : PCo Try.prog 82 [dI a, dI b] (Tab.of []) (dI (max a b)) (Tab.of []) := by
  refine pco_of_run [] (E := ⟨[], []⟩) (m := false) (base := 0) Env.ok_nil G_ok mix 300 6 Try.func82 (by kernel_rfl) rfl (by kernel_rfl) (by kernel_rfl) rfl ?_
  simp [Try.f82]
  all_goals first | omega | (rw [Bool.eq_iff_iff]; simp; omega) | grind
theorem c82_ok : c82.ok Try.prog := mkCon_ok fun ⟨a, b⟩ hpre => c82_pc a b
/-- cmp.isNaN[int] -/
noncomputable def c112 : Con := mkCon 112 false (α := Int) (fun x => (fun (a : Int) => [dI a]) x) (fun _ => []) (fun x => (fun (a : Int) => True) x) (fun x => (fun (a : Int) => (dB false : D)) x) (fun x => (fun (a : Int) => []) x)
@[simp] theorem c112_f : c112.f = 112 := rfl
@[simp] theorem c112_own : c112.own = false := rfl
theorem c112_inj : ∀ u_ v_ : Int, ((fun x => (fun (a : Int) => [dI a]) x) u_).map nz = ((fun x => (fun (a : Int) => [dI a]) x) v_).map nz → u_ = v_ := by
  intro u_ v_ h
  obtain a := u_
  obtain a' := v_
  simp [nz_lit, nz1_lit, nz_agg, nz_sl, nz1_sl] at h
  first | (simp [h]; done) | (obtain ⟨⟩ := h; simp_all; done) | simp_all
@[simp] theorem c112_fn (a : Int) : c112.fn [.lit (.int .i64 a)] [] = some ((fun (a : Int) => True) a, (fun (a : Int) => (dB false : D)) a, (fun (a : Int) => []) a) :=
  mkCon_fn (fun x y h _ => c112_inj x y h) (a : Int) (by simp [nz, nz1, ML_nil]) rfl
theorem c112_pc (a : Int) : PCo Try.prog 112 [dI a] (Tab.of []) (dB false) (Tab.of []) := by
  refine pco_of_run [] (E := ⟨[], []⟩) (m := false) (base := 0) Env.ok_nil G_ok mix 300 6 Try.func112 (by kernel_rfl) rfl (by kernel_rfl) (by kernel_rfl) rfl ?_
  simp [Try.f112]
  all_goals first | omega | (rw [Bool.eq_iff_iff]; simp; omega) | grind
theorem c112_ok : c112.ok Try.prog := mkCon_ok fun a hpre => c112_pc a
/-- cmp.Less[int] -/
noncomputable def c97 : Con := mkCon 97 false (α := Int × Int) (fun x => (fun (a : Int) (b : Int) => [dI a, dI b]) x.1 x.2) (fun _ => []) (fun x => (fun (a : Int) (b : Int) => True) x.1 x.2) (fun x => (fun (a : Int) (b : Int) => (dB (decide (a < b)) : D)) x.1 x.2) (fun x => (fun (a : Int) (b : Int) => []) x.1 x.2)
@[simp] theorem c97_f : c97.f = 97 := rfl
@[simp] theorem c97_own : c97.own = false := rfl
theorem c97_inj : ∀ u_ v_ : Int × Int, ((fun x => (fun (a : Int) (b : Int) => [dI a, dI b]) x.1 x.2) u_).map nz = ((fun x => (fun (a : Int) (b : Int) => [dI a, dI b]) x.1 x.2) v_).map nz → u_ = v_ := by
  intro u_ v_ h
  obtain ⟨a, b⟩ := u_
  obtain ⟨a', b'⟩ := v_
  simp [nz_lit, nz1_lit, nz_agg, nz_sl, nz1_sl] at h
  first | (simp [h]; done) | (obtain ⟨⟩ := h; simp_all; done) | simp_all
@[simp] theorem c97_fn (a : Int) (b : Int) : c97.fn [.lit (.int .i64 a), .lit (.int .i64 b)] [] = some ((fun (a : Int) (b : Int) => True) a b, (fun (a : Int) (b : Int) => (dB (decide (a < b)) : D)) a b, (fun (a : Int) (b : Int) => []) a b) :=
  mkCon_fn (fun x y h _ => c97_inj x y h) ((a, b) : Int × Int) (by simp [nz, nz1, ML_nil]) rfl
theorem c97_pc (a : Int) (b : Int) : PCo Try.prog 97 [dI a, dI b] (Tab.of []) (dB (decide (a < b))) (Tab.of []) := by
  refine pco_of_run [] (E := ⟨[c112], []⟩) (m := false) (base := 0) (Env.ok_cons c112_ok Env.ok_nil) G_ok mix 300 6 Try.func97 (by kernel_rfl) rfl (by kernel_rfl) (by kernel_rfl) rfl ?_
  simp [Try.f97]
  all_goals first | omega | (rw [Bool.eq_iff_iff]; simp; omega) | grind
theorem c97_ok : c97.ok Try.prog := mkCon_ok fun ⟨a, b⟩ hpre => c97_pc a b
/-- loop.example/g03007/impl.isGreater -/
noncomputable def c113 : Con := mkCon 113 false (α := Int × Int) (fun x => (fun (a : Int) (b : Int) => [dI a, dI b]) x.1 x.2) (fun _ => []) (fun x => (fun (a : Int) (b : Int) => True) x.1 x.2) (fun x => (fun (a : Int) (b : Int) => (dB (decide (b < a)) : D)) x.1 x.2) (fun x => (fun (a : Int) (b : Int) => []) x.1 x.2)
@[simp] theorem c113_f : c113.f = 113 := rfl
@[simp] theorem c113_own : c113.own = false := rfl
theorem c113_inj : ∀ u_ v_ : Int × Int, ((fun x => (fun (a : Int) (b : Int) => [dI a, dI b]) x.1 x.2) u_).map nz = ((fun x => (fun (a : Int) (b : Int) => [dI a, dI b]) x.1 x.2) v_).map nz → u_ = v_ := by
  intro u_ v_ h
  obtain ⟨a, b⟩ := u_
  obtain ⟨a', b'⟩ := v_
  simp [nz_lit, nz1_lit, nz_agg, nz_sl, nz1_sl] at h
  first | (simp [h]; done) | (obtain ⟨⟩ := h; simp_all; done) | simp_all
@[simp] theorem c113_fn (a : Int) (b : Int) : c113.fn [.lit (.int .i64 a), .lit (.int .i64 b)] [] = some ((fun (a : Int) (b : Int) => True) a b, (fun (a : Int) (b : Int) => (dB (decide (b < a)) : D)) a b, (fun (a : Int) (b : Int) => []) a b) :=
  mkCon_fn (fun x y h _ => c113_inj x y h) ((a, b) : Int × Int) (by simp [nz, nz1, ML_nil]) rfl
theorem c113_pc (a : Int) (b : Int) : PCo Try.prog 113 [dI a, dI b] (Tab.of []) (dB (decide (b < a))) (Tab.of []) := by
  refine pco_of_run [] (E := ⟨[], []⟩) (m := false) (base := 0) Env.ok_nil G_ok mix 300 6 Try.func113 (by kernel_rfl) rfl (by kernel_rfl) (by kernel_rfl) rfl ?_
  simp [Try.f113]
  all_goals first | omega | (rw [Bool.eq_iff_iff]; simp; omega) | grind
theorem c113_ok : c113.ok Try.prog := mkCon_ok fun ⟨a, b⟩ hpre => c113_pc a b
/-- loop.example/g03007/impl.firstInOrder -/
noncomputable def c96 : Con := mkCon 96 false (α := FuncId × Int × Int) (fun x => (fun (g : FuncId) (a : Int) (b : Int) => ([.fn (.func g) [] [], dI a, .sl false 1 (dI 0) [dI b]] : List D)) x.1 x.2.1 x.2.2) (fun x => (fun (g : FuncId) (a : Int) (b : Int) => ([] : List (Nm × OO))) x.1 x.2.1 x.2.2) (fun x => (fun (g : FuncId) (a : Int) (b : Int) => g = 97 ∨ g = 113) x.1 x.2.1 x.2.2) (fun x => (fun (g : FuncId) (a : Int) (b : Int) => (dI (if g = 97 then min a b else max a b) : D)) x.1 x.2.1 x.2.2) (fun x => (fun (g : FuncId) (a : Int) (b : Int) => ([] : List (Nm × OO))) x.1 x.2.1 x.2.2)
@[simp] theorem c96_f : c96.f = 96 := rfl
@[simp] theorem c96_own : c96.own = false := rfl
theorem c96_inj : ∀ u_ v_ : FuncId × Int × Int, ((fun x => (fun (g : FuncId) (a : Int) (b : Int) => ([.fn (.func g) [] [], dI a, .sl false 1 (dI 0) [dI b]] : List D)) x.1 x.2.1 x.2.2) u_).map nz = ((fun x => (fun (g : FuncId) (a : Int) (b : Int) => ([.fn (.func g) [] [], dI a, .sl false 1 (dI 0) [dI b]] : List D)) x.1 x.2.1 x.2.2) v_).map nz → (fun x => (fun (g : FuncId) (a : Int) (b : Int) => ([] : List (Nm × OO))) x.1 x.2.1 x.2.2) u_ = (fun x => (fun (g : FuncId) (a : Int) (b : Int) => ([] : List (Nm × OO))) x.1 x.2.1 x.2.2) v_ → u_ = v_ := by
  intro u_ v_ h h2_
  obtain ⟨g, a, b⟩ := u_
  obtain ⟨g', a', b'⟩ := v_
  simp [nz_lit, nz1_lit, nz_agg, nz_sl, nz1_sl, nz_sx, nz_el, nz1_el, nz_own, nz1_own, nz_ptr, nz_fn, nz_iface] at h h2_
  first | (simp [h, h2_]; done) | simp_all | grind
@[simp] theorem c96_fn (g : FuncId) (a : Int) (b : Int) : c96.fn ([.fn (.func g) [] [], dI a, .sl false 1 (dI 0) [dI b]]) ([]) = some (g = 97 ∨ g = 113, dI (if g = 97 then min a b else max a b), []) :=
  mkCon_fn c96_inj ((g, a, b) : FuncId × Int × Int) rfl rfl
theorem c96_pc (g : FuncId) (a : Int) (b : Int) (hpre : g = 97 ∨ g = 113) : PCo Try.prog 96 ([.fn (.func g) [] [], dI a, .sl false 1 (dI 0) [dI b]]) (Tab.of ([])) (dI (if g = 97 then min a b else max a b)) (Tab.of ([])) := by
  refine pco_of_run [] (E := ⟨[c97, c113], []⟩) (m := false) (base := 0) (Env.ok_cons c97_ok (Env.ok_cons c113_ok Env.ok_nil)) G_ok mix 300 6 Try.func96 (by kernel_rfl) rfl (by kernel_rfl) (by kernel_rfl) rfl ?_
  rcases hpre with rfl | rfl
  · simp [Try.f96]
    refine loop_unroll 100 ?_
    simp
    omega
  · simp [Try.f96]
    refine loop_unroll 100 ?_
    simp
    omega
theorem c96_ok : c96.ok Try.prog := mkCon_ok fun ⟨g, a, b⟩ hpre => c96_pc g a b hpre
/-- loop.example/g03007/impl.Min -/
noncomputable def c81 : Con := mkCon 81 false (α := Int × Int) (fun x => (fun (a : Int) (b : Int) => [dI a, dI b]) x.1 x.2) (fun _ => []) (fun x => (fun (a : Int) (b : Int) => True) x.1 x.2) (fun x => (fun (a : Int) (b : Int) => (dI (min a b) : D)) x.1 x.2) (fun x => (fun (a : Int) (b : Int) => []) x.1 x.2)
@[simp] theorem c81_f : c81.f = 81 := rfl
@[simp] theorem c81_own : c81.own = false := rfl
theorem c81_inj : ∀ u_ v_ : Int × Int, ((fun x => (fun (a : Int) (b : Int) => [dI a, dI b]) x.1 x.2) u_).map nz = ((fun x => (fun (a : Int) (b : Int) => [dI a, dI b]) x.1 x.2) v_).map nz → u_ = v_ := by
  intro u_ v_ h
  obtain ⟨a, b⟩ := u_
  obtain ⟨a', b'⟩ := v_
  simp [nz_lit, nz1_lit, nz_agg, nz_sl, nz1_sl] at h
  first | (simp [h]; done) | (obtain ⟨⟩ := h; simp_all; done) | simp_all
@[simp] theorem c81_fn (a : Int) (b : Int) : c81.fn [.lit (.int .i64 a), .lit (.int .i64 b)] [] = some ((fun (a : Int) (b : Int) => True) a b, (fun (a : Int) (b : Int) => (dI (min a b) : D)) a b, (fun (a : Int) (b : Int) => []) a b) :=
  mkCon_fn (fun x y h _ => c81_inj x y h) ((a, b) : Int × Int) (by simp [nz, nz1, ML_nil]) rfl
theorem c81_pc (a : Int) (b : Int) : PCo Try.prog 81 [dI a, dI b] (Tab.of []) (dI (min a b)) (Tab.of []) := by
  refine pco_of_run [] (E := ⟨[c96, c97], []⟩) (m := false) (base := 0) (Env.ok_cons c96_ok (Env.ok_cons c97_ok Env.ok_nil)) G_ok mix 300 6 Try.func81 (by kernel_rfl) rfl (by kernel_rfl) (by kernel_rfl) rfl ?_
  simp [Try.f81]
  all_goals first | omega | (rw [Bool.eq_iff_iff]; simp; omega) | grind
theorem c81_ok : c81.ok Try.prog := mkCon_ok fun ⟨a, b⟩ hpre => c81_pc a b
/-- loop.example/g03007/impl.Max -/
noncomputable def c98 : Con := mkCon 98 false (α := Int × Int) (fun x => (fun (a : Int) (b : Int) => [dI a, dI b]) x.1 x.2) (fun _ => []) (fun x => (fun (a : Int) (b : Int) => True) x.1 x.2) (fun x => (fun (a : Int) (b : Int) => (dI (max a b) : D)) x.1 x.2) (fun x => (fun (a : Int) (b : Int) => []) x.1 x.2)
@[simp] theorem c98_f : c98.f = 98 := rfl
@[simp] theorem c98_own : c98.own = false := rfl
theorem c98_inj : ∀ u_ v_ : Int × Int, ((fun x => (fun (a : Int) (b : Int) => [dI a, dI b]) x.1 x.2) u_).map nz = ((fun x => (fun (a : Int) (b : Int) => [dI a, dI b]) x.1 x.2) v_).map nz → u_ = v_ := by
  intro u_ v_ h
  obtain ⟨a, b⟩ := u_
  obtain ⟨a', b'⟩ := v_
  simp [nz_lit, nz1_lit, nz_agg, nz_sl, nz1_sl] at h
  first | (simp [h]; done) | (obtain ⟨⟩ := h; simp_all; done) | simp_all
@[simp] theorem c98_fn (a : Int) (b : Int) : c98.fn [.lit (.int .i64 a), .lit (.int .i64 b)] [] = some ((fun (a : Int) (b : Int) => True) a b, (fun (a : Int) (b : Int) => (dI (max a b) : D)) a b, (fun (a : Int) (b : Int) => []) a b) :=
  mkCon_fn (fun x y h _ => c98_inj x y h) ((a, b) : Int × Int) (by simp [nz, nz1, ML_nil]) rfl
theorem c98_pc (a : Int) (b : Int) : PCo Try.prog 98 [dI a, dI b] (Tab.of []) (dI (max a b)) (Tab.of []) := by
  refine pco_of_run [] (E := ⟨[c96, c113], []⟩) (m := false) (base := 0) (Env.ok_cons c96_ok (Env.ok_cons c113_ok Env.ok_nil)) G_ok mix 300 6 Try.func98 (by kernel_rfl) rfl (by kernel_rfl) (by kernel_rfl) rfl ?_
  simp [Try.f98]
  all_goals first | omega | (rw [Bool.eq_iff_iff]; simp; omega) | grind
theorem c98_ok : c98.ok Try.prog := mkCon_ok fun ⟨a, b⟩ hpre => c98_pc a b
theorem in_of {x y z : Int} (h : mIn x y z = true) : y ≤ x ∧ x ≤ z := by
  simp [mIn] at h; exact h
end Go.Proofs.Ytljamnanhmpdnaa
