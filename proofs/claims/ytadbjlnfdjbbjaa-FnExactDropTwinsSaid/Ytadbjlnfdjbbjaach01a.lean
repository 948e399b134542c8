/- Contracts of the functions that the laws run. -/
import Derived.Test.YtadbjlnfdjbbjaaTS
import Derived.Test.YtadbjlnfdjbbjaaEngB
namespace Go.Proofs.Ytadbjlnfdjbbjaa
open Go Go.Eng
set_option linter.unusedSimpArgs false
set_option linter.unusedVariables false
set_option maxRecDepth 10000
set_option maxHeartbeats 1000000
def mIn (x y z : Int) : Bool := decide (y ≤ x) && decide (x ≤ z)
/-- loop.example/g03007/spec.l1In -/
noncomputable def c95 : Con := mkCon 95 false (α := Int × Int × Int) (fun x => (fun (x : Int) (y : Int) (z : Int) => [dI x, dI y, dI z]) x.1 x.2.1 x.2.2) (fun _ => []) (fun x => (fun (x : Int) (y : Int) (z : Int) => True) x.1 x.2.1 x.2.2) (fun x => (fun (x : Int) (y : Int) (z : Int) => (dB (mIn x y z) : D)) x.1 x.2.1 x.2.2) (fun x => (fun (x : Int) (y : Int) (z : Int) => []) x.1 x.2.1 x.2.2)
@[simp] theorem c95_f : c95.f = 95 := rfl
@[simp] theorem c95_own : c95.own = false := rfl
theorem c95_inj : ∀ u_ v_ : Int × Int × Int, ((fun x => (fun (x : Int) (y : Int) (z : Int) => [dI x, dI y, dI z]) x.1 x.2.1 x.2.2) u_).map nz = ((fun x => (fun (x : Int) (y : Int) (z : Int) => [dI x, dI y, dI z]) x.1 x.2.1 x.2.2) v_).map nz → u_ = v_ := by
  intro u_ v_ h
  obtain ⟨x, y, z⟩ := u_
  obtain ⟨x', y', z'⟩ := v_
  simp [nz_lit, nz1_lit, nz_agg, nz_sl, nz1_sl] at h
  first | (simp [h]; done) | (obtain ⟨⟩ := h; simp_all; done) | simp_all
@[simp] theorem c95_fn (x : Int) (y : Int) (z : Int) : c95.fn [.lit (.int .i64 x), .lit (.int .i64 y), .lit (.int .i64 z)] [] = some ((fun (x : Int) (y : Int) (z : Int) => True) x y z, (fun (x : Int) (y : Int) (z : Int) => (dB (mIn x y z) : D)) x y z, (fun (x : Int) (y : Int) (z : Int) => []) x y z) :=
  mkCon_fn (fun x y h _ => c95_inj x y h) ((x, y, z) : Int × Int × Int) (by simp [nz, nz1, ML_nil]) rfl
theorem c95_pc (x : Int) (y : Int) (z : Int) : PCo Try.prog 95 [dI x, dI y, dI z] (Tab.of []) (dB (mIn x y z)) (Tab.of []) := by
  refine pco_of_run [] (E := ⟨[], []⟩) (m := false) (base := 0) Env.ok_nil G_ok mix 300 6 Try.func95 (by kernel_rfl) rfl (by kernel_rfl) (by kernel_rfl) rfl ?_
  simp [Try.f95]
  simp [mIn]
theorem c95_ok : c95.ok Try.prog := mkCon_ok fun ⟨x, y, z⟩ hpre => c95_pc x y z
/-- loop.example/g03007/impl.InRange -/
noncomputable def c147 : Con := mkCon 147 false (α := Int × Int × Int) (fun x => (fun (x : Int) (y : Int) (z : Int) => [dI x, dI y, dI z]) x.1 x.2.1 x.2.2) (fun _ => []) (fun x => (fun (x : Int) (y : Int) (z : Int) => True) x.1 x.2.1 x.2.2) (fun x => (fun (x : Int) (y : Int) (z : Int) => (dB (mIn x y z) : D)) x.1 x.2.1 x.2.2) (fun x => (fun (x : Int) (y : Int) (z : Int) => []) x.1 x.2.1 x.2.2)
@[simp] theorem c147_f : c147.f = 147 := rfl
@[simp] theorem c147_own : c147.own = false := rfl
theorem c147_inj : ∀ u_ v_ : Int × Int × Int, ((fun x => (fun (x : Int) (y : Int) (z : Int) => [dI x, dI y, dI z]) x.1 x.2.1 x.2.2) u_).map nz = ((fun x => (fun (x : Int) (y : Int) (z : Int) => [dI x, dI y, dI z]) x.1 x.2.1 x.2.2) v_).map nz → u_ = v_ := by
  intro u_ v_ h
  obtain ⟨x, y, z⟩ := u_
  obtain ⟨x', y', z'⟩ := v_
  simp [nz_lit, nz1_lit, nz_agg, nz_sl, nz1_sl] at h
  first | (simp [h]; done) | (obtain ⟨⟩ := h; simp_all; done) | simp_all
@[simp] theorem c147_fn (x : Int) (y : Int) (z : Int) : c147.fn [.lit (.int .i64 x), .lit (.int .i64 y), .lit (.int .i64 z)] [] = some ((fun (x : Int) (y : Int) (z : Int) => True) x y z, (fun (x : Int) (y : Int) (z : Int) => (dB (mIn x y z) : D)) x y z, (fun (x : Int) (y : Int) (z : Int) => []) x y z) :=
  mkCon_fn (fun x y h _ => c147_inj x y h) ((x, y, z) : Int × Int × Int) (by simp [nz, nz1, ML_nil]) rfl
theorem c147_pc (x : Int) (y : Int) (z : Int) : PCo Try.prog 147 [dI x, dI y, dI z] (Tab.of []) (dB (mIn x y z)) (Tab.of []) := by
  refine pco_of_run [] (E := ⟨[], []⟩) (m := false) (base := 0) Env.ok_nil G_ok mix 300 6 Try.func147 (by kernel_rfl) rfl (by kernel_rfl) (by kernel_rfl) rfl ?_
  simp [Try.f147]
  simp [mIn]
theorem c147_ok : c147.ok Try.prog := mkCon_ok fun ⟨x, y, z⟩ hpre => c147_pc x y z
/-- loop.example/g03007/spec.Min -/
noncomputable def c145 : Con := mkCon 145 false (α := Int × Int) (fun x => (fun (a : Int) (b : Int) => [dI a, dI b]) x.1 x.2) (fun _ => []) (fun x => (fun (a : Int) (b : Int) => True) x.1 x.2) (fun x => (fun (a : Int) (b : Int) => (dI (min a b) : D)) x.1 x.2) (fun x => (fun (a : Int) (b : Int) => []) x.1 x.2)
@[simp] theorem c145_f : c145.f = 145 := rfl
@[simp] theorem c145_own : c145.own = false := rfl
theorem c145_inj : ∀ u_ v_ : Int × Int, ((fun x => (fun (a : Int) (b : Int) => [dI a, dI b]) x.1 x.2) u_).map nz = ((fun x => (fun (a : Int) (b : Int) => [dI a, dI b]) x.1 x.2) v_).map nz → u_ = v_ := by
  intro u_ v_ h
  obtain ⟨a, b⟩ := u_
  obtain ⟨a', b'⟩ := v_
  simp [nz_lit, nz1_lit, nz_agg, nz_sl, nz1_sl] at h
  first | (simp [h]; done) | (obtain ⟨⟩ := h; simp_all; done) | simp_all
@[simp] theorem c145_fn (a : Int) (b : Int) : c145.fn [.lit (.int .i64 a), .lit (.int .i64 b)] [] = some ((fun (a : Int) (b : Int) => True) a b, (fun (a : Int) (b : Int) => (dI (min a b) : D)) a b, (fun (a : Int) (b : Int) => []) a b) :=
  mkCon_fn (fun x y h _ => c145_inj x y h) ((a, b) : Int × Int) (by simp [nz, nz1, ML_nil]) rfl
theorem c145_pc (a : Int) (b : Int) : PCo Try.prog 145 [dI a, dI b] (Tab.of []) (dI (min a b)) (Tab.of []) := by
  refine pco_of_run [] (E := ⟨[], []⟩) (m := false) (base := 0) Env.ok_nil G_ok mix 300 6 Try.func145 (by kernel_rfl) rfl (by kernel_rfl) (by kernel_rfl) rfl ?_
  simp [Try.f145]
  all_goals first | omega | (rw [Bool.eq_iff_iff]; simp; omega) | grind
theorem c145_ok : c145.ok Try.prog := mkCon_ok fun ⟨a, b⟩ hpre => c145_pc a b
/-- loop.example/g03007/spec.Max -/
noncomputable def c146 : Con := mkCon 146 false (α := Int × Int) (fun x => (fun (a : Int) (b : Int) => [dI a, dI b]) x.1 x.2) (fun _ => []) (fun x => (fun (a : Int) (b : Int) => True) x.1 x.2) (fun x => (fun (a : Int) (b : Int) => (dI (max a b) : D)) x.1 x.2) (fun x => (fun (a : Int) (b : Int) => []) x.1 x.2)
@[simp] theorem c146_f : c146.f = 146 := rfl
@[simp] theorem c146_own : c146.own = false := rfl
theorem c146_inj : ∀ u_ v_ : Int × Int, ((fun x => (fun (a : Int) (b : Int) => [dI a, dI b]) x.1 x.2) u_).map nz = ((fun x => (fun (a : Int) (b : Int) => [dI a, dI b]) x.1 x.2) v_).map nz → u_ = v_ := by
  intro u_ v_ h
  obtain ⟨a, b⟩ := u_
  obtain ⟨a', b'⟩ := v_
  simp [nz_lit, nz1_lit, nz_agg, nz_sl, nz1_sl] at h
  first | (simp [h]; done) | (obtain ⟨⟩ := h; simp_all; done) | simp_all
@[simp] theorem c146_fn (a : Int) (b : Int) : c146.fn [.lit (.int .i64 a), .lit (.int .i64 b)] [] = some ((fun (a : Int) (b : Int) => True) a b, (fun (a : Int) (b : Int) => (dI (max a b) : D)) a b, (fun (a : Int) (b : Int) => []) a b) :=
  mkCon_fn (fun x y h _ => c146_inj x y h) ((a, b) : Int × Int) (by simp [nz, nz1, ML_nil]) rfl
theorem c146_pc (a : Int) (b : Int) : PCo Try.prog 146 [dI a, dI b] (Tab.of []) (dI (max a b)) (Tab.of []) := by
  refine pco_of_run [] (E := ⟨[], []⟩) (m := false) (base := 0) Env.ok_nil G_ok mix 300 6 Try.func146 (by kernel_rfl) rfl (by kernel_rfl) (by kernel_rfl) rfl ?_
  simp [Try.f146]
  all_goals first | omega | (rw [Bool.eq_iff_iff]; simp; omega) | grind
theorem c146_ok : c146.ok Try.prog := mkCon_ok fun ⟨a, b⟩ hpre => c146_pc a b
/-- cmp.isNaN[int] -/
noncomputable def c198 : Con := mkCon 198 false (α := Int) (fun x => (fun (a : Int) => [dI a]) x) (fun _ => []) (fun x => (fun (a : Int) => True) x) (fun x => (fun (a : Int) => (dB false : D)) x) (fun x => (fun (a : Int) => []) x)
@[simp] theorem c198_f : c198.f = 198 := rfl
@[simp] theorem c198_own : c198.own = false := rfl
theorem c198_inj : ∀ u_ v_ : Int, ((fun x => (fun (a : Int) => [dI a]) x) u_).map nz = ((fun x => (fun (a : Int) => [dI a]) x) v_).map nz → u_ = v_ := by
  intro u_ v_ h
  obtain a := u_
  obtain a' := v_
  simp [nz_lit, nz1_lit, nz_agg, nz_sl, nz1_sl] at h
  first | (simp [h]; done) | (obtain ⟨⟩ := h; simp_all; done) | simp_all
@[simp] theorem c198_fn (a : Int) : c198.fn [.lit (.int .i64 a)] [] = some ((fun (a : Int) => True) a, (fun (a : Int) => (dB false : D)) a, (fun (a : Int) => []) a) :=
  mkCon_fn (fun x y h _ => c198_inj x y h) (a : Int) (by simp [nz, nz1, ML_nil]) rfl
theorem c198_pc (a : Int) : PCo Try.prog 198 [dI a] (Tab.of []) (dB false) (Tab.of []) := by
  refine pco_of_run [] (E := ⟨[], []⟩) (m := false) (base := 0) Env.ok_nil G_ok mix 300 6 Try.func198 (by kernel_rfl) rfl (by kernel_rfl) (by kernel_rfl) rfl ?_
  simp [Try.f198]
  all_goals first | omega | (rw [Bool.eq_iff_iff]; simp; omega) | grind
theorem c198_ok : c198.ok Try.prog := mkCon_ok fun a hpre => c198_pc a
/-- cmp.Less[int] -/
noncomputable def c196 : Con := mkCon 196 false (α := Int × Int) (fun x => (fun (a : Int) (b : Int) => [dI a, dI b]) x.1 x.2) (fun _ => []) (fun x => (fun (a : Int) (b : Int) => True) x.1 x.2) (fun x => (fun (a : Int) (b : Int) => (dB (decide (a < b)) : D)) x.1 x.2) (fun x => (fun (a : Int) (b : Int) => []) x.1 x.2)
@[simp] theorem c196_f : c196.f = 196 := rfl
@[simp] theorem c196_own : c196.own = false := rfl
theorem c196_inj : ∀ u_ v_ : Int × Int, ((fun x => (fun (a : Int) (b : Int) => [dI a, dI b]) x.1 x.2) u_).map nz = ((fun x => (fun (a : Int) (b : Int) => [dI a, dI b]) x.1 x.2) v_).map nz → u_ = v_ := by
  intro u_ v_ h
  obtain ⟨a, b⟩ := u_
  obtain ⟨a', b'⟩ := v_
  simp [nz_lit, nz1_lit, nz_agg, nz_sl, nz1_sl] at h
  first | (simp [h]; done) | (obtain ⟨⟩ := h; simp_all; done) | simp_all
@[simp] theorem c196_fn (a : Int) (b : Int) : c196.fn [.lit (.int .i64 a), .lit (.int .i64 b)] [] = some ((fun (a : Int) (b : Int) => True) a b, (fun (a : Int) (b : Int) => (dB (decide (a < b)) : D)) a b, (fun (a : Int) (b : Int) => []) a b) :=
  mkCon_fn (fun x y h _ => c196_inj x y h) ((a, b) : Int × Int) (by simp [nz, nz1, ML_nil]) rfl
theorem c196_pc (a : Int) (b : Int) : PCo Try.prog 196 [dI a, dI b] (Tab.of []) (dB (decide (a < b))) (Tab.of []) := by
  refine pco_of_run [] (E := ⟨[c198], []⟩) (m := false) (base := 0) (Env.ok_cons c198_ok Env.ok_nil) G_ok mix 300 6 Try.func196 (by kernel_rfl) rfl (by kernel_rfl) (by kernel_rfl) rfl ?_
  simp [Try.f196]
  all_goals first | omega | (rw [Bool.eq_iff_iff]; simp; omega) | grind
theorem c196_ok : c196.ok Try.prog := mkCon_ok fun ⟨a, b⟩ hpre => c196_pc a b
/-- loop.example/g03007/impl.isGreater -/
noncomputable def c197 : Con := mkCon 197 false (α := Int × Int) (fun x => (fun (a : Int) (b : Int) => [dI a, dI b]) x.1 x.2) (fun _ => []) (fun x => (fun (a : Int) (b : Int) => True) x.1 x.2) (fun x => (fun (a : Int) (b : Int) => (dB (decide (b < a)) : D)) x.1 x.2) (fun x => (fun (a : Int) (b : Int) => []) x.1 x.2)
@[simp] theorem c197_f : c197.f = 197 := rfl
@[simp] theorem c197_own : c197.own = false := rfl
theorem c197_inj : ∀ u_ v_ : Int × Int, ((fun x => (fun (a : Int) (b : Int) => [dI a, dI b]) x.1 x.2) u_).map nz = ((fun x => (fun (a : Int) (b : Int) => [dI a, dI b]) x.1 x.2) v_).map nz → u_ = v_ := by
  intro u_ v_ h
  obtain ⟨a, b⟩ := u_
  obtain ⟨a', b'⟩ := v_
  simp [nz_lit, nz1_lit, nz_agg, nz_sl, nz1_sl] at h
  first | (simp [h]; done) | (obtain ⟨⟩ := h; simp_all; done) | simp_all
@[simp] theorem c197_fn (a : Int) (b : Int) : c197.fn [.lit (.int .i64 a), .lit (.int .i64 b)] [] = some ((fun (a : Int) (b : Int) => True) a b, (fun (a : Int) (b : Int) => (dB (decide (b < a)) : D)) a b, (fun (a : Int) (b : Int) => []) a b) :=
  mkCon_fn (fun x y h _ => c197_inj x y h) ((a, b) : Int × Int) (by simp [nz, nz1, ML_nil]) rfl
theorem c197_pc (a : Int) (b : Int) : PCo Try.prog 197 [dI a, dI b] (Tab.of []) (dB (decide (b < a))) (Tab.of []) := by
  refine pco_of_run [] (E := ⟨[], []⟩) (m := false) (base := 0) Env.ok_nil G_ok mix 300 6 Try.func197 (by kernel_rfl) rfl (by kernel_rfl) (by kernel_rfl) rfl ?_
  simp [Try.f197]
  all_goals first | omega | (rw [Bool.eq_iff_iff]; simp; omega) | grind
theorem c197_ok : c197.ok Try.prog := mkCon_ok fun ⟨a, b⟩ hpre => c197_pc a b
/-- loop.example/g03007/impl.firstInOrder -/
noncomputable def c195 : Con := mkCon 195 false (α := FuncId × Int × Int) (fun x => (fun (g : FuncId) (a : Int) (b : Int) => ([.fn (.func g) [] [], dI a, .sl false 1 (dI 0) [dI b]] : List D)) x.1 x.2.1 x.2.2) (fun x => (fun (g : FuncId) (a : Int) (b : Int) => ([] : List (Nm × OO))) x.1 x.2.1 x.2.2) (fun x => (fun (g : FuncId) (a : Int) (b : Int) => g = 196 ∨ g = 197) x.1 x.2.1 x.2.2) (fun x => (fun (g : FuncId) (a : Int) (b : Int) => (dI (if g = 196 then min a b else max a b) : D)) x.1 x.2.1 x.2.2) (fun x => (fun (g : FuncId) (a : Int) (b : Int) => ([] : List (Nm × OO))) x.1 x.2.1 x.2.2)
@[simp] theorem c195_f : c195.f = 195 := rfl
@[simp] theorem c195_own : c195.own = false := rfl
theorem c195_inj : ∀ u_ v_ : FuncId × Int × Int, ((fun x => (fun (g : FuncId) (a : Int) (b : Int) => ([.fn (.func g) [] [], dI a, .sl false 1 (dI 0) [dI b]] : List D)) x.1 x.2.1 x.2.2) u_).map nz = ((fun x => (fun (g : FuncId) (a : Int) (b : Int) => ([.fn (.func g) [] [], dI a, .sl false 1 (dI 0) [dI b]] : List D)) x.1 x.2.1 x.2.2) v_).map nz → (fun x => (fun (g : FuncId) (a : Int) (b : Int) => ([] : List (Nm × OO))) x.1 x.2.1 x.2.2) u_ = (fun x => (fun (g : FuncId) (a : Int) (b : Int) => ([] : List (Nm × OO))) x.1 x.2.1 x.2.2) v_ → u_ = v_ := by
  intro u_ v_ h h2_
  obtain ⟨g, a, b⟩ := u_
  obtain ⟨g', a', b'⟩ := v_
  simp [nz_lit, nz1_lit, nz_agg, nz_sl, nz1_sl, nz_sx, nz_el, nz1_el, nz_own, nz1_own, nz_ptr, nz_fn, nz_iface] at h h2_
  first | (simp [h, h2_]; done) | (obtain ⟨h3_, h4_⟩ := List.append_inj h2_ h.1; simp_all; done) | simp_all | grind
@[simp] theorem c195_fn (g : FuncId) (a : Int) (b : Int) : c195.fn ([.fn (.func g) [] [], dI a, .sl false 1 (dI 0) [dI b]]) ([]) = some (g = 196 ∨ g = 197, dI (if g = 196 then min a b else max a b), []) :=
  mkCon_fn c195_inj ((g, a, b) : FuncId × Int × Int) rfl rfl
theorem c195_pc (g : FuncId) (a : Int) (b : Int) (hpre : g = 196 ∨ g = 197) : PCo Try.prog 195 ([.fn (.func g) [] [], dI a, .sl false 1 (dI 0) [dI b]]) (Tab.of ([])) (dI (if g = 196 then min a b else max a b)) (Tab.of ([])) := by
  refine pco_of_run [] (E := ⟨[c196, c197], []⟩) (m := false) (base := 0) (Env.ok_cons c196_ok (Env.ok_cons c197_ok Env.ok_nil)) G_ok mix 300 6 Try.func195 (by kernel_rfl) rfl (by kernel_rfl) (by kernel_rfl) rfl ?_
  rcases hpre with rfl | rfl
  · simp [Try.f195]
    refine loop_unroll 100 ?_
    simp
    omega
  · simp [Try.f195]
    refine loop_unroll 100 ?_
    simp
    omega
theorem c195_ok : c195.ok Try.prog := mkCon_ok fun ⟨g, a, b⟩ hpre => c195_pc g a b hpre
/-- loop.example/g03007/impl.Min -/
noncomputable def c193 : Con := mkCon 193 false (α := Int × Int) (fun x => (fun (a : Int) (b : Int) => [dI a, dI b]) x.1 x.2) (fun _ => []) (fun x => (fun (a : Int) (b : Int) => True) x.1 x.2) (fun x => (fun (a : Int) (b : Int) => (dI (min a b) : D)) x.1 x.2) (fun x => (fun (a : Int) (b : Int) => []) x.1 x.2)
@[simp] theorem c193_f : c193.f = 193 := rfl
@[simp] theorem c193_own : c193.own = false := rfl
theorem c193_inj : ∀ u_ v_ : Int × Int, ((fun x => (fun (a : Int) (b : Int) => [dI a, dI b]) x.1 x.2) u_).map nz = ((fun x => (fun (a : Int) (b : Int) => [dI a, dI b]) x.1 x.2) v_).map nz → u_ = v_ := by
  intro u_ v_ h
  obtain ⟨a, b⟩ := u_
  obtain ⟨a', b'⟩ := v_
  simp [nz_lit, nz1_lit, nz_agg, nz_sl, nz1_sl] at h
  first | (simp [h]; done) | (obtain ⟨⟩ := h; simp_all; done) | simp_all
@[simp] theorem c193_fn (a : Int) (b : Int) : c193.fn [.lit (.int .i64 a), .lit (.int .i64 b)] [] = some ((fun (a : Int) (b : Int) => True) a b, (fun (a : Int) (b : Int) => (dI (min a b) : D)) a b, (fun (a : Int) (b : Int) => []) a b) :=
  mkCon_fn (fun x y h _ => c193_inj x y h) ((a, b) : Int × Int) (by simp [nz, nz1, ML_nil]) rfl
theorem c193_pc (a : Int) (b : Int) : PCo Try.prog 193 [dI a, dI b] (Tab.of []) (dI (min a b)) (Tab.of []) := by
  refine pco_of_run [] (E := ⟨[c195, c196], []⟩) (m := false) (base := 0) (Env.ok_cons c195_ok (Env.ok_cons c196_ok Env.ok_nil)) G_ok mix 300 6 Try.func193 (by kernel_rfl) rfl (by kernel_rfl) (by kernel_rfl) rfl ?_
  simp [Try.f193]
  all_goals first | omega | (rw [Bool.eq_iff_iff]; simp; omega) | grind
theorem c193_ok : c193.ok Try.prog := mkCon_ok fun ⟨a, b⟩ hpre => c193_pc a b
/-- loop.example/g03007/impl.Max -/
noncomputable def c194 : Con := mkCon 194 false (α := Int × Int) (fun x => (fun (a : Int) (b : Int) => [dI a, dI b]) x.1 x.2) (fun _ => []) (fun x => (fun (a : Int) (b : Int) => True) x.1 x.2) (fun x => (fun (a : Int) (b : Int) => (dI (max a b) : D)) x.1 x.2) (fun x => (fun (a : Int) (b : Int) => []) x.1 x.2)
@[simp] theorem c194_f : c194.f = 194 := rfl
@[simp] theorem c194_own : c194.own = false := rfl
theorem c194_inj : ∀ u_ v_ : Int × Int, ((fun x => (fun (a : Int) (b : Int) => [dI a, dI b]) x.1 x.2) u_).map nz = ((fun x => (fun (a : Int) (b : Int) => [dI a, dI b]) x.1 x.2) v_).map nz → u_ = v_ := by
  intro u_ v_ h
  obtain ⟨a, b⟩ := u_
  obtain ⟨a', b'⟩ := v_
  simp [nz_lit, nz1_lit, nz_agg, nz_sl, nz1_sl] at h
  first | (simp [h]; done) | (obtain ⟨⟩ := h; simp_all; done) | simp_all
@[simp] theorem c194_fn (a : Int) (b : Int) : c194.fn [.lit (.int .i64 a), .lit (.int .i64 b)] [] = some ((fun (a : Int) (b : Int) => True) a b, (fun (a : Int) (b : Int) => (dI (max a b) : D)) a b, (fun (a : Int) (b : Int) => []) a b) :=
  mkCon_fn (fun x y h _ => c194_inj x y h) ((a, b) : Int × Int) (by simp [nz, nz1, ML_nil]) rfl
theorem c194_pc (a : Int) (b : Int) : PCo Try.prog 194 [dI a, dI b] (Tab.of []) (dI (max a b)) (Tab.of []) := by
  refine pco_of_run [] (E := ⟨[c195, c197], []⟩) (m := false) (base := 0) (Env.ok_cons c195_ok (Env.ok_cons c197_ok Env.ok_nil)) G_ok mix 300 6 Try.func194 (by kernel_rfl) rfl (by kernel_rfl) (by kernel_rfl) rfl ?_
  simp [Try.f194]
  all_goals first | omega | (rw [Bool.eq_iff_iff]; simp; omega) | grind
theorem c194_ok : c194.ok Try.prog := mkCon_ok fun ⟨a, b⟩ hpre => c194_pc a b
theorem in_of {x y z : Int} (h : mIn x y z = true) : y ≤ x ∧ x ≤ z := by
  simp [mIn] at h; exact h
def geN {α : Type} (num : α → Int) (n : Int) (x : α) : Bool := decide (n ≤ num x)
def putAt {α : Type} (num : α → Int) (n : Int) (l : List α) : Nat := if indexBy (geN num n) 0 l < 0 then l.length else (indexBy (geN num n) 0 l).toNat
def putRest {α : Type} [Inhabited α] (num : α → Int) (n : Int) (l : List α) : Nat := if putAt num n l < l.length ∧ num (l[putAt num n l]?.getD default) = n then putAt num n l + 1 else putAt num n l
def putBy {α : Type} [Inhabited α] (num : α → Int) (x : α) (l : List α) : List α := l.take (putAt num (num x) l) ++ x :: l.drop (putRest num (num x) l)
theorem putAt_le {α : Type} (num : α → Int) (n : Int) (l : List α) : putAt num n l ≤ l.length := by
  have := indexBy_bd (want := geN num n) l 0
  simp only [putAt]; split <;> omega
theorem putRest_le {α : Type} [Inhabited α] (num : α → Int) (n : Int) (l : List α) : putAt num n l ≤ putRest num n l ∧ putRest num n l ≤ l.length ∧ putRest num n l ≤ putAt num n l + 1 := by
  have := putAt_le num n l
  simp only [putRest]; split <;> omega
theorem putBy_len {α : Type} [Inhabited α] (num : α → Int) (x : α) (l : List α) : (putBy num x l).length ≤ l.length + 1 := by
  have h1 := putAt_le num (num x) l
  have h2 := putRest_le num (num x) l
  simp [putBy]; omega

end Go.Proofs.Ytadbjlnfdjbbjaa
