/- Contracts of the functions that the laws run. -/
import Derived.Test.YtdbhfkbfajljpaaTS
import Derived.Test.YtdbhfkbfajljpaaEngB
namespace Go.Proofs.Ytdbhfkbfajljpaa
open Go Go.Eng
set_option linter.unusedSimpArgs false
set_option linter.unusedVariables false
set_option maxRecDepth 10000
set_option maxHeartbeats 1000000
def mIn (x y z : Int) : Bool := decide (y ≤ x) && decide (x ≤ z)
/-- loop.example/g03007/spec.l1In -/
noncomputable def c56 : Con := mkCon 56 false (α := Int × Int × Int) (fun x => (fun (x : Int) (y : Int) (z : Int) => [dI x, dI y, dI z]) x.1 x.2.1 x.2.2) (fun _ => []) (fun x => (fun (x : Int) (y : Int) (z : Int) => True) x.1 x.2.1 x.2.2) (fun x => (fun (x : Int) (y : Int) (z : Int) => (dB (mIn x y z) : D)) x.1 x.2.1 x.2.2) (fun x => (fun (x : Int) (y : Int) (z : Int) => []) x.1 x.2.1 x.2.2)
@[simp] theorem c56_f : c56.f = 56 := rfl
@[simp] theorem c56_own : c56.own = false := rfl
theorem c56_inj : ∀ u_ v_ : Int × Int × Int, ((fun x => (fun (x : Int) (y : Int) (z : Int) => [dI x, dI y, dI z]) x.1 x.2.1 x.2.2) u_).map nz = ((fun x => (fun (x : Int) (y : Int) (z : Int) => [dI x, dI y, dI z]) x.1 x.2.1 x.2.2) v_).map nz → u_ = v_ := by
  intro u_ v_ h
  obtain ⟨x, y, z⟩ := u_
  obtain ⟨x', y', z'⟩ := v_
  simp [nz_lit, nz1_lit, nz_agg, nz_sl, nz1_sl] at h
  first | (simp [h]; done) | (obtain ⟨⟩ := h; simp_all; done) | simp_all
@[simp] theorem c56_fn (x : Int) (y : Int) (z : Int) : c56.fn [.lit (.int .i64 x), .lit (.int .i64 y), .lit (.int .i64 z)] [] = some ((fun (x : Int) (y : Int) (z : Int) => True) x y z, (fun (x : Int) (y : Int) (z : Int) => (dB (mIn x y z) : D)) x y z, (fun (x : Int) (y : Int) (z : Int) => []) x y z) :=
  mkCon_fn (fun x y h _ => c56_inj x y h) ((x, y, z) : Int × Int × Int) (by simp [nz, nz1, ML_nil]) rfl
theorem c56_pc (x : Int) (y : Int) (z : Int) : PCo Try.prog 56 [dI x, dI y, dI z] (Tab.of []) (dB (mIn x y z)) (Tab.of []) := by
  refine pco_of_run [] (E := ⟨[], [], []⟩) (m := false) (base := 0) Env.ok_nil G_ok mix 300 6 Try.func56 (by kernel_rfl) rfl (by kernel_rfl) (by kernel_rfl) rfl ?_
  simp [Try.f56]
  simp [mIn]
theorem c56_ok : c56.ok Try.prog := mkCon_ok fun ⟨x, y, z⟩ hpre => c56_pc x y z
/-- loop.example/g03007/impl.InRange -/
noncomputable def c36 : Con := mkCon 36 false (α := Int × Int × Int) (fun x => (fun (x : Int) (y : Int) (z : Int) => [dI x, dI y, dI z]) x.1 x.2.1 x.2.2) (fun _ => []) (fun x => (fun (x : Int) (y : Int) (z : Int) => True) x.1 x.2.1 x.2.2) (fun x => (fun (x : Int) (y : Int) (z : Int) => (dB (mIn x y z) : D)) x.1 x.2.1 x.2.2) (fun x => (fun (x : Int) (y : Int) (z : Int) => []) x.1 x.2.1 x.2.2)
@[simp] theorem c36_f : c36.f = 36 := rfl
@[simp] theorem c36_own : c36.own = false := rfl
theorem c36_inj : ∀ u_ v_ : Int × Int × Int, ((fun x => (fun (x : Int) (y : Int) (z : Int) => [dI x, dI y, dI z]) x.1 x.2.1 x.2.2) u_).map nz = ((fun x => (fun (x : Int) (y : Int) (z : Int) => [dI x, dI y, dI z]) x.1 x.2.1 x.2.2) v_).map nz → u_ = v_ := by
  intro u_ v_ h
  obtain ⟨x, y, z⟩ := u_
  obtain ⟨x', y', z'⟩ := v_
  simp [nz_lit, nz1_lit, nz_agg, nz_sl, nz1_sl] at h
  first | (simp [h]; done) | (obtain ⟨⟩ := h; simp_all; done) | simp_all
@[simp] theorem c36_fn (x : Int) (y : Int) (z : Int) : c36.fn [.lit (.int .i64 x), .lit (.int .i64 y), .lit (.int .i64 z)] [] = some ((fun (x : Int) (y : Int) (z : Int) => True) x y z, (fun (x : Int) (y : Int) (z : Int) => (dB (mIn x y z) : D)) x y z, (fun (x : Int) (y : Int) (z : Int) => []) x y z) :=
  mkCon_fn (fun x y h _ => c36_inj x y h) ((x, y, z) : Int × Int × Int) (by simp [nz, nz1, ML_nil]) rfl
theorem c36_pc (x : Int) (y : Int) (z : Int) : PCo Try.prog 36 [dI x, dI y, dI z] (Tab.of []) (dB (mIn x y z)) (Tab.of []) := by
  refine pco_of_run [] (E := ⟨[], [], []⟩) (m := false) (base := 0) Env.ok_nil G_ok mix 300 6 Try.func36 (by kernel_rfl) rfl (by kernel_rfl) (by kernel_rfl) rfl ?_
  simp [Try.f36]
  simp [mIn]
theorem c36_ok : c36.ok Try.prog := mkCon_ok fun ⟨x, y, z⟩ hpre => c36_pc x y z
/-- cmp.isNaN[int] -/
noncomputable def c65 : Con := mkCon 65 false (α := Int) (fun x => (fun (a : Int) => [dI a]) x) (fun _ => []) (fun x => (fun (a : Int) => True) x) (fun x => (fun (a : Int) => (dB false : D)) x) (fun x => (fun (a : Int) => []) x)
@[simp] theorem c65_f : c65.f = 65 := rfl
@[simp] theorem c65_own : c65.own = false := rfl
theorem c65_inj : ∀ u_ v_ : Int, ((fun x => (fun (a : Int) => [dI a]) x) u_).map nz = ((fun x => (fun (a : Int) => [dI a]) x) v_).map nz → u_ = v_ := by
  intro u_ v_ h
  obtain a := u_
  obtain a' := v_
  simp [nz_lit, nz1_lit, nz_agg, nz_sl, nz1_sl] at h
  first | (simp [h]; done) | (obtain ⟨⟩ := h; simp_all; done) | simp_all
@[simp] theorem c65_fn (a : Int) : c65.fn [.lit (.int .i64 a)] [] = some ((fun (a : Int) => True) a, (fun (a : Int) => (dB false : D)) a, (fun (a : Int) => []) a) :=
  mkCon_fn (fun x y h _ => c65_inj x y h) (a : Int) (by simp [nz, nz1, ML_nil]) rfl
theorem c65_pc (a : Int) : PCo Try.prog 65 [dI a] (Tab.of []) (dB false) (Tab.of []) := by
  refine pco_of_run [] (E := ⟨[], [], []⟩) (m := false) (base := 0) Env.ok_nil G_ok mix 300 6 Try.func65 (by kernel_rfl) rfl (by kernel_rfl) (by kernel_rfl) rfl ?_
  simp [Try.f65]
  all_goals first | omega | (rw [Bool.eq_iff_iff]; simp; omega) | grind
theorem c65_ok : c65.ok Try.prog := mkCon_ok fun a hpre => c65_pc a
/-- cmp.Less[int] -/
noncomputable def c55 : Con := mkCon 55 false (α := Int × Int) (fun x => (fun (a : Int) (b : Int) => [dI a, dI b]) x.1 x.2) (fun _ => []) (fun x => (fun (a : Int) (b : Int) => True) x.1 x.2) (fun x => (fun (a : Int) (b : Int) => (dB (decide (a < b)) : D)) x.1 x.2) (fun x => (fun (a : Int) (b : Int) => []) x.1 x.2)
@[simp] theorem c55_f : c55.f = 55 := rfl
@[simp] theorem c55_own : c55.own = false := rfl
theorem c55_inj : ∀ u_ v_ : Int × Int, ((fun x => (fun (a : Int) (b : Int) => [dI a, dI b]) x.1 x.2) u_).map nz = ((fun x => (fun (a : Int) (b : Int) => [dI a, dI b]) x.1 x.2) v_).map nz → u_ = v_ := by
  intro u_ v_ h
  obtain ⟨a, b⟩ := u_
  obtain ⟨a', b'⟩ := v_
  simp [nz_lit, nz1_lit, nz_agg, nz_sl, nz1_sl] at h
  first | (simp [h]; done) | (obtain ⟨⟩ := h; simp_all; done) | simp_all
@[simp] theorem c55_fn (a : Int) (b : Int) : c55.fn [.lit (.int .i64 a), .lit (.int .i64 b)] [] = some ((fun (a : Int) (b : Int) => True) a b, (fun (a : Int) (b : Int) => (dB (decide (a < b)) : D)) a b, (fun (a : Int) (b : Int) => []) a b) :=
  mkCon_fn (fun x y h _ => c55_inj x y h) ((a, b) : Int × Int) (by simp [nz, nz1, ML_nil]) rfl
theorem c55_pc (a : Int) (b : Int) : PCo Try.prog 55 [dI a, dI b] (Tab.of []) (dB (decide (a < b))) (Tab.of []) := by
  refine pco_of_run [] (E := ⟨[c65], [], []⟩) (m := false) (base := 0) (Env.ok_cons c65_ok Env.ok_nil) G_ok mix 300 6 Try.func55 (by kernel_rfl) rfl (by kernel_rfl) (by kernel_rfl) rfl ?_
  simp [Try.f55]
  all_goals first | omega | (rw [Bool.eq_iff_iff]; simp; omega) | grind
theorem c55_ok : c55.ok Try.prog := mkCon_ok fun ⟨a, b⟩ hpre => c55_pc a b
/-- loop.example/g03007/impl.isGreater -/
noncomputable def c70 : Con := mkCon 70 false (α := Int × Int) (fun x => (fun (a : Int) (b : Int) => [dI a, dI b]) x.1 x.2) (fun _ => []) (fun x => (fun (a : Int) (b : Int) => True) x.1 x.2) (fun x => (fun (a : Int) (b : Int) => (dB (decide (b < a)) : D)) x.1 x.2) (fun x => (fun (a : Int) (b : Int) => []) x.1 x.2)
@[simp] theorem c70_f : c70.f = 70 := rfl
@[simp] theorem c70_own : c70.own = false := rfl
theorem c70_inj : ∀ u_ v_ : Int × Int, ((fun x => (fun (a : Int) (b : Int) => [dI a, dI b]) x.1 x.2) u_).map nz = ((fun x => (fun (a : Int) (b : Int) => [dI a, dI b]) x.1 x.2) v_).map nz → u_ = v_ := by
  intro u_ v_ h
  obtain ⟨a, b⟩ := u_
  obtain ⟨a', b'⟩ := v_
  simp [nz_lit, nz1_lit, nz_agg, nz_sl, nz1_sl] at h
  first | (simp [h]; done) | (obtain ⟨⟩ := h; simp_all; done) | simp_all
@[simp] theorem c70_fn (a : Int) (b : Int) : c70.fn [.lit (.int .i64 a), .lit (.int .i64 b)] [] = some ((fun (a : Int) (b : Int) => True) a b, (fun (a : Int) (b : Int) => (dB (decide (b < a)) : D)) a b, (fun (a : Int) (b : Int) => []) a b) :=
  mkCon_fn (fun x y h _ => c70_inj x y h) ((a, b) : Int × Int) (by simp [nz, nz1, ML_nil]) rfl
theorem c70_pc (a : Int) (b : Int) : PCo Try.prog 70 [dI a, dI b] (Tab.of []) (dB (decide (b < a))) (Tab.of []) := by
  refine pco_of_run [] (E := ⟨[], [], []⟩) (m := false) (base := 0) Env.ok_nil G_ok mix 300 6 Try.func70 (by kernel_rfl) rfl (by kernel_rfl) (by kernel_rfl) rfl ?_
  simp [Try.f70]
  all_goals first | omega | (rw [Bool.eq_iff_iff]; simp; omega) | grind
theorem c70_ok : c70.ok Try.prog := mkCon_ok fun ⟨a, b⟩ hpre => c70_pc a b
/-- loop.example/g03007/impl.firstInOrder -/
noncomputable def c54 : Con := mkCon 54 false (α := FuncId × Int × Int) (fun x => (fun (g : FuncId) (a : Int) (b : Int) => ([.fn (.func g) [] [], dI a, .sl false 1 (dI 0) [dI b]] : List D)) x.1 x.2.1 x.2.2) (fun x => (fun (g : FuncId) (a : Int) (b : Int) => ([] : List (Nm × OO))) x.1 x.2.1 x.2.2) (fun x => (fun (g : FuncId) (a : Int) (b : Int) => g = 55 ∨ g = 70) x.1 x.2.1 x.2.2) (fun x => (fun (g : FuncId) (a : Int) (b : Int) => (dI (if g = 55 then min a b else max a b) : D)) x.1 x.2.1 x.2.2) (fun x => (fun (g : FuncId) (a : Int) (b : Int) => ([] : List (Nm × OO))) x.1 x.2.1 x.2.2)
@[simp] theorem c54_f : c54.f = 54 := rfl
@[simp] theorem c54_own : c54.own = false := rfl
theorem c54_inj : ∀ u_ v_ : FuncId × Int × Int, ((fun x => (fun (g : FuncId) (a : Int) (b : Int) => ([.fn (.func g) [] [], dI a, .sl false 1 (dI 0) [dI b]] : List D)) x.1 x.2.1 x.2.2) u_).map nz = ((fun x => (fun (g : FuncId) (a : Int) (b : Int) => ([.fn (.func g) [] [], dI a, .sl false 1 (dI 0) [dI b]] : List D)) x.1 x.2.1 x.2.2) v_).map nz → (fun x => (fun (g : FuncId) (a : Int) (b : Int) => ([] : List (Nm × OO))) x.1 x.2.1 x.2.2) u_ = (fun x => (fun (g : FuncId) (a : Int) (b : Int) => ([] : List (Nm × OO))) x.1 x.2.1 x.2.2) v_ → u_ = v_ := by
  intro u_ v_ h h2_
  obtain ⟨g, a, b⟩ := u_
  obtain ⟨g', a', b'⟩ := v_
  simp [nz_lit, nz1_lit, nz_agg, nz_sl, nz1_sl, nz_sx, nz_el, nz1_el, nz_own, nz1_own, nz_ptr, nz_fn, nz_iface] at h h2_
  first | (simp [h, h2_]; done) | (obtain ⟨h3_, h4_⟩ := List.append_inj h2_ h.1; simp_all; done) | simp_all | grind
@[simp] theorem c54_fn (g : FuncId) (a : Int) (b : Int) : c54.fn ([.fn (.func g) [] [], dI a, .sl false 1 (dI 0) [dI b]]) ([]) = some (g = 55 ∨ g = 70, dI (if g = 55 then min a b else max a b), []) :=
  mkCon_fn c54_inj ((g, a, b) : FuncId × Int × Int) rfl rfl
theorem c54_pc (g : FuncId) (a : Int) (b : Int) (hpre : g = 55 ∨ g = 70) : PCo Try.prog 54 ([.fn (.func g) [] [], dI a, .sl false 1 (dI 0) [dI b]]) (Tab.of ([])) (dI (if g = 55 then min a b else max a b)) (Tab.of ([])) := by
  refine pco_of_run [] (E := ⟨[c55, c70], [], []⟩) (m := false) (base := 0) (Env.ok_cons c55_ok (Env.ok_cons c70_ok Env.ok_nil)) G_ok mix 300 6 Try.func54 (by kernel_rfl) rfl (by kernel_rfl) (by kernel_rfl) rfl ?_
  rcases hpre with rfl | rfl
  · simp [Try.f54]
    refine loop_unroll 100 ?_
    simp
    omega
  · simp [Try.f54]
    refine loop_unroll 100 ?_
    simp
    omega
theorem c54_ok : c54.ok Try.prog := mkCon_ok fun ⟨g, a, b⟩ hpre => c54_pc g a b hpre
/-- loop.example/g03007/impl.Min -/
noncomputable def c37 : Con := mkCon 37 false (α := Int × Int) (fun x => (fun (a : Int) (b : Int) => [dI a, dI b]) x.1 x.2) (fun _ => []) (fun x => (fun (a : Int) (b : Int) => True) x.1 x.2) (fun x => (fun (a : Int) (b : Int) => (dI (min a b) : D)) x.1 x.2) (fun x => (fun (a : Int) (b : Int) => []) x.1 x.2)
@[simp] theorem c37_f : c37.f = 37 := rfl
@[simp] theorem c37_own : c37.own = false := rfl
theorem c37_inj : ∀ u_ v_ : Int × Int, ((fun x => (fun (a : Int) (b : Int) => [dI a, dI b]) x.1 x.2) u_).map nz = ((fun x => (fun (a : Int) (b : Int) => [dI a, dI b]) x.1 x.2) v_).map nz → u_ = v_ := by
  intro u_ v_ h
  obtain ⟨a, b⟩ := u_
  obtain ⟨a', b'⟩ := v_
  simp [nz_lit, nz1_lit, nz_agg, nz_sl, nz1_sl] at h
  first | (simp [h]; done) | (obtain ⟨⟩ := h; simp_all; done) | simp_all
@[simp] theorem c37_fn (a : Int) (b : Int) : c37.fn [.lit (.int .i64 a), .lit (.int .i64 b)] [] = some ((fun (a : Int) (b : Int) => True) a b, (fun (a : Int) (b : Int) => (dI (min a b) : D)) a b, (fun (a : Int) (b : Int) => []) a b) :=
  mkCon_fn (fun x y h _ => c37_inj x y h) ((a, b) : Int × Int) (by simp [nz, nz1, ML_nil]) rfl
theorem c37_pc (a : Int) (b : Int) : PCo Try.prog 37 [dI a, dI b] (Tab.of []) (dI (min a b)) (Tab.of []) := by
  refine pco_of_run [] (E := ⟨[c54, c55], [], []⟩) (m := false) (base := 0) (Env.ok_cons c54_ok (Env.ok_cons c55_ok Env.ok_nil)) G_ok mix 300 6 Try.func37 (by kernel_rfl) rfl (by kernel_rfl) (by kernel_rfl) rfl ?_
  simp [Try.f37]
  all_goals first | omega | (rw [Bool.eq_iff_iff]; simp; omega) | grind
theorem c37_ok : c37.ok Try.prog := mkCon_ok fun ⟨a, b⟩ hpre => c37_pc a b
/-- loop.example/g03007/impl.Max -/
noncomputable def c63 : Con := mkCon 63 false (α := Int × Int) (fun x => (fun (a : Int) (b : Int) => [dI a, dI b]) x.1 x.2) (fun _ => []) (fun x => (fun (a : Int) (b : Int) => True) x.1 x.2) (fun x => (fun (a : Int) (b : Int) => (dI (max a b) : D)) x.1 x.2) (fun x => (fun (a : Int) (b : Int) => []) x.1 x.2)
@[simp] theorem c63_f : c63.f = 63 := rfl
@[simp] theorem c63_own : c63.own = false := rfl
theorem c63_inj : ∀ u_ v_ : Int × Int, ((fun x => (fun (a : Int) (b : Int) => [dI a, dI b]) x.1 x.2) u_).map nz = ((fun x => (fun (a : Int) (b : Int) => [dI a, dI b]) x.1 x.2) v_).map nz → u_ = v_ := by
  intro u_ v_ h
  obtain ⟨a, b⟩ := u_
  obtain ⟨a', b'⟩ := v_
  simp [nz_lit, nz1_lit, nz_agg, nz_sl, nz1_sl] at h
  first | (simp [h]; done) | (obtain ⟨⟩ := h; simp_all; done) | simp_all
@[simp] theorem c63_fn (a : Int) (b : Int) : c63.fn [.lit (.int .i64 a), .lit (.int .i64 b)] [] = some ((fun (a : Int) (b : Int) => True) a b, (fun (a : Int) (b : Int) => (dI (max a b) : D)) a b, (fun (a : Int) (b : Int) => []) a b) :=
  mkCon_fn (fun x y h _ => c63_inj x y h) ((a, b) : Int × Int) (by simp [nz, nz1, ML_nil]) rfl
theorem c63_pc (a : Int) (b : Int) : PCo Try.prog 63 [dI a, dI b] (Tab.of []) (dI (max a b)) (Tab.of []) := by
  refine pco_of_run [] (E := ⟨[c54, c70], [], []⟩) (m := false) (base := 0) (Env.ok_cons c54_ok (Env.ok_cons c70_ok Env.ok_nil)) G_ok mix 300 6 Try.func63 (by kernel_rfl) rfl (by kernel_rfl) (by kernel_rfl) rfl ?_
  simp [Try.f63]
  all_goals first | omega | (rw [Bool.eq_iff_iff]; simp; omega) | grind
theorem c63_ok : c63.ok Try.prog := mkCon_ok fun ⟨a, b⟩ hpre => c63_pc a b
theorem in_of {x y z : Int} (h : mIn x y z = true) : y ≤ x ∧ x ≤ z := by
  simp [mIn] at h; exact h
def geN {α : Type} (num : α → Int) (n : Int) (x : α) : Bool := decide (n ≤ num x)
def putAt {α : Type} (num : α → Int) (n : Int) (l : List α) : Nat := if indexBy (geN num n) 0 l < 0 then l.length else (indexBy (geN num n) 0 l).toNat
def putRest {α : Type} [Inhabited α] (num : α → Int) (n : Int) (l : List α) : Nat := if putAt num n l < l.length ∧ num (l[putAt num n l]?.getD default) = n then putAt num n l + 1 else putAt num n l
def putBy {α : Type} [Inhabited α] (num : α → Int) (x : α) (l : List α) : List α := l.take (putAt num (num x) l) ++ x :: l.drop (putRest num (num x) l)
theorem putAt_le {α : Type} (num : α → Int) (n : Int) (l : List α) : putAt num n l ≤ l.length := by
  have := indexBy_bd (want := geN num n) l 0
  simp only [putAt]; split <;> omega
theorem putRest_le {α : Type} [Inhabited α] (num : α → Int) (n : Int) (l : List α) : putAt num n l ≤ putRest num n l ∧ putRest num n l ≤ l.length ∧ putRest num n l ≤ putAt num n l + 1 := by
  have := putAt_le num n l
  simp only [putRest]; split <;> omega
theorem putBy_len {α : Type} [Inhabited α] (num : α → Int) (x : α) (l : List α) : (putBy num x l).length ≤ l.length + 1 := by
  have h1 := putAt_le num (num x) l
  have h2 := putRest_le num (num x) l
  simp [putBy]; omega

end Go.Proofs.Ytdbhfkbfajljpaa
