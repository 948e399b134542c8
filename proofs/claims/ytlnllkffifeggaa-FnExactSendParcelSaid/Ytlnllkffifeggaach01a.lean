/- Contracts of the functions that the laws run. -/
import Derived.Test.YtlnllkffifeggaaTS
import Derived.Test.YtlnllkffifeggaaEngB
namespace Go.Proofs.Ytlnllkffifeggaa
open Go Go.Eng
set_option linter.unusedSimpArgs false
set_option linter.unusedVariables false
set_option maxRecDepth 10000
set_option maxHeartbeats 1000000
def mIn (x y z : Int) : Bool := decide (y ≤ x) && decide (x ≤ z)
/-- loop.example/g03007/spec.l1In -/
noncomputable def c30 : Con := mkCon 30 false (α := Int × Int × Int) (fun x => (fun (x : Int) (y : Int) (z : Int) => [dI x, dI y, dI z]) x.1 x.2.1 x.2.2) (fun _ => []) (fun x => (fun (x : Int) (y : Int) (z : Int) => True) x.1 x.2.1 x.2.2) (fun x => (fun (x : Int) (y : Int) (z : Int) => (dB (mIn x y z) : D)) x.1 x.2.1 x.2.2) (fun x => (fun (x : Int) (y : Int) (z : Int) => []) x.1 x.2.1 x.2.2)
@[simp] theorem c30_f : c30.f = 30 := rfl
@[simp] theorem c30_own : c30.own = false := rfl
theorem c30_inj : ∀ u_ v_ : Int × Int × Int, ((fun x => (fun (x : Int) (y : Int) (z : Int) => [dI x, dI y, dI z]) x.1 x.2.1 x.2.2) u_).map nz = ((fun x => (fun (x : Int) (y : Int) (z : Int) => [dI x, dI y, dI z]) x.1 x.2.1 x.2.2) v_).map nz → u_ = v_ := by
  intro u_ v_ h
  obtain ⟨x, y, z⟩ := u_
  obtain ⟨x', y', z'⟩ := v_
  simp [nz_lit, nz1_lit, nz_agg, nz_sl, nz1_sl] at h
  first | (simp [h]; done) | (obtain ⟨⟩ := h; simp_all; done) | simp_all
@[simp] theorem c30_fn (x : Int) (y : Int) (z : Int) : c30.fn [.lit (.int .i64 x), .lit (.int .i64 y), .lit (.int .i64 z)] [] = some ((fun (x : Int) (y : Int) (z : Int) => True) x y z, (fun (x : Int) (y : Int) (z : Int) => (dB (mIn x y z) : D)) x y z, (fun (x : Int) (y : Int) (z : Int) => []) x y z) :=
  mkCon_fn (fun x y h _ => c30_inj x y h) ((x, y, z) : Int × Int × Int) (by simp [nz, nz1, ML_nil]) rfl
theorem c30_pc (x : Int) (y : Int) (z : Int) : PCo Try.prog 30 [dI x, dI y, dI z] (Tab.of []) (dB (mIn x y z)) (Tab.of []) := by
  refine pco_of_run [] (E := ⟨[], []⟩) (m := false) (base := 0) Env.ok_nil G_ok mix 300 6 Try.func30 (by kernel_rfl) rfl (by kernel_rfl) (by kernel_rfl) rfl ?_
  simp [Try.f30]
  simp [mIn]
theorem c30_ok : c30.ok Try.prog := mkCon_ok fun ⟨x, y, z⟩ hpre => c30_pc x y z
/-- loop.example/g03007/impl.InRange -/
noncomputable def c37 : Con := mkCon 37 false (α := Int × Int × Int) (fun x => (fun (x : Int) (y : Int) (z : Int) => [dI x, dI y, dI z]) x.1 x.2.1 x.2.2) (fun _ => []) (fun x => (fun (x : Int) (y : Int) (z : Int) => True) x.1 x.2.1 x.2.2) (fun x => (fun (x : Int) (y : Int) (z : Int) => (dB (mIn x y z) : D)) x.1 x.2.1 x.2.2) (fun x => (fun (x : Int) (y : Int) (z : Int) => []) x.1 x.2.1 x.2.2)
@[simp] theorem c37_f : c37.f = 37 := rfl
@[simp] theorem c37_own : c37.own = false := rfl
theorem c37_inj : ∀ u_ v_ : Int × Int × Int, ((fun x => (fun (x : Int) (y : Int) (z : Int) => [dI x, dI y, dI z]) x.1 x.2.1 x.2.2) u_).map nz = ((fun x => (fun (x : Int) (y : Int) (z : Int) => [dI x, dI y, dI z]) x.1 x.2.1 x.2.2) v_).map nz → u_ = v_ := by
  intro u_ v_ h
  obtain ⟨x, y, z⟩ := u_
  obtain ⟨x', y', z'⟩ := v_
  simp [nz_lit, nz1_lit, nz_agg, nz_sl, nz1_sl] at h
  first | (simp [h]; done) | (obtain ⟨⟩ := h; simp_all; done) | simp_all
@[simp] theorem c37_fn (x : Int) (y : Int) (z : Int) : c37.fn [.lit (.int .i64 x), .lit (.int .i64 y), .lit (.int .i64 z)] [] = some ((fun (x : Int) (y : Int) (z : Int) => True) x y z, (fun (x : Int) (y : Int) (z : Int) => (dB (mIn x y z) : D)) x y z, (fun (x : Int) (y : Int) (z : Int) => []) x y z) :=
  mkCon_fn (fun x y h _ => c37_inj x y h) ((x, y, z) : Int × Int × Int) (by simp [nz, nz1, ML_nil]) rfl
theorem c37_pc (x : Int) (y : Int) (z : Int) : PCo Try.prog 37 [dI x, dI y, dI z] (Tab.of []) (dB (mIn x y z)) (Tab.of []) := by
  refine pco_of_run [] (E := ⟨[], []⟩) (m := false) (base := 0) Env.ok_nil G_ok mix 300 6 Try.func37 (by kernel_rfl) rfl (by kernel_rfl) (by kernel_rfl) rfl ?_
  simp [Try.f37]
  simp [mIn]
theorem c37_ok : c37.ok Try.prog := mkCon_ok fun ⟨x, y, z⟩ hpre => c37_pc x y z
/-- cmp.isNaN[int] -/
noncomputable def c73 : Con := mkCon 73 false (α := Int) (fun x => (fun (a : Int) => [dI a]) x) (fun _ => []) (fun x => (fun (a : Int) => True) x) (fun x => (fun (a : Int) => (dB false : D)) x) (fun x => (fun (a : Int) => []) x)
@[simp] theorem c73_f : c73.f = 73 := rfl
@[simp] theorem c73_own : c73.own = false := rfl
theorem c73_inj : ∀ u_ v_ : Int, ((fun x => (fun (a : Int) => [dI a]) x) u_).map nz = ((fun x => (fun (a : Int) => [dI a]) x) v_).map nz → u_ = v_ := by
  intro u_ v_ h
  obtain a := u_
  obtain a' := v_
  simp [nz_lit, nz1_lit, nz_agg, nz_sl, nz1_sl] at h
  first | (simp [h]; done) | (obtain ⟨⟩ := h; simp_all; done) | simp_all
@[simp] theorem c73_fn (a : Int) : c73.fn [.lit (.int .i64 a)] [] = some ((fun (a : Int) => True) a, (fun (a : Int) => (dB false : D)) a, (fun (a : Int) => []) a) :=
  mkCon_fn (fun x y h _ => c73_inj x y h) (a : Int) (by simp [nz, nz1, ML_nil]) rfl
theorem c73_pc (a : Int) : PCo Try.prog 73 [dI a] (Tab.of []) (dB false) (Tab.of []) := by
  refine pco_of_run [] (E := ⟨[], []⟩) (m := false) (base := 0) Env.ok_nil G_ok mix 300 6 Try.func73 (by kernel_rfl) rfl (by kernel_rfl) (by kernel_rfl) rfl ?_
  simp [Try.f73]
  all_goals first | omega | (rw [Bool.eq_iff_iff]; simp; omega) | grind
theorem c73_ok : c73.ok Try.prog := mkCon_ok fun a hpre => c73_pc a
/-- cmp.Less[int] -/
noncomputable def c61 : Con := mkCon 61 false (α := Int × Int) (fun x => (fun (a : Int) (b : Int) => [dI a, dI b]) x.1 x.2) (fun _ => []) (fun x => (fun (a : Int) (b : Int) => True) x.1 x.2) (fun x => (fun (a : Int) (b : Int) => (dB (decide (a < b)) : D)) x.1 x.2) (fun x => (fun (a : Int) (b : Int) => []) x.1 x.2)
@[simp] theorem c61_f : c61.f = 61 := rfl
@[simp] theorem c61_own : c61.own = false := rfl
theorem c61_inj : ∀ u_ v_ : Int × Int, ((fun x => (fun (a : Int) (b : Int) => [dI a, dI b]) x.1 x.2) u_).map nz = ((fun x => (fun (a : Int) (b : Int) => [dI a, dI b]) x.1 x.2) v_).map nz → u_ = v_ := by
  intro u_ v_ h
  obtain ⟨a, b⟩ := u_
  obtain ⟨a', b'⟩ := v_
  simp [nz_lit, nz1_lit, nz_agg, nz_sl, nz1_sl] at h
  first | (simp [h]; done) | (obtain ⟨⟩ := h; simp_all; done) | simp_all
@[simp] theorem c61_fn (a : Int) (b : Int) : c61.fn [.lit (.int .i64 a), .lit (.int .i64 b)] [] = some ((fun (a : Int) (b : Int) => True) a b, (fun (a : Int) (b : Int) => (dB (decide (a < b)) : D)) a b, (fun (a : Int) (b : Int) => []) a b) :=
  mkCon_fn (fun x y h _ => c61_inj x y h) ((a, b) : Int × Int) (by simp [nz, nz1, ML_nil]) rfl
theorem c61_pc (a : Int) (b : Int) : PCo Try.prog 61 [dI a, dI b] (Tab.of []) (dB (decide (a < b))) (Tab.of []) := by
  refine pco_of_run [] (E := ⟨[c73], []⟩) (m := false) (base := 0) (Env.ok_cons c73_ok Env.ok_nil) G_ok mix 300 6 Try.func61 (by kernel_rfl) rfl (by kernel_rfl) (by kernel_rfl) rfl ?_
  simp [Try.f61]
  all_goals first | omega | (rw [Bool.eq_iff_iff]; simp; omega) | grind
theorem c61_ok : c61.ok Try.prog := mkCon_ok fun ⟨a, b⟩ hpre => c61_pc a b
theorem in_of {x y z : Int} (h : mIn x y z = true) : y ≤ x ∧ x ≤ z := by
  simp [mIn] at h; exact h
def geN {α : Type} (num : α → Int) (n : Int) (x : α) : Bool := decide (n ≤ num x)
def putAt {α : Type} (num : α → Int) (n : Int) (l : List α) : Nat := if indexBy (geN num n) 0 l < 0 then l.length else (indexBy (geN num n) 0 l).toNat
def putRest {α : Type} [Inhabited α] (num : α → Int) (n : Int) (l : List α) : Nat := if putAt num n l < l.length ∧ num (l[putAt num n l]?.getD default) = n then putAt num n l + 1 else putAt num n l
def putBy {α : Type} [Inhabited α] (num : α → Int) (x : α) (l : List α) : List α := l.take (putAt num (num x) l) ++ x :: l.drop (putRest num (num x) l)
theorem putAt_le {α : Type} (num : α → Int) (n : Int) (l : List α) : putAt num n l ≤ l.length := by
  have := indexBy_bd (want := geN num n) l 0
  simp only [putAt]; split <;> omega
theorem putRest_le {α : Type} [Inhabited α] (num : α → Int) (n : Int) (l : List α) : putAt num n l ≤ putRest num n l ∧ putRest num n l ≤ l.length ∧ putRest num n l ≤ putAt num n l + 1 := by
  have := putAt_le num n l
  simp only [putRest]; split <;> omega
theorem putBy_len {α : Type} [Inhabited α] (num : α → Int) (x : α) (l : List α) : (putBy num x l).length ≤ l.length + 1 := by
  have h1 := putAt_le num (num x) l
  have h2 := putRest_le num (num x) l
  simp [putBy]; omega

end Go.Proofs.Ytlnllkffifeggaa
