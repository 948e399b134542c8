/- Contracts of the functions that the laws run. -/
import Derived.Test.Ytnghehfdclhfdaach04
import Derived.Test.Ytnghehfdclhfdaach03
import Derived.Test.YtnghehfdclhfdaaEngB
namespace Go.Proofs.Ytnghehfdclhfdaa
open Go Go.Eng
set_option linter.unusedSimpArgs false
set_option linter.unusedVariables false
set_option maxRecDepth 10000
set_option maxHeartbeats 1000000
def mHintOf (x : TThing) (salt : Int) : Int := mHash [salt, x.Kind, x.Colour, x.Size.tdiv 10]
@[simp] theorem c138_four (a b c d : Int) : c138.fn [.sl false 1 (.lit (.int .i64 0)) [dI a, dI b, dI c, dI d]] [] = some (4 ≤ 1099511627776, dI (mHash [a, b, c, d]), []) := c138_fn [a, b, c, d]
@[simp] theorem c111_four (a b c d : Int) : c111.fn [.sl false 1 (.lit (.int .i64 0)) [dI a, dI b, dI c, dI d]] [] = some (4 ≤ 1099511627776, dI (mHash [a, b, c, d]), []) := c111_fn [a, b, c, d]
theorem tdiv10_bd (x : Int) : (0 ≤ x ∧ 0 ≤ x.tdiv 10 ∧ x.tdiv 10 ≤ x) ∨ (x < 0 ∧ x ≤ x.tdiv 10 ∧ x.tdiv 10 ≤ 0) := by
  by_cases h : 0 ≤ x
  · left
    have := tdiv_bd h (show (0 : Int) < 10 by omega)
    omega
  · right
    have h1 := tdiv_bd (x := -x) (b := 10) (by omega) (by omega)
    rw [Int.neg_tdiv] at h1
    omega
/-- loop.example/g03007/spec.HintOf -/
noncomputable def c107 : Con := mkCon 107 false (α := TThing × Int) (fun x => (fun (x : TThing) (salt : Int) => [encTThing x, dI salt]) x.1 x.2) (fun _ => []) (fun x => (fun (x : TThing) (salt : Int) => -9223372036854775808 ≤ x.Size ∧ x.Size ≤ 9223372036854775807) x.1 x.2) (fun x => (fun (x : TThing) (salt : Int) => (dI (mHintOf x salt) : D)) x.1 x.2) (fun x => (fun (x : TThing) (salt : Int) => []) x.1 x.2)
@[simp] theorem c107_f : c107.f = 107 := rfl
@[simp] theorem c107_own : c107.own = false := rfl
theorem c107_inj : ∀ u_ v_ : TThing × Int, ((fun x => (fun (x : TThing) (salt : Int) => [encTThing x, dI salt]) x.1 x.2) u_).map nz = ((fun x => (fun (x : TThing) (salt : Int) => [encTThing x, dI salt]) x.1 x.2) v_).map nz → u_ = v_ := by
  intro u_ v_ h
  obtain ⟨⟨x_Id, x_Kind, x_Colour, x_Size, x_Worth⟩, salt⟩ := u_
  obtain ⟨⟨x_Id', x_Kind', x_Colour', x_Size', x_Worth'⟩, salt'⟩ := v_
  simp [nz_lit, nz1_lit, nz_agg, nz_sl, nz1_sl, encTThing] at h
  first | (simp [h]; done) | (obtain ⟨⟩ := h; simp_all; done) | simp_all
@[simp] theorem c107_fn (x_Id : Int) (x_Kind : Int) (x_Colour : Int) (x_Size : Int) (x_Worth : Int) (salt : Int) : c107.fn [.agg [.lit (.int .i64 x_Id), .lit (.int .i64 x_Kind), .lit (.int .i64 x_Colour), .lit (.int .i64 x_Size), .lit (.int .i64 x_Worth)], .lit (.int .i64 salt)] [] = some ((fun (x : TThing) (salt : Int) => -9223372036854775808 ≤ x.Size ∧ x.Size ≤ 9223372036854775807) ⟨x_Id, x_Kind, x_Colour, x_Size, x_Worth⟩ salt, (fun (x : TThing) (salt : Int) => (dI (mHintOf x salt) : D)) ⟨x_Id, x_Kind, x_Colour, x_Size, x_Worth⟩ salt, (fun (x : TThing) (salt : Int) => []) ⟨x_Id, x_Kind, x_Colour, x_Size, x_Worth⟩ salt) :=
  mkCon_fn (fun x y h _ => c107_inj x y h) ((⟨x_Id, x_Kind, x_Colour, x_Size, x_Worth⟩, salt) : TThing × Int) (by simp [nz, nz1, ML_nil, encTThing]) rfl
theorem c107_pc (x : TThing) (salt : Int) (hpre : -9223372036854775808 ≤ x.Size ∧ x.Size ≤ 9223372036854775807) : PCo Try.prog 107 [encTThing x, dI salt] (Tab.of []) (dI (mHintOf x salt)) (Tab.of []) := by
  obtain ⟨x_Id, x_Kind, x_Colour, x_Size, x_Worth⟩ := x
  refine pco_of_run [] (E := ⟨[c138], [], []⟩) (m := false) (base := 0) (Env.ok_cons c138_ok Env.ok_nil) G_ok mix 300 6 Try.func107 (by kernel_rfl) rfl (by kernel_rfl) (by kernel_rfl) rfl ?_
  simp [Try.f107]
  simp at hpre
  have := tdiv10_bd x_Size
  exact ⟨by omega, rfl⟩
theorem c107_ok : c107.ok Try.prog := mkCon_ok fun ⟨x, salt⟩ hpre => c107_pc x salt hpre
/-- loop.example/g03007/impl.HintOf -/
noncomputable def c81 : Con := mkCon 81 false (α := TThing × Int) (fun x => (fun (x : TThing) (salt : Int) => [encTThing x, dI salt]) x.1 x.2) (fun _ => []) (fun x => (fun (x : TThing) (salt : Int) => -9223372036854775808 ≤ x.Size ∧ x.Size ≤ 9223372036854775807) x.1 x.2) (fun x => (fun (x : TThing) (salt : Int) => (dI (mHintOf x salt) : D)) x.1 x.2) (fun x => (fun (x : TThing) (salt : Int) => []) x.1 x.2)
@[simp] theorem c81_f : c81.f = 81 := rfl
@[simp] theorem c81_own : c81.own = false := rfl
theorem c81_inj : ∀ u_ v_ : TThing × Int, ((fun x => (fun (x : TThing) (salt : Int) => [encTThing x, dI salt]) x.1 x.2) u_).map nz = ((fun x => (fun (x : TThing) (salt : Int) => [encTThing x, dI salt]) x.1 x.2) v_).map nz → u_ = v_ := by
  intro u_ v_ h
  obtain ⟨⟨x_Id, x_Kind, x_Colour, x_Size, x_Worth⟩, salt⟩ := u_
  obtain ⟨⟨x_Id', x_Kind', x_Colour', x_Size', x_Worth'⟩, salt'⟩ := v_
  simp [nz_lit, nz1_lit, nz_agg, nz_sl, nz1_sl, encTThing] at h
  first | (simp [h]; done) | (obtain ⟨⟩ := h; simp_all; done) | simp_all
@[simp] theorem c81_fn (x_Id : Int) (x_Kind : Int) (x_Colour : Int) (x_Size : Int) (x_Worth : Int) (salt : Int) : c81.fn [.agg [.lit (.int .i64 x_Id), .lit (.int .i64 x_Kind), .lit (.int .i64 x_Colour), .lit (.int .i64 x_Size), .lit (.int .i64 x_Worth)], .lit (.int .i64 salt)] [] = some ((fun (x : TThing) (salt : Int) => -9223372036854775808 ≤ x.Size ∧ x.Size ≤ 9223372036854775807) ⟨x_Id, x_Kind, x_Colour, x_Size, x_Worth⟩ salt, (fun (x : TThing) (salt : Int) => (dI (mHintOf x salt) : D)) ⟨x_Id, x_Kind, x_Colour, x_Size, x_Worth⟩ salt, (fun (x : TThing) (salt : Int) => []) ⟨x_Id, x_Kind, x_Colour, x_Size, x_Worth⟩ salt) :=
  mkCon_fn (fun x y h _ => c81_inj x y h) ((⟨x_Id, x_Kind, x_Colour, x_Size, x_Worth⟩, salt) : TThing × Int) (by simp [nz, nz1, ML_nil, encTThing]) rfl
theorem c81_pc (x : TThing) (salt : Int) (hpre : -9223372036854775808 ≤ x.Size ∧ x.Size ≤ 9223372036854775807) : PCo Try.prog 81 [encTThing x, dI salt] (Tab.of []) (dI (mHintOf x salt)) (Tab.of []) := by
  obtain ⟨x_Id, x_Kind, x_Colour, x_Size, x_Worth⟩ := x
  refine pco_of_run [] (E := ⟨[c111], [], []⟩) (m := false) (base := 0) (Env.ok_cons c111_ok Env.ok_nil) G_ok mix 300 6 Try.func81 (by kernel_rfl) rfl (by kernel_rfl) (by kernel_rfl) rfl ?_
  simp [Try.f81]
  simp at hpre
  have := tdiv10_bd x_Size
  exact ⟨by omega, rfl⟩
theorem c81_ok : c81.ok Try.prog := mkCon_ok fun ⟨x, salt⟩ hpre => c81_pc x salt hpre
end Go.Proofs.Ytnghehfdclhfdaa
