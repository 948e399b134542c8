/- Contracts of the functions that the laws run. -/
import Derived.Test.Ytmbgihklhmhilaach04
import Derived.Test.Ytmbgihklhmhilaach03
import Derived.Test.YtmbgihklhmhilaaEngB
namespace Go.Proofs.Ytmbgihklhmhilaa
open Go Go.Eng
set_option linter.unusedSimpArgs false
set_option linter.unusedVariables false
set_option maxRecDepth 10000
set_option maxHeartbeats 1000000
def mHintOf (x : TThing) (salt : Int) : Int := mHash [salt, x.Kind, x.Colour, x.Size.tdiv 10]
@[simp] theorem c206_four (a b c d : Int) : c206.fn [.sl false 1 (.lit (.int .i64 0)) [dI a, dI b, dI c, dI d]] [] = some (4 ≤ 1099511627776, dI (mHash [a, b, c, d]), []) := c206_fn [a, b, c, d]
@[simp] theorem c250_four (a b c d : Int) : c250.fn [.sl false 1 (.lit (.int .i64 0)) [dI a, dI b, dI c, dI d]] [] = some (4 ≤ 1099511627776, dI (mHash [a, b, c, d]), []) := c250_fn [a, b, c, d]
theorem tdiv10_bd (x : Int) : (0 ≤ x ∧ 0 ≤ x.tdiv 10 ∧ x.tdiv 10 ≤ x) ∨ (x < 0 ∧ x ≤ x.tdiv 10 ∧ x.tdiv 10 ≤ 0) := by
  by_cases h : 0 ≤ x
  · left
    have := tdiv_bd h (show (0 : Int) < 10 by omega)
    omega
  · right
    have h1 := tdiv_bd (x := -x) (b := 10) (by omega) (by omega)
    rw [Int.neg_tdiv] at h1
    omega
/-- loop.example/g03007/spec.HintOf -/
noncomputable def c167 : Con := mkCon 167 false (α := TThing × Int) (fun x => (fun (x : TThing) (salt : Int) => [encTThing x, dI salt]) x.1 x.2) (fun _ => []) (fun x => (fun (x : TThing) (salt : Int) => -9223372036854775808 ≤ x.Size ∧ x.Size ≤ 9223372036854775807) x.1 x.2) (fun x => (fun (x : TThing) (salt : Int) => (dI (mHintOf x salt) : D)) x.1 x.2) (fun x => (fun (x : TThing) (salt : Int) => []) x.1 x.2)
@[simp] theorem c167_f : c167.f = 167 := rfl
@[simp] theorem c167_own : c167.own = false := rfl
theorem c167_inj : ∀ u_ v_ : TThing × Int, ((fun x => (fun (x : TThing) (salt : Int) => [encTThing x, dI salt]) x.1 x.2) u_).map nz = ((fun x => (fun (x : TThing) (salt : Int) => [encTThing x, dI salt]) x.1 x.2) v_).map nz → u_ = v_ := by
  intro u_ v_ h
  obtain ⟨⟨x_Id, x_Kind, x_Colour, x_Size, x_Worth⟩, salt⟩ := u_
  obtain ⟨⟨x_Id', x_Kind', x_Colour', x_Size', x_Worth'⟩, salt'⟩ := v_
  simp [nz_lit, nz1_lit, nz_agg, nz_sl, nz1_sl, encTThing] at h
  first | (simp [h]; done) | (obtain ⟨⟩ := h; simp_all; done) | simp_all
@[simp] theorem c167_fn (x_Id : Int) (x_Kind : Int) (x_Colour : Int) (x_Size : Int) (x_Worth : Int) (salt : Int) : c167.fn [.agg [.lit (.int .i64 x_Id), .lit (.int .i64 x_Kind), .lit (.int .i64 x_Colour), .lit (.int .i64 x_Size), .lit (.int .i64 x_Worth)], .lit (.int .i64 salt)] [] = some ((fun (x : TThing) (salt : Int) => -9223372036854775808 ≤ x.Size ∧ x.Size ≤ 9223372036854775807) ⟨x_Id, x_Kind, x_Colour, x_Size, x_Worth⟩ salt, (fun (x : TThing) (salt : Int) => (dI (mHintOf x salt) : D)) ⟨x_Id, x_Kind, x_Colour, x_Size, x_Worth⟩ salt, (fun (x : TThing) (salt : Int) => []) ⟨x_Id, x_Kind, x_Colour, x_Size, x_Worth⟩ salt) :=
  mkCon_fn (fun x y h _ => c167_inj x y h) ((⟨x_Id, x_Kind, x_Colour, x_Size, x_Worth⟩, salt) : TThing × Int) (by simp [nz, nz1, ML_nil, encTThing]) rfl
theorem c167_pc (x : TThing) (salt : Int) (hpre : -9223372036854775808 ≤ x.Size ∧ x.Size ≤ 9223372036854775807) : PCo Try.prog 167 [encTThing x, dI salt] (Tab.of []) (dI (mHintOf x salt)) (Tab.of []) := by
  obtain ⟨x_Id, x_Kind, x_Colour, x_Size, x_Worth⟩ := x
  refine pco_of_run [] (E := ⟨[c206], []⟩) (m := false) (base := 0) (Env.ok_cons c206_ok Env.ok_nil) G_ok mix 300 6 Try.func167 (by kernel_rfl) rfl (by kernel_rfl) (by kernel_rfl) rfl ?_
  simp [Try.f167]
  simp at hpre
  have := tdiv10_bd x_Size
  exact ⟨by omega, rfl⟩
theorem c167_ok : c167.ok Try.prog := mkCon_ok fun ⟨x, salt⟩ hpre => c167_pc x salt hpre
/-- loop.example/g03007/impl.HintOf -/
noncomputable def c171 : Con := mkCon 171 false (α := TThing × Int) (fun x => (fun (x : TThing) (salt : Int) => [encTThing x, dI salt]) x.1 x.2) (fun _ => []) (fun x => (fun (x : TThing) (salt : Int) => -9223372036854775808 ≤ x.Size ∧ x.Size ≤ 9223372036854775807) x.1 x.2) (fun x => (fun (x : TThing) (salt : Int) => (dI (mHintOf x salt) : D)) x.1 x.2) (fun x => (fun (x : TThing) (salt : Int) => []) x.1 x.2)
@[simp] theorem c171_f : c171.f = 171 := rfl
@[simp] theorem c171_own : c171.own = false := rfl
theorem c171_inj : ∀ u_ v_ : TThing × Int, ((fun x => (fun (x : TThing) (salt : Int) => [encTThing x, dI salt]) x.1 x.2) u_).map nz = ((fun x => (fun (x : TThing) (salt : Int) => [encTThing x, dI salt]) x.1 x.2) v_).map nz → u_ = v_ := by
  intro u_ v_ h
  obtain ⟨⟨x_Id, x_Kind, x_Colour, x_Size, x_Worth⟩, salt⟩ := u_
  obtain ⟨⟨x_Id', x_Kind', x_Colour', x_Size', x_Worth'⟩, salt'⟩ := v_
  simp [nz_lit, nz1_lit, nz_agg, nz_sl, nz1_sl, encTThing] at h
  first | (simp [h]; done) | (obtain ⟨⟩ := h; simp_all; done) | simp_all
@[simp] theorem c171_fn (x_Id : Int) (x_Kind : Int) (x_Colour : Int) (x_Size : Int) (x_Worth : Int) (salt : Int) : c171.fn [.agg [.lit (.int .i64 x_Id), .lit (.int .i64 x_Kind), .lit (.int .i64 x_Colour), .lit (.int .i64 x_Size), .lit (.int .i64 x_Worth)], .lit (.int .i64 salt)] [] = some ((fun (x : TThing) (salt : Int) => -9223372036854775808 ≤ x.Size ∧ x.Size ≤ 9223372036854775807) ⟨x_Id, x_Kind, x_Colour, x_Size, x_Worth⟩ salt, (fun (x : TThing) (salt : Int) => (dI (mHintOf x salt) : D)) ⟨x_Id, x_Kind, x_Colour, x_Size, x_Worth⟩ salt, (fun (x : TThing) (salt : Int) => []) ⟨x_Id, x_Kind, x_Colour, x_Size, x_Worth⟩ salt) :=
  mkCon_fn (fun x y h _ => c171_inj x y h) ((⟨x_Id, x_Kind, x_Colour, x_Size, x_Worth⟩, salt) : TThing × Int) (by simp [nz, nz1, ML_nil, encTThing]) rfl
theorem c171_pc (x : TThing) (salt : Int) (hpre : -9223372036854775808 ≤ x.Size ∧ x.Size ≤ 9223372036854775807) : PCo Try.prog 171 [encTThing x, dI salt] (Tab.of []) (dI (mHintOf x salt)) (Tab.of []) := by
  obtain ⟨x_Id, x_Kind, x_Colour, x_Size, x_Worth⟩ := x
  refine pco_of_run [] (E := ⟨[c250], []⟩) (m := false) (base := 0) (Env.ok_cons c250_ok Env.ok_nil) G_ok mix 300 6 Try.func171 (by kernel_rfl) rfl (by kernel_rfl) (by kernel_rfl) rfl ?_
  simp [Try.f171]
  simp at hpre
  have := tdiv10_bd x_Size
  exact ⟨by omega, rfl⟩
theorem c171_ok : c171.ok Try.prog := mkCon_ok fun ⟨x, salt⟩ hpre => c171_pc x salt hpre
end Go.Proofs.Ytmbgihklhmhilaa
