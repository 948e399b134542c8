/- Contracts of the functions that the laws run. -/
import Derived.Test.Ytadipfpojlceeaach04
import Derived.Test.Ytadipfpojlceeaach03
import Derived.Test.YtadipfpojlceeaaEngB
namespace Go.Proofs.Ytadipfpojlceeaa
open Go Go.Eng
set_option linter.unusedSimpArgs false
set_option linter.unusedVariables false
set_option maxRecDepth 10000
set_option maxHeartbeats 1000000
def mHintOf (x : TThing) (salt : Int) : Int := mHash [salt, x.Kind, x.Colour, x.Size.tdiv 10]
@[simp] theorem c114_four (a b c d : Int) : c114.fn [.sl false 1 (.lit (.int .i64 0)) [dI a, dI b, dI c, dI d]] [] = some (4 ≤ 1099511627776, dI (mHash [a, b, c, d]), []) := c114_fn [a, b, c, d]
@[simp] theorem c115_four (a b c d : Int) : c115.fn [.sl false 1 (.lit (.int .i64 0)) [dI a, dI b, dI c, dI d]] [] = some (4 ≤ 1099511627776, dI (mHash [a, b, c, d]), []) := c115_fn [a, b, c, d]
theorem tdiv10_bd (x : Int) : (0 ≤ x ∧ 0 ≤ x.tdiv 10 ∧ x.tdiv 10 ≤ x) ∨ (x < 0 ∧ x ≤ x.tdiv 10 ∧ x.tdiv 10 ≤ 0) := by
  by_cases h : 0 ≤ x
  · left
    have := tdiv_bd h (show (0 : Int) < 10 by omega)
    omega
  · right
    have h1 := tdiv_bd (x := -x) (b := 10) (by omega) (by omega)
    rw [Int.neg_tdiv] at h1
    omega
/-- loop.example/g03007/spec.HintOf -/
noncomputable def c29 : Con := mkCon 29 false (α := TThing × Int) (fun x => (fun (x : TThing) (salt : Int) => [encTThing x, dI salt]) x.1 x.2) (fun _ => []) (fun x => (fun (x : TThing) (salt : Int) => -9223372036854775808 ≤ x.Size ∧ x.Size ≤ 9223372036854775807) x.1 x.2) (fun x => (fun (x : TThing) (salt : Int) => (dI (mHintOf x salt) : D)) x.1 x.2) (fun x => (fun (x : TThing) (salt : Int) => []) x.1 x.2)
@[simp] theorem c29_f : c29.f = 29 := rfl
@[simp] theorem c29_own : c29.own = false := rfl
theorem c29_inj : ∀ u_ v_ : TThing × Int, ((fun x => (fun (x : TThing) (salt : Int) => [encTThing x, dI salt]) x.1 x.2) u_).map nz = ((fun x => (fun (x : TThing) (salt : Int) => [encTThing x, dI salt]) x.1 x.2) v_).map nz → u_ = v_ := by
  intro u_ v_ h
  obtain ⟨⟨x_Id, x_Kind, x_Colour, x_Size, x_Worth⟩, salt⟩ := u_
  obtain ⟨⟨x_Id', x_Kind', x_Colour', x_Size', x_Worth'⟩, salt'⟩ := v_
  simp [nz_lit, nz1_lit, nz_agg, nz_sl, nz1_sl, encTThing] at h
  first | (simp [h]; done) | (obtain ⟨⟩ := h; simp_all; done) | simp_all
@[simp] theorem c29_fn (x_Id : Int) (x_Kind : Int) (x_Colour : Int) (x_Size : Int) (x_Worth : Int) (salt : Int) : c29.fn [.agg [.lit (.int .i64 x_Id), .lit (.int .i64 x_Kind), .lit (.int .i64 x_Colour), .lit (.int .i64 x_Size), .lit (.int .i64 x_Worth)], .lit (.int .i64 salt)] [] = some ((fun (x : TThing) (salt : Int) => -9223372036854775808 ≤ x.Size ∧ x.Size ≤ 9223372036854775807) ⟨x_Id, x_Kind, x_Colour, x_Size, x_Worth⟩ salt, (fun (x : TThing) (salt : Int) => (dI (mHintOf x salt) : D)) ⟨x_Id, x_Kind, x_Colour, x_Size, x_Worth⟩ salt, (fun (x : TThing) (salt : Int) => []) ⟨x_Id, x_Kind, x_Colour, x_Size, x_Worth⟩ salt) :=
  mkCon_fn (fun x y h _ => c29_inj x y h) ((⟨x_Id, x_Kind, x_Colour, x_Size, x_Worth⟩, salt) : TThing × Int) (by simp [nz, nz1, ML_nil, encTThing]) rfl
theorem c29_pc (x : TThing) (salt : Int) (hpre : -9223372036854775808 ≤ x.Size ∧ x.Size ≤ 9223372036854775807) : PCo Try.prog 29 [encTThing x, dI salt] (Tab.of []) (dI (mHintOf x salt)) (Tab.of []) := by
  obtain ⟨x_Id, x_Kind, x_Colour, x_Size, x_Worth⟩ := x
  refine pco_of_run [] (E := ⟨[c114], []⟩) (m := false) (base := 0) (Env.ok_cons c114_ok Env.ok_nil) G_ok mix 300 6 Try.func29 (by kernel_rfl) rfl (by kernel_rfl) (by kernel_rfl) rfl ?_
  simp [Try.f29]
  simp at hpre
  have := tdiv10_bd x_Size
  exact ⟨by omega, rfl⟩
theorem c29_ok : c29.ok Try.prog := mkCon_ok fun ⟨x, salt⟩ hpre => c29_pc x salt hpre
/-- loop.example/g03007/impl.HintOf -/
noncomputable def c31 : Con := mkCon 31 false (α := TThing × Int) (fun x => (fun (x : TThing) (salt : Int) => [encTThing x, dI salt]) x.1 x.2) (fun _ => []) (fun x => (fun (x : TThing) (salt : Int) => -9223372036854775808 ≤ x.Size ∧ x.Size ≤ 9223372036854775807) x.1 x.2) (fun x => (fun (x : TThing) (salt : Int) => (dI (mHintOf x salt) : D)) x.1 x.2) (fun x => (fun (x : TThing) (salt : Int) => []) x.1 x.2)
@[simp] theorem c31_f : c31.f = 31 := rfl
@[simp] theorem c31_own : c31.own = false := rfl
theorem c31_inj : ∀ u_ v_ : TThing × Int, ((fun x => (fun (x : TThing) (salt : Int) => [encTThing x, dI salt]) x.1 x.2) u_).map nz = ((fun x => (fun (x : TThing) (salt : Int) => [encTThing x, dI salt]) x.1 x.2) v_).map nz → u_ = v_ := by
  intro u_ v_ h
  obtain ⟨⟨x_Id, x_Kind, x_Colour, x_Size, x_Worth⟩, salt⟩ := u_
  obtain ⟨⟨x_Id', x_Kind', x_Colour', x_Size', x_Worth'⟩, salt'⟩ := v_
  simp [nz_lit, nz1_lit, nz_agg, nz_sl, nz1_sl, encTThing] at h
  first | (simp [h]; done) | (obtain ⟨⟩ := h; simp_all; done) | simp_all
@[simp] theorem c31_fn (x_Id : Int) (x_Kind : Int) (x_Colour : Int) (x_Size : Int) (x_Worth : Int) (salt : Int) : c31.fn [.agg [.lit (.int .i64 x_Id), .lit (.int .i64 x_Kind), .lit (.int .i64 x_Colour), .lit (.int .i64 x_Size), .lit (.int .i64 x_Worth)], .lit (.int .i64 salt)] [] = some ((fun (x : TThing) (salt : Int) => -9223372036854775808 ≤ x.Size ∧ x.Size ≤ 9223372036854775807) ⟨x_Id, x_Kind, x_Colour, x_Size, x_Worth⟩ salt, (fun (x : TThing) (salt : Int) => (dI (mHintOf x salt) : D)) ⟨x_Id, x_Kind, x_Colour, x_Size, x_Worth⟩ salt, (fun (x : TThing) (salt : Int) => []) ⟨x_Id, x_Kind, x_Colour, x_Size, x_Worth⟩ salt) :=
  mkCon_fn (fun x y h _ => c31_inj x y h) ((⟨x_Id, x_Kind, x_Colour, x_Size, x_Worth⟩, salt) : TThing × Int) (by simp [nz, nz1, ML_nil, encTThing]) rfl
theorem c31_pc (x : TThing) (salt : Int) (hpre : -9223372036854775808 ≤ x.Size ∧ x.Size ≤ 9223372036854775807) : PCo Try.prog 31 [encTThing x, dI salt] (Tab.of []) (dI (mHintOf x salt)) (Tab.of []) := by
  obtain ⟨x_Id, x_Kind, x_Colour, x_Size, x_Worth⟩ := x
  refine pco_of_run [] (E := ⟨[c115], []⟩) (m := false) (base := 0) (Env.ok_cons c115_ok Env.ok_nil) G_ok mix 300 6 Try.func31 (by kernel_rfl) rfl (by kernel_rfl) (by kernel_rfl) rfl ?_
  simp [Try.f31]
  simp at hpre
  have := tdiv10_bd x_Size
  exact ⟨by omega, rfl⟩
theorem c31_ok : c31.ok Try.prog := mkCon_ok fun ⟨x, salt⟩ hpre => c31_pc x salt hpre
/-- loop.example/g03007/laws.FnExactHintOf -/
theorem law3 (x : TThing) (wx : wfTThing x) (salt : Int) (wsalt : inR .i64 salt) : PCo Try.prog 3 [encTThing x, dI salt] (Tab.of []) (dB true) (Tab.of []) := by
  obtain ⟨x_Id, x_Kind, x_Colour, x_Size, x_Worth⟩ := x
  refine pco_of_run [] (E := ⟨[c29, c30, c31], []⟩) (m := false) (base := 0) (Env.ok_cons c29_ok (Env.ok_cons c30_ok (Env.ok_cons c31_ok Env.ok_nil))) G_ok mix 400 6 Try.func3 (by kernel_rfl) rfl (by kernel_rfl) (by kernel_rfl) rfl ?_
  simp [Try.f3]
  have h := wx.2.2.2.1
  simp [inR] at h
  omega
theorem law3_pc (D0 : D) (h0 : Sh G 9 23 D0) (D1 : D) (h1 : Sh G 9 3 D1) : PC Try.prog 3 [D0, D1] (dB true) [] := by
  obtain ⟨x, rfl, wx⟩ := sh23 (n := 7) h0
  obtain ⟨salt, rfl, wsalt⟩ := sh3 (n := 8) h1
  exact law3 x wx salt wsalt

end Go.Proofs.Ytadipfpojlceeaa
