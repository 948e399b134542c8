/- Contracts of the functions that the laws run. -/
import Derived.Test.Ytljamnanhmpdnaach03
import Derived.Test.YtljamnanhmpdnaaEngB
namespace Go.Proofs.Ytljamnanhmpdnaa
open Go Go.Eng
set_option linter.unusedSimpArgs false
set_option linter.unusedVariables false
set_option maxRecDepth 10000
set_option maxHeartbeats 1000000
/-- loop.example/g03007/laws.toHand -/
noncomputable def c17 : Con := mkCon 17 false (α := THand) (fun x => (fun (a : THand) => [encTHand a]) x) (fun _ => []) (fun x => (fun (a : THand) => True) x) (fun x => (fun (a : THand) => (encTHand a : D)) x) (fun x => (fun (a : THand) => []) x)
@[simp] theorem c17_f : c17.f = 17 := rfl
@[simp] theorem c17_own : c17.own = false := rfl
theorem c17_inj : ∀ u_ v_ : THand, ((fun x => (fun (a : THand) => [encTHand a]) x) u_).map nz = ((fun x => (fun (a : THand) => [encTHand a]) x) v_).map nz → u_ = v_ := by
  intro u_ v_ h
  obtain ⟨a_Thing, a_Holder, a_Who, a_At, a_Seal⟩ := u_
  obtain ⟨a_Thing', a_Holder', a_Who', a_At', a_Seal'⟩ := v_
  simp [nz_lit, nz1_lit, nz_agg, nz_sl, nz1_sl, encTHand] at h
  first | (simp [h]; done) | (obtain ⟨⟩ := h; simp_all; done) | simp_all
@[simp] theorem c17_fn (a_Thing : Int) (a_Holder : Int) (a_Who : Int) (a_At : Int) (a_Seal : Int) : c17.fn [.agg [.lit (.int .i64 a_Thing), .lit (.int .i64 a_Holder), .lit (.int .i64 a_Who), .lit (.int .i64 a_At), .lit (.int .i64 a_Seal)]] [] = some ((fun (a : THand) => True) ⟨a_Thing, a_Holder, a_Who, a_At, a_Seal⟩, (fun (a : THand) => (encTHand a : D)) ⟨a_Thing, a_Holder, a_Who, a_At, a_Seal⟩, (fun (a : THand) => []) ⟨a_Thing, a_Holder, a_Who, a_At, a_Seal⟩) :=
  mkCon_fn (fun x y h _ => c17_inj x y h) (⟨a_Thing, a_Holder, a_Who, a_At, a_Seal⟩ : THand) (by simp [nz, nz1, ML_nil, encTHand]) rfl
theorem c17_pc (a : THand) : PCo Try.prog 17 [encTHand a] (Tab.of []) (encTHand a) (Tab.of []) := by
  obtain ⟨a_Thing, a_Holder, a_Who, a_At, a_Seal⟩ := a
  refine pco_of_run [] (E := ⟨[], []⟩) (m := false) (base := 0) Env.ok_nil G_ok mix 300 6 Try.func17 (by kernel_rfl) rfl (by kernel_rfl) (by kernel_rfl) rfl ?_
  simp [Try.f17]
  all_goals first | omega | (rw [Bool.eq_iff_iff]; simp; omega) | grind
theorem c17_ok : c17.ok Try.prog := mkCon_ok fun a hpre => c17_pc a
@[simp] theorem c59_five (a b c d e : Int) : c59.fn [.sl false 1 (.lit (.int .i64 0)) [dI a, dI b, dI c, dI d, dI e]] [] = some (5 ≤ 1099511627776, dI (mHash [a, b, c, d, e]), []) := c59_fn [a, b, c, d, e]
@[simp] theorem c60_five (a b c d e : Int) : c60.fn [.sl false 1 (.lit (.int .i64 0)) [dI a, dI b, dI c, dI d, dI e]] [] = some (5 ≤ 1099511627776, dI (mHash [a, b, c, d, e]), []) := c60_fn [a, b, c, d, e]
def mHandSeal (b : Int) (x : THand) : Int := mHash [b, x.Thing, x.Holder, x.Who, x.At]
/-- loop.example/g03007/spec.HandSeal -/
noncomputable def c16 : Con := mkCon 16 false (α := Int × THand) (fun x => (fun (b : Int) (x : THand) => [dI b, encTHand x]) x.1 x.2) (fun _ => []) (fun x => (fun (b : Int) (x : THand) => True) x.1 x.2) (fun x => (fun (b : Int) (x : THand) => (dI (mHandSeal b x) : D)) x.1 x.2) (fun x => (fun (b : Int) (x : THand) => []) x.1 x.2)
@[simp] theorem c16_f : c16.f = 16 := rfl
@[simp] theorem c16_own : c16.own = false := rfl
theorem c16_inj : ∀ u_ v_ : Int × THand, ((fun x => (fun (b : Int) (x : THand) => [dI b, encTHand x]) x.1 x.2) u_).map nz = ((fun x => (fun (b : Int) (x : THand) => [dI b, encTHand x]) x.1 x.2) v_).map nz → u_ = v_ := by
  intro u_ v_ h
  obtain ⟨b, ⟨x_Thing, x_Holder, x_Who, x_At, x_Seal⟩⟩ := u_
  obtain ⟨b', ⟨x_Thing', x_Holder', x_Who', x_At', x_Seal'⟩⟩ := v_
  simp [nz_lit, nz1_lit, nz_agg, nz_sl, nz1_sl, encTHand] at h
  first | (simp [h]; done) | (obtain ⟨⟩ := h; simp_all; done) | simp_all
@[simp] theorem c16_fn (b : Int) (x_Thing : Int) (x_Holder : Int) (x_Who : Int) (x_At : Int) (x_Seal : Int) : c16.fn [.lit (.int .i64 b), .agg [.lit (.int .i64 x_Thing), .lit (.int .i64 x_Holder), .lit (.int .i64 x_Who), .lit (.int .i64 x_At), .lit (.int .i64 x_Seal)]] [] = some ((fun (b : Int) (x : THand) => True) b ⟨x_Thing, x_Holder, x_Who, x_At, x_Seal⟩, (fun (b : Int) (x : THand) => (dI (mHandSeal b x) : D)) b ⟨x_Thing, x_Holder, x_Who, x_At, x_Seal⟩, (fun (b : Int) (x : THand) => []) b ⟨x_Thing, x_Holder, x_Who, x_At, x_Seal⟩) :=
  mkCon_fn (fun x y h _ => c16_inj x y h) ((b, ⟨x_Thing, x_Holder, x_Who, x_At, x_Seal⟩) : Int × THand) (by simp [nz, nz1, ML_nil, encTHand]) rfl
theorem c16_pc (b : Int) (x : THand) : PCo Try.prog 16 [dI b, encTHand x] (Tab.of []) (dI (mHandSeal b x)) (Tab.of []) := by
  obtain ⟨x_Thing, x_Holder, x_Who, x_At, x_Seal⟩ := x
  refine pco_of_run [] (E := ⟨[c59], []⟩) (m := false) (base := 0) (Env.ok_cons c59_ok Env.ok_nil) G_ok mix 300 6 Try.func16 (by kernel_rfl) rfl (by kernel_rfl) (by kernel_rfl) rfl ?_
  simp [Try.f16]
  rfl
theorem c16_ok : c16.ok Try.prog := mkCon_ok fun ⟨b, x⟩ hpre => c16_pc b x
/-- loop.example/g03007/impl.HandSeal -/
noncomputable def c18 : Con := mkCon 18 false (α := Int × THand) (fun x => (fun (b : Int) (x : THand) => [dI b, encTHand x]) x.1 x.2) (fun _ => []) (fun x => (fun (b : Int) (x : THand) => True) x.1 x.2) (fun x => (fun (b : Int) (x : THand) => (dI (mHandSeal b x) : D)) x.1 x.2) (fun x => (fun (b : Int) (x : THand) => []) x.1 x.2)
@[simp] theorem c18_f : c18.f = 18 := rfl
@[simp] theorem c18_own : c18.own = false := rfl
theorem c18_inj : ∀ u_ v_ : Int × THand, ((fun x => (fun (b : Int) (x : THand) => [dI b, encTHand x]) x.1 x.2) u_).map nz = ((fun x => (fun (b : Int) (x : THand) => [dI b, encTHand x]) x.1 x.2) v_).map nz → u_ = v_ := by
  intro u_ v_ h
  obtain ⟨b, ⟨x_Thing, x_Holder, x_Who, x_At, x_Seal⟩⟩ := u_
  obtain ⟨b', ⟨x_Thing', x_Holder', x_Who', x_At', x_Seal'⟩⟩ := v_
  simp [nz_lit, nz1_lit, nz_agg, nz_sl, nz1_sl, encTHand] at h
  first | (simp [h]; done) | (obtain ⟨⟩ := h; simp_all; done) | simp_all
@[simp] theorem c18_fn (b : Int) (x_Thing : Int) (x_Holder : Int) (x_Who : Int) (x_At : Int) (x_Seal : Int) : c18.fn [.lit (.int .i64 b), .agg [.lit (.int .i64 x_Thing), .lit (.int .i64 x_Holder), .lit (.int .i64 x_Who), .lit (.int .i64 x_At), .lit (.int .i64 x_Seal)]] [] = some ((fun (b : Int) (x : THand) => True) b ⟨x_Thing, x_Holder, x_Who, x_At, x_Seal⟩, (fun (b : Int) (x : THand) => (dI (mHandSeal b x) : D)) b ⟨x_Thing, x_Holder, x_Who, x_At, x_Seal⟩, (fun (b : Int) (x : THand) => []) b ⟨x_Thing, x_Holder, x_Who, x_At, x_Seal⟩) :=
  mkCon_fn (fun x y h _ => c18_inj x y h) ((b, ⟨x_Thing, x_Holder, x_Who, x_At, x_Seal⟩) : Int × THand) (by simp [nz, nz1, ML_nil, encTHand]) rfl
theorem c18_pc (b : Int) (x : THand) : PCo Try.prog 18 [dI b, encTHand x] (Tab.of []) (dI (mHandSeal b x)) (Tab.of []) := by
  obtain ⟨x_Thing, x_Holder, x_Who, x_At, x_Seal⟩ := x
  refine pco_of_run [] (E := ⟨[c60], []⟩) (m := false) (base := 0) (Env.ok_cons c60_ok Env.ok_nil) G_ok mix 300 6 Try.func18 (by kernel_rfl) rfl (by kernel_rfl) (by kernel_rfl) rfl ?_
  simp [Try.f18]
  rfl
theorem c18_ok : c18.ok Try.prog := mkCon_ok fun ⟨b, x⟩ hpre => c18_pc b x
/-- loop.example/g03007/laws.FnExactHandSeal -/
theorem law3 (b : Int) (wb : inR .i64 b) (x : THand) (wx : wfTHand x) : PCo Try.prog 3 [dI b, encTHand x] (Tab.of []) (dB true) (Tab.of []) := by
  obtain ⟨x_Thing, x_Holder, x_Who, x_At, x_Seal⟩ := x
  refine pco_of_run [] (E := ⟨[c16, c17, c18], []⟩) (m := false) (base := 0) (Env.ok_cons c16_ok (Env.ok_cons c17_ok (Env.ok_cons c18_ok Env.ok_nil))) G_ok mix 400 6 Try.func3 (by kernel_rfl) rfl (by kernel_rfl) (by kernel_rfl) rfl ?_
  simp [Try.f3]
  repeat' (first | omega | assumption | refine And.intro ?_ ?_ | intro _)
  all_goals first | omega | grind | (split at * <;> omega)
theorem law3_pc (D0 : D) (h0 : Sh G 9 3 D0) (D1 : D) (h1 : Sh G 9 23 D1) : PC Try.prog 3 [D0, D1] (dB true) [] := by
  obtain ⟨b, rfl, wb⟩ := sh3 (n := 8) h0
  obtain ⟨x, rfl, wx⟩ := sh23 (n := 7) h1
  exact law3 b wb x wx

end Go.Proofs.Ytljamnanhmpdnaa
