/- Contracts of the functions that the laws run. -/
import Derived.Test.Ytdbhfkbfajljpaadr0
import Derived.Test.YtdbhfkbfajljpaaEngB
namespace Go.Proofs.Ytdbhfkbfajljpaa
open Go Go.Eng
set_option linter.unusedSimpArgs false
set_option linter.unusedVariables false
set_option maxRecDepth 10000
set_option maxHeartbeats 1000000
/-- loop.example/g03007/laws.sameBytes -/
noncomputable def c10 : Con := mkCon 10 false (α := (List Int) × (List Int)) (fun x => (fun (a : List Int) (b : List Int) => [encLU a, encLU b]) x.1 x.2) (fun _ => []) (fun x => (fun (a : List Int) (b : List Int) => a.length ≤ 1099511627776 ∧ b.length ≤ 1099511627776) x.1 x.2) (fun x => (fun (a : List Int) (b : List Int) => (dB (decide (a = b)) : D)) x.1 x.2) (fun x => (fun (a : List Int) (b : List Int) => []) x.1 x.2)
@[simp] theorem c10_f : c10.f = 10 := rfl
@[simp] theorem c10_own : c10.own = false := rfl
theorem c10_inj : ∀ u_ v_ : (List Int) × (List Int), ((fun x => (fun (a : List Int) (b : List Int) => [encLU a, encLU b]) x.1 x.2) u_).map nz = ((fun x => (fun (a : List Int) (b : List Int) => [encLU a, encLU b]) x.1 x.2) v_).map nz → u_ = v_ := by
  intro u_ v_ h
  obtain ⟨a, b⟩ := u_
  obtain ⟨a', b'⟩ := v_
  simp [nz_lit, nz1_lit, nz_agg, nz_sl, nz1_sl, encLU] at h
  first | (simp [h]; done) | (obtain ⟨⟩ := h; simp_all; done) | simp_all
@[simp] theorem c10_fn (a : List Int) (b : List Int) : c10.fn [.sl false 1 (.lit (.int .u8 0)) (ML dU a), .sl false 1 (.lit (.int .u8 0)) (ML dU b)] [] = some ((fun (a : List Int) (b : List Int) => a.length ≤ 1099511627776 ∧ b.length ≤ 1099511627776) a b, (fun (a : List Int) (b : List Int) => (dB (decide (a = b)) : D)) a b, (fun (a : List Int) (b : List Int) => []) a b) :=
  mkCon_fn (fun x y h _ => c10_inj x y h) ((a, b) : (List Int) × (List Int)) (by simp [nz, nz1, ML_nil, encLU]) rfl
@[simp] theorem c10_fn1 (s_a : Nat) (z_a : D) (b : List Int) : c10.fn [.sl false s_a z_a [], .sl false 1 (.lit (.int .u8 0)) (ML dU b)] [] = some ((fun (a : List Int) (b : List Int) => a.length ≤ 1099511627776 ∧ b.length ≤ 1099511627776) [] b, (fun (a : List Int) (b : List Int) => (dB (decide (a = b)) : D)) [] b, (fun (a : List Int) (b : List Int) => []) [] b) :=
  mkCon_fn (fun x y h _ => c10_inj x y h) (([], b) : (List Int) × (List Int)) (by simp [nz, nz1, ML_nil, encLU]) rfl
@[simp] theorem c10_fn2 (a : List Int) (s_b : Nat) (z_b : D) : c10.fn [.sl false 1 (.lit (.int .u8 0)) (ML dU a), .sl false s_b z_b []] [] = some ((fun (a : List Int) (b : List Int) => a.length ≤ 1099511627776 ∧ b.length ≤ 1099511627776) a [], (fun (a : List Int) (b : List Int) => (dB (decide (a = b)) : D)) a [], (fun (a : List Int) (b : List Int) => []) a []) :=
  mkCon_fn (fun x y h _ => c10_inj x y h) ((a, []) : (List Int) × (List Int)) (by simp [nz, nz1, ML_nil, encLU]) rfl
@[simp] theorem c10_fn3 (s_a : Nat) (z_a : D) (s_b : Nat) (z_b : D) : c10.fn [.sl false s_a z_a [], .sl false s_b z_b []] [] = some ((fun (a : List Int) (b : List Int) => a.length ≤ 1099511627776 ∧ b.length ≤ 1099511627776) [] [], (fun (a : List Int) (b : List Int) => (dB (decide (a = b)) : D)) [] [], (fun (a : List Int) (b : List Int) => []) [] []) :=
  mkCon_fn (fun x y h _ => c10_inj x y h) (([], []) : (List Int) × (List Int)) (by simp [nz, nz1, ML_nil, encLU]) rfl
theorem c10_pc (a : List Int) (b : List Int) (hpre : a.length ≤ 1099511627776 ∧ b.length ≤ 1099511627776) : PCo Try.prog 10 [encLU a, encLU b] (Tab.of []) (dB (decide (a = b))) (Tab.of []) := by
  refine pco_of_run [] (E := ⟨[], [], []⟩) (m := false) (base := 0) Env.ok_nil G_ok mix 300 6 Try.func10 (by kernel_rfl) rfl (by kernel_rfl) (by kernel_rfl) rfl ?_
  simp [Try.f10]
  obtain ⟨pre1, pre2⟩ := hpre
  refine ⟨fun h => ?_, fun h => by intro e; subst e; exact absurd rfl h⟩
  refine loop_inv (fun p : Nat => p ≤ a.length ∧ a.take p = b.take p) (fun p => [(0, encLU a), (1, encLU b), (5, dI p)]) (fun _ => []) 1 (fun p => a.length - p) 0 100 (by simp) (by simp) (by simp) ?_
  intro p ⟨hp, hi⟩
  simp
  refine ⟨fun hlt => ⟨by omega, fun h2 => ⟨by omega, Again.mk (p + 1) ⟨by omega, take_eq_step hi (by omega) (by omega) h2⟩ (by simp) (by first | omega | (simp; omega))⟩, fun h2 => by intro e; subst e; exact absurd rfl h2⟩, fun hge => ?_⟩
  exact take_eq_full hi (by omega) (by omega)
theorem c10_ok : c10.ok Try.prog := mkCon_ok fun ⟨a, b⟩ hpre => c10_pc a b hpre
/-- loop.example/g03007/laws.big -/
noncomputable def c6 : Con := mkCon 6 false (α := (List Int)) (fun x => (fun (l : List Int) => [encLU l]) x) (fun _ => []) (fun x => (fun (l : List Int) => True) x) (fun x => (fun (l : List Int) => (dB (decide (1048576 < l.length)) : D)) x) (fun x => (fun (l : List Int) => []) x)
@[simp] theorem c6_f : c6.f = 6 := rfl
@[simp] theorem c6_own : c6.own = false := rfl
theorem c6_inj : ∀ u_ v_ : (List Int), ((fun x => (fun (l : List Int) => [encLU l]) x) u_).map nz = ((fun x => (fun (l : List Int) => [encLU l]) x) v_).map nz → u_ = v_ := by
  intro u_ v_ h
  obtain l := u_
  obtain l' := v_
  simp [nz_lit, nz1_lit, nz_agg, nz_sl, nz1_sl, encLU] at h
  first | (simp [h]; done) | (obtain ⟨⟩ := h; simp_all; done) | simp_all
@[simp] theorem c6_fn (l : List Int) : c6.fn [.sl false 1 (.lit (.int .u8 0)) (ML dU l)] [] = some ((fun (l : List Int) => True) l, (fun (l : List Int) => (dB (decide (1048576 < l.length)) : D)) l, (fun (l : List Int) => []) l) :=
  mkCon_fn (fun x y h _ => c6_inj x y h) (l : (List Int)) (by simp [nz, nz1, ML_nil, encLU]) rfl
@[simp] theorem c6_fn1 (s_l : Nat) (z_l : D) : c6.fn [.sl false s_l z_l []] [] = some ((fun (l : List Int) => True) [], (fun (l : List Int) => (dB (decide (1048576 < l.length)) : D)) [], (fun (l : List Int) => []) []) :=
  mkCon_fn (fun x y h _ => c6_inj x y h) ([] : (List Int)) (by simp [nz, nz1, ML_nil, encLU]) rfl
theorem c6_pc (l : List Int) : PCo Try.prog 6 [encLU l] (Tab.of []) (dB (decide (1048576 < l.length))) (Tab.of []) := by
  refine pco_of_run [] (E := ⟨[], [], []⟩) (m := false) (base := 0) Env.ok_nil G_ok mix 300 6 Try.func6 (by kernel_rfl) rfl (by kernel_rfl) (by kernel_rfl) rfl ?_
  simp [Try.f6]
  all_goals first | omega | (rw [Bool.eq_iff_iff]; simp; omega) | grind
theorem c6_ok : c6.ok Try.prog := mkCon_ok fun l hpre => c6_pc l

end Go.Proofs.Ytdbhfkbfajljpaa
