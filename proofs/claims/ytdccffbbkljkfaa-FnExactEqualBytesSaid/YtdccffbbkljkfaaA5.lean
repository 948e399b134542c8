/- Contracts of the functions that the laws run. -/
import Derived.Test.YtdccffbbkljkfaaAH
namespace Go.Proofs.Ytdccffbbkljkfaa
open Go Go.Eng
set_option linter.unusedSimpArgs false
set_option linter.unusedVariables false
set_option maxRecDepth 10000
/-- loop.example/g03007/spec.EqualInts -/
noncomputable def c83 : Con := mkCon 83 false (α := (List Int) × (List Int)) (fun x => (fun (a : List Int) (b : List Int) => [encLI a, encLI b]) x.1 x.2) (fun _ => []) (fun x => (fun (a : List Int) (b : List Int) => a.length ≤ 1099511627776 ∧ b.length ≤ 1099511627776) x.1 x.2) (fun x => (fun (a : List Int) (b : List Int) => (dB (decide (a = b)) : D)) x.1 x.2) (fun x => (fun (a : List Int) (b : List Int) => []) x.1 x.2)
@[simp] theorem c83_f : c83.f = 83 := rfl
@[simp] theorem c83_own : c83.own = false := rfl
theorem c83_inj : ∀ u_ v_ : (List Int) × (List Int), ((fun x => (fun (a : List Int) (b : List Int) => [encLI a, encLI b]) x.1 x.2) u_).map nz = ((fun x => (fun (a : List Int) (b : List Int) => [encLI a, encLI b]) x.1 x.2) v_).map nz → u_ = v_ := by
  intro u_ v_ h
  obtain ⟨a, b⟩ := u_
  obtain ⟨a', b'⟩ := v_
  simp [nz_lit, nz1_lit, nz_agg, nz_sl, nz1_sl, encLI] at h
  first | (simp [h]; done) | (obtain ⟨⟩ := h; simp_all; done) | simp_all
@[simp] theorem c83_fn (a : List Int) (b : List Int) : c83.fn [.sl false 1 (.lit (.int .i64 0)) (ML dI a), .sl false 1 (.lit (.int .i64 0)) (ML dI b)] [] = some ((fun (a : List Int) (b : List Int) => a.length ≤ 1099511627776 ∧ b.length ≤ 1099511627776) a b, (fun (a : List Int) (b : List Int) => (dB (decide (a = b)) : D)) a b, (fun (a : List Int) (b : List Int) => []) a b) :=
  mkCon_fn (fun x y h _ => c83_inj x y h) ((a, b) : (List Int) × (List Int)) (by simp [nz, nz1, ML_nil, encLI]) rfl
@[simp] theorem c83_fn1 (s_a : Nat) (z_a : D) (b : List Int) : c83.fn [.sl false s_a z_a [], .sl false 1 (.lit (.int .i64 0)) (ML dI b)] [] = some ((fun (a : List Int) (b : List Int) => a.length ≤ 1099511627776 ∧ b.length ≤ 1099511627776) [] b, (fun (a : List Int) (b : List Int) => (dB (decide (a = b)) : D)) [] b, (fun (a : List Int) (b : List Int) => []) [] b) :=
  mkCon_fn (fun x y h _ => c83_inj x y h) (([], b) : (List Int) × (List Int)) (by simp [nz, nz1, ML_nil, encLI]) rfl
@[simp] theorem c83_fn2 (a : List Int) (s_b : Nat) (z_b : D) : c83.fn [.sl false 1 (.lit (.int .i64 0)) (ML dI a), .sl false s_b z_b []] [] = some ((fun (a : List Int) (b : List Int) => a.length ≤ 1099511627776 ∧ b.length ≤ 1099511627776) a [], (fun (a : List Int) (b : List Int) => (dB (decide (a = b)) : D)) a [], (fun (a : List Int) (b : List Int) => []) a []) :=
  mkCon_fn (fun x y h _ => c83_inj x y h) ((a, []) : (List Int) × (List Int)) (by simp [nz, nz1, ML_nil, encLI]) rfl
@[simp] theorem c83_fn3 (s_a : Nat) (z_a : D) (s_b : Nat) (z_b : D) : c83.fn [.sl false s_a z_a [], .sl false s_b z_b []] [] = some ((fun (a : List Int) (b : List Int) => a.length ≤ 1099511627776 ∧ b.length ≤ 1099511627776) [] [], (fun (a : List Int) (b : List Int) => (dB (decide (a = b)) : D)) [] [], (fun (a : List Int) (b : List Int) => []) [] []) :=
  mkCon_fn (fun x y h _ => c83_inj x y h) (([], []) : (List Int) × (List Int)) (by simp [nz, nz1, ML_nil, encLI]) rfl
theorem c83_pc (a : List Int) (b : List Int) (hpre : a.length ≤ 1099511627776 ∧ b.length ≤ 1099511627776) : PCo Try.prog 83 [encLI a, encLI b] (Tab.of []) (dB (decide (a = b))) (Tab.of []) := by
  refine pco_of_run [] (E := ⟨[], []⟩) (m := false) (base := 0) Env.ok_nil G_ok mix 300 6 Try.func83 (by kernel_rfl) rfl (by kernel_rfl) (by kernel_rfl) rfl ?_
  simp [Try.f83]
  obtain ⟨pre1, pre2⟩ := hpre
  refine ⟨fun h => ?_, fun h => by intro e; subst e; exact absurd rfl h⟩
  refine loop_inv (fun p : Nat => p ≤ a.length ∧ a.take p = b.take p) (fun p => [(0, encLI a), (1, encLI b), (5, dI p)]) (fun _ => []) 1 (fun p => a.length - p) 0 100 (by simp) (by simp) (by simp) ?_
  intro p ⟨hp, hi⟩
  simp
  refine ⟨fun hlt => ⟨by omega, fun h2 => ⟨by omega, Again.mk (p + 1) ⟨by omega, take_eq_step hi (by omega) (by omega) h2⟩ (by simp) (by first | omega | (simp; omega))⟩, fun h2 => by intro e; subst e; exact absurd rfl h2⟩, fun hge => ?_⟩
  exact take_eq_full hi (by omega) (by omega)
theorem c83_ok : c83.ok Try.prog := mkCon_ok fun ⟨a, b⟩ hpre => c83_pc a b hpre
/-- slices.Equal[[]in -/
noncomputable def c125 : Con := mkCon 125 false (α := (List Int) × (List Int)) (fun x => (fun (a : List Int) (b : List Int) => [encLI a, encLI b]) x.1 x.2) (fun _ => []) (fun x => (fun (a : List Int) (b : List Int) => a.length ≤ 1099511627776 ∧ b.length ≤ 1099511627776) x.1 x.2) (fun x => (fun (a : List Int) (b : List Int) => (dB (decide (a = b)) : D)) x.1 x.2) (fun x => (fun (a : List Int) (b : List Int) => []) x.1 x.2)
@[simp] theorem c125_f : c125.f = 125 := rfl
@[simp] theorem c125_own : c125.own = false := rfl
theorem c125_inj : ∀ u_ v_ : (List Int) × (List Int), ((fun x => (fun (a : List Int) (b : List Int) => [encLI a, encLI b]) x.1 x.2) u_).map nz = ((fun x => (fun (a : List Int) (b : List Int) => [encLI a, encLI b]) x.1 x.2) v_).map nz → u_ = v_ := by
  intro u_ v_ h
  obtain ⟨a, b⟩ := u_
  obtain ⟨a', b'⟩ := v_
  simp [nz_lit, nz1_lit, nz_agg, nz_sl, nz1_sl, encLI] at h
  first | (simp [h]; done) | (obtain ⟨⟩ := h; simp_all; done) | simp_all
@[simp] theorem c125_fn (a : List Int) (b : List Int) : c125.fn [.sl false 1 (.lit (.int .i64 0)) (ML dI a), .sl false 1 (.lit (.int .i64 0)) (ML dI b)] [] = some ((fun (a : List Int) (b : List Int) => a.length ≤ 1099511627776 ∧ b.length ≤ 1099511627776) a b, (fun (a : List Int) (b : List Int) => (dB (decide (a = b)) : D)) a b, (fun (a : List Int) (b : List Int) => []) a b) :=
  mkCon_fn (fun x y h _ => c125_inj x y h) ((a, b) : (List Int) × (List Int)) (by simp [nz, nz1, ML_nil, encLI]) rfl
@[simp] theorem c125_fn1 (s_a : Nat) (z_a : D) (b : List Int) : c125.fn [.sl false s_a z_a [], .sl false 1 (.lit (.int .i64 0)) (ML dI b)] [] = some ((fun (a : List Int) (b : List Int) => a.length ≤ 1099511627776 ∧ b.length ≤ 1099511627776) [] b, (fun (a : List Int) (b : List Int) => (dB (decide (a = b)) : D)) [] b, (fun (a : List Int) (b : List Int) => []) [] b) :=
  mkCon_fn (fun x y h _ => c125_inj x y h) (([], b) : (List Int) × (List Int)) (by simp [nz, nz1, ML_nil, encLI]) rfl
@[simp] theorem c125_fn2 (a : List Int) (s_b : Nat) (z_b : D) : c125.fn [.sl false 1 (.lit (.int .i64 0)) (ML dI a), .sl false s_b z_b []] [] = some ((fun (a : List Int) (b : List Int) => a.length ≤ 1099511627776 ∧ b.length ≤ 1099511627776) a [], (fun (a : List Int) (b : List Int) => (dB (decide (a = b)) : D)) a [], (fun (a : List Int) (b : List Int) => []) a []) :=
  mkCon_fn (fun x y h _ => c125_inj x y h) ((a, []) : (List Int) × (List Int)) (by simp [nz, nz1, ML_nil, encLI]) rfl
@[simp] theorem c125_fn3 (s_a : Nat) (z_a : D) (s_b : Nat) (z_b : D) : c125.fn [.sl false s_a z_a [], .sl false s_b z_b []] [] = some ((fun (a : List Int) (b : List Int) => a.length ≤ 1099511627776 ∧ b.length ≤ 1099511627776) [] [], (fun (a : List Int) (b : List Int) => (dB (decide (a = b)) : D)) [] [], (fun (a : List Int) (b : List Int) => []) [] []) :=
  mkCon_fn (fun x y h _ => c125_inj x y h) (([], []) : (List Int) × (List Int)) (by simp [nz, nz1, ML_nil, encLI]) rfl
theorem c125_pc (a : List Int) (b : List Int) (hpre : a.length ≤ 1099511627776 ∧ b.length ≤ 1099511627776) : PCo Try.prog 125 [encLI a, encLI b] (Tab.of []) (dB (decide (a = b))) (Tab.of []) := by
  refine pco_of_run [] (E := ⟨[], []⟩) (m := false) (base := 0) Env.ok_nil G_ok mix 300 6 Try.func125 (by kernel_rfl) rfl (by kernel_rfl) (by kernel_rfl) rfl ?_
  simp [Try.f125]
  obtain ⟨pre1, pre2⟩ := hpre
  refine ⟨fun h => ?_, fun h => by intro e; subst e; exact absurd rfl h⟩
  refine loop_inv (fun p : Nat => p ≤ a.length ∧ a.take p = b.take p) (fun p => [(0, encLI a), (1, encLI b), (12, dI a.length), (13, dI p)]) (fun _ => []) 1 (fun p => a.length - p) 0 100 (by simp) (by simp) (by simp) ?_
  intro p ⟨hp, hi⟩
  simp
  refine ⟨fun hlt => ⟨by omega, fun h2 => ⟨by omega, Again.mk (p + 1) ⟨by omega, take_eq_step hi (by omega) (by omega) h2⟩ (by simp) (by first | omega | (simp; omega))⟩, fun h2 => by intro e; subst e; exact absurd rfl h2⟩, fun hge => ?_⟩
  exact take_eq_full hi (by omega) (by omega)
theorem c125_ok : c125.ok Try.prog := mkCon_ok fun ⟨a, b⟩ hpre => c125_pc a b hpre
/-- loop.example/g03007/impl.EqualInts -/
noncomputable def c84 : Con := mkCon 84 false (α := (List Int) × (List Int)) (fun x => (fun (a : List Int) (b : List Int) => [encLI a, encLI b]) x.1 x.2) (fun _ => []) (fun x => (fun (a : List Int) (b : List Int) => a.length ≤ 1099511627776 ∧ b.length ≤ 1099511627776) x.1 x.2) (fun x => (fun (a : List Int) (b : List Int) => (dB (decide (a = b)) : D)) x.1 x.2) (fun x => (fun (a : List Int) (b : List Int) => []) x.1 x.2)
@[simp] theorem c84_f : c84.f = 84 := rfl
@[simp] theorem c84_own : c84.own = false := rfl
theorem c84_inj : ∀ u_ v_ : (List Int) × (List Int), ((fun x => (fun (a : List Int) (b : List Int) => [encLI a, encLI b]) x.1 x.2) u_).map nz = ((fun x => (fun (a : List Int) (b : List Int) => [encLI a, encLI b]) x.1 x.2) v_).map nz → u_ = v_ := by
  intro u_ v_ h
  obtain ⟨a, b⟩ := u_
  obtain ⟨a', b'⟩ := v_
  simp [nz_lit, nz1_lit, nz_agg, nz_sl, nz1_sl, encLI] at h
  first | (simp [h]; done) | (obtain ⟨⟩ := h; simp_all; done) | simp_all
@[simp] theorem c84_fn (a : List Int) (b : List Int) : c84.fn [.sl false 1 (.lit (.int .i64 0)) (ML dI a), .sl false 1 (.lit (.int .i64 0)) (ML dI b)] [] = some ((fun (a : List Int) (b : List Int) => a.length ≤ 1099511627776 ∧ b.length ≤ 1099511627776) a b, (fun (a : List Int) (b : List Int) => (dB (decide (a = b)) : D)) a b, (fun (a : List Int) (b : List Int) => []) a b) :=
  mkCon_fn (fun x y h _ => c84_inj x y h) ((a, b) : (List Int) × (List Int)) (by simp [nz, nz1, ML_nil, encLI]) rfl
@[simp] theorem c84_fn1 (s_a : Nat) (z_a : D) (b : List Int) : c84.fn [.sl false s_a z_a [], .sl false 1 (.lit (.int .i64 0)) (ML dI b)] [] = some ((fun (a : List Int) (b : List Int) => a.length ≤ 1099511627776 ∧ b.length ≤ 1099511627776) [] b, (fun (a : List Int) (b : List Int) => (dB (decide (a = b)) : D)) [] b, (fun (a : List Int) (b : List Int) => []) [] b) :=
  mkCon_fn (fun x y h _ => c84_inj x y h) (([], b) : (List Int) × (List Int)) (by simp [nz, nz1, ML_nil, encLI]) rfl
@[simp] theorem c84_fn2 (a : List Int) (s_b : Nat) (z_b : D) : c84.fn [.sl false 1 (.lit (.int .i64 0)) (ML dI a), .sl false s_b z_b []] [] = some ((fun (a : List Int) (b : List Int) => a.length ≤ 1099511627776 ∧ b.length ≤ 1099511627776) a [], (fun (a : List Int) (b : List Int) => (dB (decide (a = b)) : D)) a [], (fun (a : List Int) (b : List Int) => []) a []) :=
  mkCon_fn (fun x y h _ => c84_inj x y h) ((a, []) : (List Int) × (List Int)) (by simp [nz, nz1, ML_nil, encLI]) rfl
@[simp] theorem c84_fn3 (s_a : Nat) (z_a : D) (s_b : Nat) (z_b : D) : c84.fn [.sl false s_a z_a [], .sl false s_b z_b []] [] = some ((fun (a : List Int) (b : List Int) => a.length ≤ 1099511627776 ∧ b.length ≤ 1099511627776) [] [], (fun (a : List Int) (b : List Int) => (dB (decide (a = b)) : D)) [] [], (fun (a : List Int) (b : List Int) => []) [] []) :=
  mkCon_fn (fun x y h _ => c84_inj x y h) (([], []) : (List Int) × (List Int)) (by simp [nz, nz1, ML_nil, encLI]) rfl
theorem c84_pc (a : List Int) (b : List Int) (hpre : a.length ≤ 1099511627776 ∧ b.length ≤ 1099511627776) : PCo Try.prog 84 [encLI a, encLI b] (Tab.of []) (dB (decide (a = b))) (Tab.of []) := by
  refine pco_of_run [] (E := ⟨[c125], []⟩) (m := false) (base := 0) (Env.ok_cons c125_ok Env.ok_nil) G_ok mix 300 6 Try.func84 (by kernel_rfl) rfl (by kernel_rfl) (by kernel_rfl) rfl ?_
  simp [Try.f84]
  exact hpre
theorem c84_ok : c84.ok Try.prog := mkCon_ok fun ⟨a, b⟩ hpre => c84_pc a b hpre
def mEqB (a b : List Int) : Bool := a.map (fun n => UInt8.ofNat n.toNat) == b.map (fun n => UInt8.ofNat n.toNat)
/-- loop.example/g03007/spec.EqualBytes -/
noncomputable def c67 : Con := mkCon 67 false (α := (List Int) × (List Int)) (fun x => (fun (a : List Int) (b : List Int) => [encLU a, encLU b]) x.1 x.2) (fun _ => []) (fun x => (fun (a : List Int) (b : List Int) => True) x.1 x.2) (fun x => (fun (a : List Int) (b : List Int) => (dB (mEqB a b) : D)) x.1 x.2) (fun x => (fun (a : List Int) (b : List Int) => []) x.1 x.2)
@[simp] theorem c67_f : c67.f = 67 := rfl
@[simp] theorem c67_own : c67.own = false := rfl
theorem c67_inj : ∀ u_ v_ : (List Int) × (List Int), ((fun x => (fun (a : List Int) (b : List Int) => [encLU a, encLU b]) x.1 x.2) u_).map nz = ((fun x => (fun (a : List Int) (b : List Int) => [encLU a, encLU b]) x.1 x.2) v_).map nz → u_ = v_ := by
  intro u_ v_ h
  obtain ⟨a, b⟩ := u_
  obtain ⟨a', b'⟩ := v_
  simp [nz_lit, nz1_lit, nz_agg, nz_sl, nz1_sl, encLU] at h
  first | (simp [h]; done) | (obtain ⟨⟩ := h; simp_all; done) | simp_all
@[simp] theorem c67_fn (a : List Int) (b : List Int) : c67.fn [.sl false 1 (.lit (.int .u8 0)) (ML dU a), .sl false 1 (.lit (.int .u8 0)) (ML dU b)] [] = some ((fun (a : List Int) (b : List Int) => True) a b, (fun (a : List Int) (b : List Int) => (dB (mEqB a b) : D)) a b, (fun (a : List Int) (b : List Int) => []) a b) :=
  mkCon_fn (fun x y h _ => c67_inj x y h) ((a, b) : (List Int) × (List Int)) (by simp [nz, nz1, ML_nil, encLU]) rfl
@[simp] theorem c67_fn1 (s_a : Nat) (z_a : D) (b : List Int) : c67.fn [.sl false s_a z_a [], .sl false 1 (.lit (.int .u8 0)) (ML dU b)] [] = some ((fun (a : List Int) (b : List Int) => True) [] b, (fun (a : List Int) (b : List Int) => (dB (mEqB a b) : D)) [] b, (fun (a : List Int) (b : List Int) => []) [] b) :=
  mkCon_fn (fun x y h _ => c67_inj x y h) (([], b) : (List Int) × (List Int)) (by simp [nz, nz1, ML_nil, encLU]) rfl
@[simp] theorem c67_fn2 (a : List Int) (s_b : Nat) (z_b : D) : c67.fn [.sl false 1 (.lit (.int .u8 0)) (ML dU a), .sl false s_b z_b []] [] = some ((fun (a : List Int) (b : List Int) => True) a [], (fun (a : List Int) (b : List Int) => (dB (mEqB a b) : D)) a [], (fun (a : List Int) (b : List Int) => []) a []) :=
  mkCon_fn (fun x y h _ => c67_inj x y h) ((a, []) : (List Int) × (List Int)) (by simp [nz, nz1, ML_nil, encLU]) rfl
@[simp] theorem c67_fn3 (s_a : Nat) (z_a : D) (s_b : Nat) (z_b : D) : c67.fn [.sl false s_a z_a [], .sl false s_b z_b []] [] = some ((fun (a : List Int) (b : List Int) => True) [] [], (fun (a : List Int) (b : List Int) => (dB (mEqB a b) : D)) [] [], (fun (a : List Int) (b : List Int) => []) [] []) :=
  mkCon_fn (fun x y h _ => c67_inj x y h) (([], []) : (List Int) × (List Int)) (by simp [nz, nz1, ML_nil, encLU]) rfl
theorem c67_pc (a : List Int) (b : List Int) : PCo Try.prog 67 [encLU a, encLU b] (Tab.of []) (dB (mEqB a b)) (Tab.of []) := by
  refine pco_of_run [] (E := ⟨[], []⟩) (m := false) (base := 0) Env.ok_nil G_ok mix 300 6 Try.func67 (by kernel_rfl) rfl (by kernel_rfl) (by kernel_rfl) rfl ?_
  simp [Try.f67]
  rfl
theorem c67_ok : c67.ok Try.prog := mkCon_ok fun ⟨a, b⟩ hpre => c67_pc a b
/-- bytes.Equal -/
noncomputable def c120 : Con := mkCon 120 false (α := (List Int) × (List Int)) (fun x => (fun (a : List Int) (b : List Int) => [encLU a, encLU b]) x.1 x.2) (fun _ => []) (fun x => (fun (a : List Int) (b : List Int) => True) x.1 x.2) (fun x => (fun (a : List Int) (b : List Int) => (dB (mEqB a b) : D)) x.1 x.2) (fun x => (fun (a : List Int) (b : List Int) => []) x.1 x.2)
@[simp] theorem c120_f : c120.f = 120 := rfl
@[simp] theorem c120_own : c120.own = false := rfl
theorem c120_inj : ∀ u_ v_ : (List Int) × (List Int), ((fun x => (fun (a : List Int) (b : List Int) => [encLU a, encLU b]) x.1 x.2) u_).map nz = ((fun x => (fun (a : List Int) (b : List Int) => [encLU a, encLU b]) x.1 x.2) v_).map nz → u_ = v_ := by
  intro u_ v_ h
  obtain ⟨a, b⟩ := u_
  obtain ⟨a', b'⟩ := v_
  simp [nz_lit, nz1_lit, nz_agg, nz_sl, nz1_sl, encLU] at h
  first | (simp [h]; done) | (obtain ⟨⟩ := h; simp_all; done) | simp_all
@[simp] theorem c120_fn (a : List Int) (b : List Int) : c120.fn [.sl false 1 (.lit (.int .u8 0)) (ML dU a), .sl false 1 (.lit (.int .u8 0)) (ML dU b)] [] = some ((fun (a : List Int) (b : List Int) => True) a b, (fun (a : List Int) (b : List Int) => (dB (mEqB a b) : D)) a b, (fun (a : List Int) (b : List Int) => []) a b) :=
  mkCon_fn (fun x y h _ => c120_inj x y h) ((a, b) : (List Int) × (List Int)) (by simp [nz, nz1, ML_nil, encLU]) rfl
@[simp] theorem c120_fn1 (s_a : Nat) (z_a : D) (b : List Int) : c120.fn [.sl false s_a z_a [], .sl false 1 (.lit (.int .u8 0)) (ML dU b)] [] = some ((fun (a : List Int) (b : List Int) => True) [] b, (fun (a : List Int) (b : List Int) => (dB (mEqB a b) : D)) [] b, (fun (a : List Int) (b : List Int) => []) [] b) :=
  mkCon_fn (fun x y h _ => c120_inj x y h) (([], b) : (List Int) × (List Int)) (by simp [nz, nz1, ML_nil, encLU]) rfl
@[simp] theorem c120_fn2 (a : List Int) (s_b : Nat) (z_b : D) : c120.fn [.sl false 1 (.lit (.int .u8 0)) (ML dU a), .sl false s_b z_b []] [] = some ((fun (a : List Int) (b : List Int) => True) a [], (fun (a : List Int) (b : List Int) => (dB (mEqB a b) : D)) a [], (fun (a : List Int) (b : List Int) => []) a []) :=
  mkCon_fn (fun x y h _ => c120_inj x y h) ((a, []) : (List Int) × (List Int)) (by simp [nz, nz1, ML_nil, encLU]) rfl
@[simp] theorem c120_fn3 (s_a : Nat) (z_a : D) (s_b : Nat) (z_b : D) : c120.fn [.sl false s_a z_a [], .sl false s_b z_b []] [] = some ((fun (a : List Int) (b : List Int) => True) [] [], (fun (a : List Int) (b : List Int) => (dB (mEqB a b) : D)) [] [], (fun (a : List Int) (b : List Int) => []) [] []) :=
  mkCon_fn (fun x y h _ => c120_inj x y h) (([], []) : (List Int) × (List Int)) (by simp [nz, nz1, ML_nil, encLU]) rfl
theorem c120_pc (a : List Int) (b : List Int) : PCo Try.prog 120 [encLU a, encLU b] (Tab.of []) (dB (mEqB a b)) (Tab.of []) := by
  refine pco_of_run [] (E := ⟨[], []⟩) (m := false) (base := 0) Env.ok_nil G_ok mix 300 6 Try.func120 (by kernel_rfl) rfl (by kernel_rfl) (by kernel_rfl) rfl ?_
  simp [Try.f120]
  rfl
theorem c120_ok : c120.ok Try.prog := mkCon_ok fun ⟨a, b⟩ hpre => c120_pc a b
/-- loop.example/g03007/impl.EqualBytes -/
noncomputable def c68 : Con := mkCon 68 false (α := (List Int) × (List Int)) (fun x => (fun (a : List Int) (b : List Int) => [encLU a, encLU b]) x.1 x.2) (fun _ => []) (fun x => (fun (a : List Int) (b : List Int) => True) x.1 x.2) (fun x => (fun (a : List Int) (b : List Int) => (dB (mEqB a b) : D)) x.1 x.2) (fun x => (fun (a : List Int) (b : List Int) => []) x.1 x.2)
@[simp] theorem c68_f : c68.f = 68 := rfl
@[simp] theorem c68_own : c68.own = false := rfl
theorem c68_inj : ∀ u_ v_ : (List Int) × (List Int), ((fun x => (fun (a : List Int) (b : List Int) => [encLU a, encLU b]) x.1 x.2) u_).map nz = ((fun x => (fun (a : List Int) (b : List Int) => [encLU a, encLU b]) x.1 x.2) v_).map nz → u_ = v_ := by
  intro u_ v_ h
  obtain ⟨a, b⟩ := u_
  obtain ⟨a', b'⟩ := v_
  simp [nz_lit, nz1_lit, nz_agg, nz_sl, nz1_sl, encLU] at h
  first | (simp [h]; done) | (obtain ⟨⟩ := h; simp_all; done) | simp_all
@[simp] theorem c68_fn (a : List Int) (b : List Int) : c68.fn [.sl false 1 (.lit (.int .u8 0)) (ML dU a), .sl false 1 (.lit (.int .u8 0)) (ML dU b)] [] = some ((fun (a : List Int) (b : List Int) => True) a b, (fun (a : List Int) (b : List Int) => (dB (mEqB a b) : D)) a b, (fun (a : List Int) (b : List Int) => []) a b) :=
  mkCon_fn (fun x y h _ => c68_inj x y h) ((a, b) : (List Int) × (List Int)) (by simp [nz, nz1, ML_nil, encLU]) rfl
@[simp] theorem c68_fn1 (s_a : Nat) (z_a : D) (b : List Int) : c68.fn [.sl false s_a z_a [], .sl false 1 (.lit (.int .u8 0)) (ML dU b)] [] = some ((fun (a : List Int) (b : List Int) => True) [] b, (fun (a : List Int) (b : List Int) => (dB (mEqB a b) : D)) [] b, (fun (a : List Int) (b : List Int) => []) [] b) :=
  mkCon_fn (fun x y h _ => c68_inj x y h) (([], b) : (List Int) × (List Int)) (by simp [nz, nz1, ML_nil, encLU]) rfl
@[simp] theorem c68_fn2 (a : List Int) (s_b : Nat) (z_b : D) : c68.fn [.sl false 1 (.lit (.int .u8 0)) (ML dU a), .sl false s_b z_b []] [] = some ((fun (a : List Int) (b : List Int) => True) a [], (fun (a : List Int) (b : List Int) => (dB (mEqB a b) : D)) a [], (fun (a : List Int) (b : List Int) => []) a []) :=
  mkCon_fn (fun x y h _ => c68_inj x y h) ((a, []) : (List Int) × (List Int)) (by simp [nz, nz1, ML_nil, encLU]) rfl
@[simp] theorem c68_fn3 (s_a : Nat) (z_a : D) (s_b : Nat) (z_b : D) : c68.fn [.sl false s_a z_a [], .sl false s_b z_b []] [] = some ((fun (a : List Int) (b : List Int) => True) [] [], (fun (a : List Int) (b : List Int) => (dB (mEqB a b) : D)) [] [], (fun (a : List Int) (b : List Int) => []) [] []) :=
  mkCon_fn (fun x y h _ => c68_inj x y h) (([], []) : (List Int) × (List Int)) (by simp [nz, nz1, ML_nil, encLU]) rfl
theorem c68_pc (a : List Int) (b : List Int) : PCo Try.prog 68 [encLU a, encLU b] (Tab.of []) (dB (mEqB a b)) (Tab.of []) := by
  refine pco_of_run [] (E := ⟨[c120], []⟩) (m := false) (base := 0) (Env.ok_cons c120_ok Env.ok_nil) G_ok mix 300 6 Try.func68 (by kernel_rfl) rfl (by kernel_rfl) (by kernel_rfl) rfl ?_
  simp [Try.f68]
  all_goals first | omega | (rw [Bool.eq_iff_iff]; simp; omega) | grind
theorem c68_ok : c68.ok Try.prog := mkCon_ok fun ⟨a, b⟩ hpre => c68_pc a b
def kindNames : List ByteArray := [⟨#[]⟩, ⟨#[98, 97, 103]⟩, ⟨#[99, 111, 97, 116]⟩, ⟨#[107, 101, 121, 115]⟩, ⟨#[109, 111, 110, 101, 121]⟩, ⟨#[112, 104, 111, 110, 101]⟩, ⟨#[117, 109, 98, 114, 101, 108, 108, 97]⟩, ⟨#[102, 111, 111, 100]⟩, ⟨#[111, 116, 104, 101, 114]⟩]
def mTextAt (i : Int) (l : List ByteArray) : ByteArray := if mIn i 0 (l.length - 1) then l[i.toNat]?.getD ⟨#[]⟩ else ⟨#[]⟩
/-- loop.example/g03007/impl.textAt -/
noncomputable def c127 : Con := mkCon 127 false (α := Int × (List ByteArray)) (fun x => (fun (i : Int) (l : List ByteArray) => [dI i, encLS l]) x.1 x.2) (fun _ => []) (fun x => (fun (i : Int) (l : List ByteArray) => l.length ≤ 1099511627776) x.1 x.2) (fun x => (fun (i : Int) (l : List ByteArray) => (dS (mTextAt i l) : D)) x.1 x.2) (fun x => (fun (i : Int) (l : List ByteArray) => []) x.1 x.2)
@[simp] theorem c127_f : c127.f = 127 := rfl
@[simp] theorem c127_own : c127.own = false := rfl
theorem c127_inj : ∀ u_ v_ : Int × (List ByteArray), ((fun x => (fun (i : Int) (l : List ByteArray) => [dI i, encLS l]) x.1 x.2) u_).map nz = ((fun x => (fun (i : Int) (l : List ByteArray) => [dI i, encLS l]) x.1 x.2) v_).map nz → u_ = v_ := by
  intro u_ v_ h
  obtain ⟨i, l⟩ := u_
  obtain ⟨i', l'⟩ := v_
  simp [nz_lit, nz1_lit, nz_agg, nz_sl, nz1_sl, encLS] at h
  first | (simp [h]; done) | (obtain ⟨⟩ := h; simp_all; done) | simp_all
@[simp] theorem c127_fn (i : Int) (l : List ByteArray) : c127.fn [.lit (.int .i64 i), .sl false 1 (.lit (.string ⟨#[]⟩)) (ML dS l)] [] = some ((fun (i : Int) (l : List ByteArray) => l.length ≤ 1099511627776) i l, (fun (i : Int) (l : List ByteArray) => (dS (mTextAt i l) : D)) i l, (fun (i : Int) (l : List ByteArray) => []) i l) :=
  mkCon_fn (fun x y h _ => c127_inj x y h) ((i, l) : Int × (List ByteArray)) (by simp [nz, nz1, ML_nil, encLS]) rfl
@[simp] theorem c127_fn1 (i : Int) (s_l : Nat) (z_l : D) : c127.fn [.lit (.int .i64 i), .sl false s_l z_l []] [] = some ((fun (i : Int) (l : List ByteArray) => l.length ≤ 1099511627776) i [], (fun (i : Int) (l : List ByteArray) => (dS (mTextAt i l) : D)) i [], (fun (i : Int) (l : List ByteArray) => []) i []) :=
  mkCon_fn (fun x y h _ => c127_inj x y h) ((i, []) : Int × (List ByteArray)) (by simp [nz, nz1, ML_nil, encLS]) rfl
theorem c127_pc (i : Int) (l : List ByteArray) (hpre : l.length ≤ 1099511627776) : PCo Try.prog 127 [dI i, encLS l] (Tab.of []) (dS (mTextAt i l)) (Tab.of []) := by
  refine pco_of_run [] (E := ⟨[c46], []⟩) (m := false) (base := 0) (Env.ok_cons c46_ok Env.ok_nil) G_ok mix 300 6 Try.func127 (by kernel_rfl) rfl (by kernel_rfl) (by kernel_rfl) rfl ?_
  simp [Try.f127]
  refine ⟨by omega, fun h => by simp [mTextAt, h], fun h => ?_⟩
  have h2 := mIn_iff.1 h
  exact ⟨by omega, by simp [mTextAt, h]⟩
theorem c127_ok : c127.ok Try.prog := mkCon_ok fun ⟨i, l⟩ hpre => c127_pc i l hpre
def mKind (i : Int) : ByteArray := mTextAt i kindNames
@[simp] theorem c127_kind (i : Int) : c127.fn [.lit (.int .i64 i), .sl false 1 (.lit (.string ⟨#[]⟩)) [.lit (.string ⟨#[]⟩), .lit (.string ⟨#[98, 97, 103]⟩), .lit (.string ⟨#[99, 111, 97, 116]⟩), .lit (.string ⟨#[107, 101, 121, 115]⟩), .lit (.string ⟨#[109, 111, 110, 101, 121]⟩), .lit (.string ⟨#[112, 104, 111, 110, 101]⟩), .lit (.string ⟨#[117, 109, 98, 114, 101, 108, 108, 97]⟩), .lit (.string ⟨#[102, 111, 111, 100]⟩), .lit (.string ⟨#[111, 116, 104, 101, 114]⟩)]] [] = some (True, dS (mKind i), []) :=
  (c127_fn i kindNames).trans (by simp [mKind, kindNames])
/-- loop.example/g03007/impl.KindText -/
noncomputable def c89 : Con := mkCon 89 false (α := Int) (fun x => (fun (i : Int) => [dI i]) x) (fun _ => []) (fun x => (fun (i : Int) => True) x) (fun x => (fun (i : Int) => (dS (mKind i) : D)) x) (fun x => (fun (i : Int) => []) x)
@[simp] theorem c89_f : c89.f = 89 := rfl
@[simp] theorem c89_own : c89.own = false := rfl
theorem c89_inj : ∀ u_ v_ : Int, ((fun x => (fun (i : Int) => [dI i]) x) u_).map nz = ((fun x => (fun (i : Int) => [dI i]) x) v_).map nz → u_ = v_ := by
  intro u_ v_ h
  obtain i := u_
  obtain i' := v_
  simp [nz_lit, nz1_lit, nz_agg, nz_sl, nz1_sl] at h
  first | (simp [h]; done) | (obtain ⟨⟩ := h; simp_all; done) | simp_all
@[simp] theorem c89_fn (i : Int) : c89.fn [.lit (.int .i64 i)] [] = some ((fun (i : Int) => True) i, (fun (i : Int) => (dS (mKind i) : D)) i, (fun (i : Int) => []) i) :=
  mkCon_fn (fun x y h _ => c89_inj x y h) (i : Int) (by simp [nz, nz1, ML_nil]) rfl
theorem c89_pc (i : Int) : PCo Try.prog 89 [dI i] (Tab.of []) (dS (mKind i)) (Tab.of []) := by
  refine pco_of_run [] (E := ⟨[c127], []⟩) (m := false) (base := 0) (Env.ok_cons c127_ok Env.ok_nil) G_ok mix 300 6 Try.func89 (by kernel_rfl) rfl (by kernel_rfl) (by kernel_rfl) rfl ?_
  simp [Try.f89]
  all_goals first | omega | (rw [Bool.eq_iff_iff]; simp; omega) | grind
theorem c89_ok : c89.ok Try.prog := mkCon_ok fun i hpre => c89_pc i
/-- loop.example/g03007/spec.KindText -/
noncomputable def c88 : Con := mkCon 88 false (α := Int) (fun x => (fun (i : Int) => [dI i]) x) (fun _ => []) (fun x => (fun (i : Int) => True) x) (fun x => (fun (i : Int) => (dS (mKind i) : D)) x) (fun x => (fun (i : Int) => []) x)
@[simp] theorem c88_f : c88.f = 88 := rfl
@[simp] theorem c88_own : c88.own = false := rfl
theorem c88_inj : ∀ u_ v_ : Int, ((fun x => (fun (i : Int) => [dI i]) x) u_).map nz = ((fun x => (fun (i : Int) => [dI i]) x) v_).map nz → u_ = v_ := by
  intro u_ v_ h
  obtain i := u_
  obtain i' := v_
  simp [nz_lit, nz1_lit, nz_agg, nz_sl, nz1_sl] at h
  first | (simp [h]; done) | (obtain ⟨⟩ := h; simp_all; done) | simp_all
@[simp] theorem c88_fn (i : Int) : c88.fn [.lit (.int .i64 i)] [] = some ((fun (i : Int) => True) i, (fun (i : Int) => (dS (mKind i) : D)) i, (fun (i : Int) => []) i) :=
  mkCon_fn (fun x y h _ => c88_inj x y h) (i : Int) (by simp [nz, nz1, ML_nil]) rfl
theorem c88_pc (i : Int) : PCo Try.prog 88 [dI i] (Tab.of []) (dS (mKind i)) (Tab.of []) := by
  refine pco_of_run [] (E := ⟨[c113], []⟩) (m := false) (base := 0) (Env.ok_cons c113_ok Env.ok_nil) G_ok mix 300 6 Try.func88 (by kernel_rfl) rfl (by kernel_rfl) (by kernel_rfl) rfl ?_
  by_cases h : mIn i 1 8 = true
  · have h2 := mIn_iff.1 h
    obtain rfl | rfl | rfl | rfl | rfl | rfl | rfl | rfl : i = 1 ∨ i = 2 ∨ i = 3 ∨ i = 4 ∨ i = 5 ∨ i = 6 ∨ i = 7 ∨ i = 8 := by omega
    all_goals simp [Try.f88, mKind, mTextAt, kindNames, mIn]
  · simp only [Bool.not_eq_true] at h
    simp [Try.f88, h]
    by_cases h0 : i = 0
    · subst h0; rfl
    · have : mIn i 0 8 = false := by
        rw [← Bool.not_eq_true, mIn_iff] at h ⊢; omega
      simp [mKind, mTextAt, kindNames, this]
theorem c88_ok : c88.ok Try.prog := mkCon_ok fun i hpre => c88_pc i
def colourNames : List ByteArray := [⟨#[98, 108, 97, 99, 107]⟩, ⟨#[119, 104, 105, 116, 101]⟩, ⟨#[114, 101, 100]⟩, ⟨#[103, 114, 101, 101, 110]⟩, ⟨#[98, 108, 117, 101]⟩, ⟨#[121, 101, 108, 108, 111, 119]⟩, ⟨#[98, 114, 111, 119, 110]⟩, ⟨#[103, 114, 101, 121]⟩]
def mColour (i : Int) : ByteArray := mTextAt i colourNames
@[simp] theorem c127_colour (i : Int) : c127.fn [.lit (.int .i64 i), .sl false 1 (.lit (.string ⟨#[]⟩)) [.lit (.string ⟨#[98, 108, 97, 99, 107]⟩), .lit (.string ⟨#[119, 104, 105, 116, 101]⟩), .lit (.string ⟨#[114, 101, 100]⟩), .lit (.string ⟨#[103, 114, 101, 101, 110]⟩), .lit (.string ⟨#[98, 108, 117, 101]⟩), .lit (.string ⟨#[121, 101, 108, 108, 111, 119]⟩), .lit (.string ⟨#[98, 114, 111, 119, 110]⟩), .lit (.string ⟨#[103, 114, 101, 121]⟩)]] [] = some (True, dS (mColour i), []) :=
  (c127_fn i colourNames).trans (by simp [mColour, colourNames])
/-- loop.example/g03007/impl.ColourText -/
noncomputable def c91 : Con := mkCon 91 false (α := Int) (fun x => (fun (i : Int) => [dI i]) x) (fun _ => []) (fun x => (fun (i : Int) => True) x) (fun x => (fun (i : Int) => (dS (mColour i) : D)) x) (fun x => (fun (i : Int) => []) x)
@[simp] theorem c91_f : c91.f = 91 := rfl
@[simp] theorem c91_own : c91.own = false := rfl
theorem c91_inj : ∀ u_ v_ : Int, ((fun x => (fun (i : Int) => [dI i]) x) u_).map nz = ((fun x => (fun (i : Int) => [dI i]) x) v_).map nz → u_ = v_ := by
  intro u_ v_ h
  obtain i := u_
  obtain i' := v_
  simp [nz_lit, nz1_lit, nz_agg, nz_sl, nz1_sl] at h
  first | (simp [h]; done) | (obtain ⟨⟩ := h; simp_all; done) | simp_all
@[simp] theorem c91_fn (i : Int) : c91.fn [.lit (.int .i64 i)] [] = some ((fun (i : Int) => True) i, (fun (i : Int) => (dS (mColour i) : D)) i, (fun (i : Int) => []) i) :=
  mkCon_fn (fun x y h _ => c91_inj x y h) (i : Int) (by simp [nz, nz1, ML_nil]) rfl
theorem c91_pc (i : Int) : PCo Try.prog 91 [dI i] (Tab.of []) (dS (mColour i)) (Tab.of []) := by
  refine pco_of_run [] (E := ⟨[c127], []⟩) (m := false) (base := 0) (Env.ok_cons c127_ok Env.ok_nil) G_ok mix 300 6 Try.func91 (by kernel_rfl) rfl (by kernel_rfl) (by kernel_rfl) rfl ?_
  simp [Try.f91]
  all_goals first | omega | (rw [Bool.eq_iff_iff]; simp; omega) | grind
theorem c91_ok : c91.ok Try.prog := mkCon_ok fun i hpre => c91_pc i
/-- loop.example/g03007/spec.ColourText -/
noncomputable def c90 : Con := mkCon 90 false (α := Int) (fun x => (fun (i : Int) => [dI i]) x) (fun _ => []) (fun x => (fun (i : Int) => True) x) (fun x => (fun (i : Int) => (dS (mColour i) : D)) x) (fun x => (fun (i : Int) => []) x)
@[simp] theorem c90_f : c90.f = 90 := rfl
@[simp] theorem c90_own : c90.own = false := rfl
theorem c90_inj : ∀ u_ v_ : Int, ((fun x => (fun (i : Int) => [dI i]) x) u_).map nz = ((fun x => (fun (i : Int) => [dI i]) x) v_).map nz → u_ = v_ := by
  intro u_ v_ h
  obtain i := u_
  obtain i' := v_
  simp [nz_lit, nz1_lit, nz_agg, nz_sl, nz1_sl] at h
  first | (simp [h]; done) | (obtain ⟨⟩ := h; simp_all; done) | simp_all
@[simp] theorem c90_fn (i : Int) : c90.fn [.lit (.int .i64 i)] [] = some ((fun (i : Int) => True) i, (fun (i : Int) => (dS (mColour i) : D)) i, (fun (i : Int) => []) i) :=
  mkCon_fn (fun x y h _ => c90_inj x y h) (i : Int) (by simp [nz, nz1, ML_nil]) rfl
theorem c90_pc (i : Int) : PCo Try.prog 90 [dI i] (Tab.of []) (dS (mColour i)) (Tab.of []) := by
  refine pco_of_run [] (E := ⟨[c113], []⟩) (m := false) (base := 0) (Env.ok_cons c113_ok Env.ok_nil) G_ok mix 300 6 Try.func90 (by kernel_rfl) rfl (by kernel_rfl) (by kernel_rfl) rfl ?_
  by_cases h : mIn i 0 7 = true
  · have h2 := mIn_iff.1 h
    obtain rfl | rfl | rfl | rfl | rfl | rfl | rfl | rfl : i = 0 ∨ i = 1 ∨ i = 2 ∨ i = 3 ∨ i = 4 ∨ i = 5 ∨ i = 6 ∨ i = 7 := by omega
    all_goals simp [Try.f90, mColour, mTextAt, colourNames, mIn]
  · simp only [Bool.not_eq_true] at h
    simp [Try.f90, h]
    simp [mColour, mTextAt, colourNames, h]
theorem c90_ok : c90.ok Try.prog := mkCon_ok fun i hpre => c90_pc i
/-- loop.example/g03007/laws.FnExactEqualBytes -/
theorem law15 (a : List Int) (wa : wfLU a) (b : List Int) (wb : wfLU b) : PCo Try.prog 15 [encLU a, encLU b] (Tab.of []) (dB true) (Tab.of []) := by
  refine pco_of_run [] (E := ⟨[c48, c50, c67, c68], []⟩) (m := false) (base := 0) (Env.ok_cons c48_ok (Env.ok_cons c50_ok (Env.ok_cons c67_ok (Env.ok_cons c68_ok Env.ok_nil)))) G_ok mix 400 6 Try.func15 (by kernel_rfl) rfl (by kernel_rfl) (by kernel_rfl) rfl ?_
  simp [Try.f15]
  all_goals first | omega | grind
theorem law15_pc (D0 : D) (h0 : Sh G 9 28 D0) (D1 : D) (h1 : Sh G 9 28 D1) : PC Try.prog 15 [D0, D1] (dB true) [] := by
  obtain ⟨a, rfl, wa⟩ := sh28 (n := 7) h0
  obtain ⟨b, rfl, wb⟩ := sh28 (n := 7) h1
  exact law15 a wa b wb
/-- loop.example/g03007/laws.FnExactEqualInts -/
theorem law23 (a : List Int) (wa : wfLI a) (b : List Int) (wb : wfLI b) : PCo Try.prog 23 [encLI a, encLI b] (Tab.of []) (dB true) (Tab.of []) := by
  refine pco_of_run [] (E := ⟨[c60, c62, c83, c84], []⟩) (m := false) (base := 0) (Env.ok_cons c60_ok (Env.ok_cons c62_ok (Env.ok_cons c83_ok (Env.ok_cons c84_ok Env.ok_nil)))) G_ok mix 400 6 Try.func23 (by kernel_rfl) rfl (by kernel_rfl) (by kernel_rfl) rfl ?_
  simp [Try.f23]
  all_goals first | omega | grind
theorem law23_pc (D0 : D) (h0 : Sh G 9 40 D0) (D1 : D) (h1 : Sh G 9 40 D1) : PC Try.prog 23 [D0, D1] (dB true) [] := by
  obtain ⟨a, rfl, wa⟩ := sh40 (n := 7) h0
  obtain ⟨b, rfl, wb⟩ := sh40 (n := 7) h1
  exact law23 a wa b wb
/-- loop.example/g03007/laws.FnExactIsThing -/
theorem law24 (x : TThing) (wx : wfTThing x) : PCo Try.prog 24 [encTThing x] (Tab.of []) (dB true) (Tab.of []) := by
  obtain ⟨x_Id, x_Kind, x_Colour, x_Size, x_Worth⟩ := x
  refine pco_of_run [] (E := ⟨[c85, c86, c87], []⟩) (m := false) (base := 0) (Env.ok_cons c85_ok (Env.ok_cons c86_ok (Env.ok_cons c87_ok Env.ok_nil))) G_ok mix 400 6 Try.func24 (by kernel_rfl) rfl (by kernel_rfl) (by kernel_rfl) rfl ?_
  simp [Try.f24]
  all_goals first | omega | grind
theorem law24_pc (D0 : D) (h0 : Sh G 9 59 D0) : PC Try.prog 24 [D0] (dB true) [] := by
  obtain ⟨x, rfl, wx⟩ := sh59 (n := 7) h0
  exact law24 x wx
/-- loop.example/g03007/laws.FnExactKindText -/
theorem law25 (i : Int) (wi : inR .i64 i) : PCo Try.prog 25 [dI i] (Tab.of []) (dB true) (Tab.of []) := by
  refine pco_of_run [] (E := ⟨[c88, c89], []⟩) (m := false) (base := 0) (Env.ok_cons c88_ok (Env.ok_cons c89_ok Env.ok_nil)) G_ok mix 400 6 Try.func25 (by kernel_rfl) rfl (by kernel_rfl) (by kernel_rfl) rfl ?_
  simp [Try.f25]
  all_goals first | omega | grind
theorem law25_pc (D0 : D) (h0 : Sh G 9 3 D0) : PC Try.prog 25 [D0] (dB true) [] := by
  obtain ⟨i, rfl, wi⟩ := sh3 (n := 8) h0
  exact law25 i wi
/-- loop.example/g03007/laws.FnExactColourText -/
theorem law26 (i : Int) (wi : inR .i64 i) : PCo Try.prog 26 [dI i] (Tab.of []) (dB true) (Tab.of []) := by
  refine pco_of_run [] (E := ⟨[c90, c91], []⟩) (m := false) (base := 0) (Env.ok_cons c90_ok (Env.ok_cons c91_ok Env.ok_nil)) G_ok mix 400 6 Try.func26 (by kernel_rfl) rfl (by kernel_rfl) (by kernel_rfl) rfl ?_
  simp [Try.f26]
  all_goals first | omega | grind
theorem law26_pc (D0 : D) (h0 : Sh G 9 3 D0) : PC Try.prog 26 [D0] (dB true) [] := by
  obtain ⟨i, rfl, wi⟩ := sh3 (n := 8) h0
  exact law26 i wi
/-- loop.example/g03007/laws.FnExactSameKind -/
theorem law27 (a : TThing) (wa : wfTThing a) (b : TThing) (wb : wfTThing b) : PCo Try.prog 27 [encTThing a, encTThing b] (Tab.of []) (dB true) (Tab.of []) := by
  obtain ⟨a_Id, a_Kind, a_Colour, a_Size, a_Worth⟩ := a
  obtain ⟨b_Id, b_Kind, b_Colour, b_Size, b_Worth⟩ := b
  refine pco_of_run [1, 2] (E := ⟨[c86, c92, c93], []⟩) (m := false) (base := 0) (Env.ok_cons c86_ok (Env.ok_cons c92_ok (Env.ok_cons c93_ok Env.ok_nil))) G_ok mix 400 6 Try.func27 (by kernel_rfl) rfl (by kernel_rfl) (by kernel_rfl) rfl ?_
  simp [Try.f27]
  all_goals first | omega | grind
theorem law27_pc (D0 : D) (h0 : Sh G 9 59 D0) (D1 : D) (h1 : Sh G 9 59 D1) : PC Try.prog 27 [D0, D1] (dB true) [] := by
  obtain ⟨a, rfl, wa⟩ := sh59 (n := 7) h0
  obtain ⟨b, rfl, wb⟩ := sh59 (n := 7) h1
  exact law27 a wa b wb
/-- loop.example/g03007/laws.FnExactAreThings -/
theorem law28 (l : List TThing) (wl : wfLTThing l) : PCo Try.prog 28 [encLTThing l] (Tab.of []) (dB true) (Tab.of []) := by
  refine pco_of_run [] (E := ⟨[c94, c95, c96, c97, c98], []⟩) (m := false) (base := 0) (Env.ok_cons c94_ok (Env.ok_cons c95_ok (Env.ok_cons c96_ok (Env.ok_cons c97_ok (Env.ok_cons c98_ok Env.ok_nil))))) G_ok mix 400 6 Try.func28 (by kernel_rfl) rfl (by kernel_rfl) (by kernel_rfl) rfl ?_
  simp [Try.f28]
  refine ⟨wl.1, fun h => ?_⟩
  split at h <;> omega
theorem law28_pc (D0 : D) (h0 : Sh G 9 67 D0) : PC Try.prog 28 [D0] (dB true) [] := by
  obtain ⟨l, rfl, wl⟩ := sh67 (n := 6) h0
  exact law28 l wl

end Go.Proofs.Ytdccffbbkljkfaa
