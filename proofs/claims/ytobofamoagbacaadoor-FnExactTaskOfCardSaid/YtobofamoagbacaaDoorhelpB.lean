/- Contracts of the functions that the laws run. -/
import Derived.Test.YtobofamoagbacaaDoorhelpA
import Derived.Test.YtobofamoagbacaaDoorEngB
namespace Go.Proofs.YtobofamoagbacaaDoor
open Go Go.Eng
set_option linter.unusedSimpArgs false
set_option linter.unusedVariables false
set_option maxRecDepth 10000
set_option maxHeartbeats 1000000
/-- loop.example/g03007/laws.toBoolS -/
noncomputable def c47 : Con := mkCon 47 false (α := (List Bool)) (fun x => (fun (l : List Bool) => [encLB l]) x) (fun _ => []) (fun x => (fun (l : List Bool) => l.length ≤ 1099511627776) x) (fun x => (fun (l : List Bool) => (.own (0, 1) 1 0 l.length : D)) x) (fun x => (fun (l : List Bool) => [((0, 1), .arr false 1 (.lit (.bool false)) (ML dB l))]) x)
@[simp] theorem c47_f : c47.f = 47 := rfl
@[simp] theorem c47_own : c47.own = false := rfl
theorem c47_inj : ∀ u_ v_ : (List Bool), ((fun x => (fun (l : List Bool) => [encLB l]) x) u_).map nz = ((fun x => (fun (l : List Bool) => [encLB l]) x) v_).map nz → u_ = v_ := by
  intro u_ v_ h
  obtain l := u_
  obtain l' := v_
  simp [nz_lit, nz1_lit, nz_agg, nz_sl, nz1_sl, encLB] at h
  first | (simp [h]; done) | (obtain ⟨⟩ := h; simp_all; done) | simp_all
@[simp] theorem c47_fn (l : List Bool) : c47.fn [.sl false 1 (.lit (.bool false)) (ML dB l)] [] = some ((fun (l : List Bool) => l.length ≤ 1099511627776) l, (fun (l : List Bool) => (.own (0, 1) 1 0 l.length : D)) l, (fun (l : List Bool) => [((0, 1), .arr false 1 (.lit (.bool false)) (ML dB l))]) l) :=
  mkCon_fn (fun x y h _ => c47_inj x y h) (l : (List Bool)) (by simp [nz, nz1, ML_nil, encLB]) rfl
@[simp] theorem c47_fn1 (s_l : Nat) (z_l : D) : c47.fn [.sl false s_l z_l []] [] = some ((fun (l : List Bool) => l.length ≤ 1099511627776) [], (fun (l : List Bool) => (.own (0, 1) 1 0 l.length : D)) [], (fun (l : List Bool) => [((0, 1), .arr false 1 (.lit (.bool false)) (ML dB l))]) []) :=
  mkCon_fn (fun x y h _ => c47_inj x y h) ([] : (List Bool)) (by simp [nz, nz1, ML_nil, encLB]) rfl
theorem c47_pc (l : List Bool) (hpre : l.length ≤ 1099511627776) : PCo Tryd.prog 47 [encLB l] (Tab.of []) (.own (0, 1) 1 0 l.length) (Tab.of [((0, 1), .arr false 1 (.lit (.bool false)) (ML dB l))]) := by
  refine pco_of_run [] (E := ⟨[], []⟩) (m := false) (base := 0) Env.ok_nil G_ok mix 300 6 Tryd.func47 (by kernel_rfl) rfl (by kernel_rfl) (by kernel_rfl) rfl ?_
  simp [Tryd.f47]
  refine ⟨by omega, ?_⟩
  refine loop_inv (fun p : Nat => p ≤ l.length) (fun p => [(0, encLB l), (3, .own (0, 1) 1 0 l.length), (4, dI p)]) (fun p => [((0, 1), .arr false 1 (.lit (.bool false)) (ML dB (l.take p ++ List.replicate (l.length - p) false)))]) 2 (fun p => l.length - p) 0 100 (by simp) (by simp) (by first | (simp; done) | (simp; simp only [ML, List.map_replicate]; rfl)) ?_
  intro p hp
  simp
  refine ⟨fun hlt => ⟨by omega, by omega, Again.mk (p + 1) (by omega) (by simp [fill_step hlt]) (by first | omega | (simp; omega))⟩, fun hge => ?_⟩
  have : p = l.length := by omega
  subst this
  simp
theorem c47_ok : c47.ok Tryd.prog := mkCon_ok fun l hpre => c47_pc l hpre
/-- loop.example/g03007/laws.eqBoolS -/
noncomputable def c49 : Con := mkCon 49 false (α := (List Bool) × (List Bool)) (fun x => (fun (a : List Bool) (b : List Bool) => [encLB a, encLB b]) x.1 x.2) (fun _ => []) (fun x => (fun (a : List Bool) (b : List Bool) => a.length ≤ 1099511627776 ∧ b.length ≤ 1099511627776) x.1 x.2) (fun x => (fun (a : List Bool) (b : List Bool) => (dB (decide (a = b)) : D)) x.1 x.2) (fun x => (fun (a : List Bool) (b : List Bool) => []) x.1 x.2)
@[simp] theorem c49_f : c49.f = 49 := rfl
@[simp] theorem c49_own : c49.own = false := rfl
theorem c49_inj : ∀ u_ v_ : (List Bool) × (List Bool), ((fun x => (fun (a : List Bool) (b : List Bool) => [encLB a, encLB b]) x.1 x.2) u_).map nz = ((fun x => (fun (a : List Bool) (b : List Bool) => [encLB a, encLB b]) x.1 x.2) v_).map nz → u_ = v_ := by
  intro u_ v_ h
  obtain ⟨a, b⟩ := u_
  obtain ⟨a', b'⟩ := v_
  simp [nz_lit, nz1_lit, nz_agg, nz_sl, nz1_sl, encLB] at h
  first | (simp [h]; done) | (obtain ⟨⟩ := h; simp_all; done) | simp_all
@[simp] theorem c49_fn (a : List Bool) (b : List Bool) : c49.fn [.sl false 1 (.lit (.bool false)) (ML dB a), .sl false 1 (.lit (.bool false)) (ML dB b)] [] = some ((fun (a : List Bool) (b : List Bool) => a.length ≤ 1099511627776 ∧ b.length ≤ 1099511627776) a b, (fun (a : List Bool) (b : List Bool) => (dB (decide (a = b)) : D)) a b, (fun (a : List Bool) (b : List Bool) => []) a b) :=
  mkCon_fn (fun x y h _ => c49_inj x y h) ((a, b) : (List Bool) × (List Bool)) (by simp [nz, nz1, ML_nil, encLB]) rfl
@[simp] theorem c49_fn1 (s_a : Nat) (z_a : D) (b : List Bool) : c49.fn [.sl false s_a z_a [], .sl false 1 (.lit (.bool false)) (ML dB b)] [] = some ((fun (a : List Bool) (b : List Bool) => a.length ≤ 1099511627776 ∧ b.length ≤ 1099511627776) [] b, (fun (a : List Bool) (b : List Bool) => (dB (decide (a = b)) : D)) [] b, (fun (a : List Bool) (b : List Bool) => []) [] b) :=
  mkCon_fn (fun x y h _ => c49_inj x y h) (([], b) : (List Bool) × (List Bool)) (by simp [nz, nz1, ML_nil, encLB]) rfl
@[simp] theorem c49_fn2 (a : List Bool) (s_b : Nat) (z_b : D) : c49.fn [.sl false 1 (.lit (.bool false)) (ML dB a), .sl false s_b z_b []] [] = some ((fun (a : List Bool) (b : List Bool) => a.length ≤ 1099511627776 ∧ b.length ≤ 1099511627776) a [], (fun (a : List Bool) (b : List Bool) => (dB (decide (a = b)) : D)) a [], (fun (a : List Bool) (b : List Bool) => []) a []) :=
  mkCon_fn (fun x y h _ => c49_inj x y h) ((a, []) : (List Bool) × (List Bool)) (by simp [nz, nz1, ML_nil, encLB]) rfl
@[simp] theorem c49_fn3 (s_a : Nat) (z_a : D) (s_b : Nat) (z_b : D) : c49.fn [.sl false s_a z_a [], .sl false s_b z_b []] [] = some ((fun (a : List Bool) (b : List Bool) => a.length ≤ 1099511627776 ∧ b.length ≤ 1099511627776) [] [], (fun (a : List Bool) (b : List Bool) => (dB (decide (a = b)) : D)) [] [], (fun (a : List Bool) (b : List Bool) => []) [] []) :=
  mkCon_fn (fun x y h _ => c49_inj x y h) (([], []) : (List Bool) × (List Bool)) (by simp [nz, nz1, ML_nil, encLB]) rfl
theorem c49_pc (a : List Bool) (b : List Bool) (hpre : a.length ≤ 1099511627776 ∧ b.length ≤ 1099511627776) : PCo Tryd.prog 49 [encLB a, encLB b] (Tab.of []) (dB (decide (a = b))) (Tab.of []) := by
  refine pco_of_run [] (E := ⟨[], []⟩) (m := false) (base := 0) Env.ok_nil G_ok mix 300 6 Tryd.func49 (by kernel_rfl) rfl (by kernel_rfl) (by kernel_rfl) rfl ?_
  simp [Tryd.f49]
  obtain ⟨pre1, pre2⟩ := hpre
  refine ⟨fun h => ?_, fun h => by intro e; subst e; exact absurd rfl h⟩
  refine loop_inv (fun p : Nat => p ≤ a.length ∧ a.take p = b.take p) (fun p => [(0, encLB a), (1, encLB b), (5, dI p)]) (fun _ => []) 1 (fun p => a.length - p) 0 100 (by simp) (by simp) (by simp) ?_
  intro p ⟨hp, hi⟩
  simp
  refine ⟨fun hlt => ⟨by omega, fun h2 => ⟨by omega, Again.mk (p + 1) ⟨by omega, take_eq_step hi (by omega) (by omega) h2⟩ (by simp) (by first | omega | (simp; omega))⟩, fun h2 => by intro e; subst e; exact absurd rfl h2⟩, fun hge => ?_⟩
  exact take_eq_full hi (by omega) (by omega)
theorem c49_ok : c49.ok Tryd.prog := mkCon_ok fun ⟨a, b⟩ hpre => c49_pc a b hpre

end Go.Proofs.YtobofamoagbacaaDoor
