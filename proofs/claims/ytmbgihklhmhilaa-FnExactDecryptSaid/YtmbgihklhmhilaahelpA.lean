/- Contracts of the functions that the laws run. -/
import Derived.Test.Ytmbgihklhmhilaach04
import Derived.Test.YtmbgihklhmhilaaEngB
namespace Go.Proofs.Ytmbgihklhmhilaa
open Go Go.Eng
set_option linter.unusedSimpArgs false
set_option linter.unusedVariables false
set_option maxRecDepth 10000
set_option maxHeartbeats 1000000
/-- loop.example/g03007/laws.toByteS -/
noncomputable def c25 : Con := mkCon 25 false (α := (List Int)) (fun x => (fun (l : List Int) => [encLU l]) x) (fun _ => []) (fun x => (fun (l : List Int) => l.length ≤ 1099511627776) x) (fun x => (fun (l : List Int) => (.own (0, 1) 1 0 l.length : D)) x) (fun x => (fun (l : List Int) => [((0, 1), .arr false 1 (.lit (.int .u8 0)) (ML dU l))]) x)
@[simp] theorem c25_f : c25.f = 25 := rfl
@[simp] theorem c25_own : c25.own = false := rfl
theorem c25_inj : ∀ u_ v_ : (List Int), ((fun x => (fun (l : List Int) => [encLU l]) x) u_).map nz = ((fun x => (fun (l : List Int) => [encLU l]) x) v_).map nz → u_ = v_ := by
  intro u_ v_ h
  obtain l := u_
  obtain l' := v_
  simp [nz_lit, nz1_lit, nz_agg, nz_sl, nz1_sl, encLU] at h
  first | (simp [h]; done) | (obtain ⟨⟩ := h; simp_all; done) | simp_all
@[simp] theorem c25_fn (l : List Int) : c25.fn [.sl false 1 (.lit (.int .u8 0)) (ML dU l)] [] = some ((fun (l : List Int) => l.length ≤ 1099511627776) l, (fun (l : List Int) => (.own (0, 1) 1 0 l.length : D)) l, (fun (l : List Int) => [((0, 1), .arr false 1 (.lit (.int .u8 0)) (ML dU l))]) l) :=
  mkCon_fn (fun x y h _ => c25_inj x y h) (l : (List Int)) (by simp [nz, nz1, ML_nil, encLU]) rfl
@[simp] theorem c25_fn1 (s_l : Nat) (z_l : D) : c25.fn [.sl false s_l z_l []] [] = some ((fun (l : List Int) => l.length ≤ 1099511627776) [], (fun (l : List Int) => (.own (0, 1) 1 0 l.length : D)) [], (fun (l : List Int) => [((0, 1), .arr false 1 (.lit (.int .u8 0)) (ML dU l))]) []) :=
  mkCon_fn (fun x y h _ => c25_inj x y h) ([] : (List Int)) (by simp [nz, nz1, ML_nil, encLU]) rfl
theorem c25_pc (l : List Int) (hpre : l.length ≤ 1099511627776) : PCo Try.prog 25 [encLU l] (Tab.of []) (.own (0, 1) 1 0 l.length) (Tab.of [((0, 1), .arr false 1 (.lit (.int .u8 0)) (ML dU l))]) := by
  refine pco_of_run [] (E := ⟨[], []⟩) (m := false) (base := 0) Env.ok_nil G_ok mix 300 6 Try.func25 (by kernel_rfl) rfl (by kernel_rfl) (by kernel_rfl) rfl ?_
  simp [Try.f25]
  refine ⟨by omega, ?_⟩
  refine loop_inv (fun p : Nat => p ≤ l.length) (fun p => [(0, encLU l), (3, .own (0, 1) 1 0 l.length), (4, dI p)]) (fun p => [((0, 1), .arr false 1 (.lit (.int .u8 0)) (ML dU (l.take p ++ List.replicate (l.length - p) 0)))]) 2 (fun p => l.length - p) 0 100 (by simp) (by simp) (by first | (simp; done) | (simp; simp only [ML, List.map_replicate]; rfl)) ?_
  intro p hp
  simp
  refine ⟨fun hlt => ⟨by omega, by omega, Again.mk (p + 1) (by omega) (by simp [fill_step hlt]) (by first | omega | (simp; omega))⟩, fun hge => ?_⟩
  have : p = l.length := by omega
  subst this
  simp
theorem c25_ok : c25.ok Try.prog := mkCon_ok fun l hpre => c25_pc l hpre
/-- loop.example/g03007/laws.toIntS -/
noncomputable def c80 : Con := mkCon 80 false (α := (List Int)) (fun x => (fun (l : List Int) => [encLI l]) x) (fun _ => []) (fun x => (fun (l : List Int) => l.length ≤ 1099511627776) x) (fun x => (fun (l : List Int) => (.own (0, 1) 1 0 l.length : D)) x) (fun x => (fun (l : List Int) => [((0, 1), .arr false 1 (.lit (.int .i64 0)) (ML dI l))]) x)
@[simp] theorem c80_f : c80.f = 80 := rfl
@[simp] theorem c80_own : c80.own = false := rfl
theorem c80_inj : ∀ u_ v_ : (List Int), ((fun x => (fun (l : List Int) => [encLI l]) x) u_).map nz = ((fun x => (fun (l : List Int) => [encLI l]) x) v_).map nz → u_ = v_ := by
  intro u_ v_ h
  obtain l := u_
  obtain l' := v_
  simp [nz_lit, nz1_lit, nz_agg, nz_sl, nz1_sl, encLI] at h
  first | (simp [h]; done) | (obtain ⟨⟩ := h; simp_all; done) | simp_all
@[simp] theorem c80_fn (l : List Int) : c80.fn [.sl false 1 (.lit (.int .i64 0)) (ML dI l)] [] = some ((fun (l : List Int) => l.length ≤ 1099511627776) l, (fun (l : List Int) => (.own (0, 1) 1 0 l.length : D)) l, (fun (l : List Int) => [((0, 1), .arr false 1 (.lit (.int .i64 0)) (ML dI l))]) l) :=
  mkCon_fn (fun x y h _ => c80_inj x y h) (l : (List Int)) (by simp [nz, nz1, ML_nil, encLI]) rfl
@[simp] theorem c80_fn1 (s_l : Nat) (z_l : D) : c80.fn [.sl false s_l z_l []] [] = some ((fun (l : List Int) => l.length ≤ 1099511627776) [], (fun (l : List Int) => (.own (0, 1) 1 0 l.length : D)) [], (fun (l : List Int) => [((0, 1), .arr false 1 (.lit (.int .i64 0)) (ML dI l))]) []) :=
  mkCon_fn (fun x y h _ => c80_inj x y h) ([] : (List Int)) (by simp [nz, nz1, ML_nil, encLI]) rfl
theorem c80_pc (l : List Int) (hpre : l.length ≤ 1099511627776) : PCo Try.prog 80 [encLI l] (Tab.of []) (.own (0, 1) 1 0 l.length) (Tab.of [((0, 1), .arr false 1 (.lit (.int .i64 0)) (ML dI l))]) := by
  refine pco_of_run [] (E := ⟨[], []⟩) (m := false) (base := 0) Env.ok_nil G_ok mix 300 6 Try.func80 (by kernel_rfl) rfl (by kernel_rfl) (by kernel_rfl) rfl ?_
  simp [Try.f80]
  refine ⟨by omega, ?_⟩
  refine loop_inv (fun p : Nat => p ≤ l.length) (fun p => [(0, encLI l), (3, .own (0, 1) 1 0 l.length), (4, dI p)]) (fun p => [((0, 1), .arr false 1 (.lit (.int .i64 0)) (ML dI (l.take p ++ List.replicate (l.length - p) 0)))]) 2 (fun p => l.length - p) 0 100 (by simp) (by simp) (by first | (simp; done) | (simp; simp only [ML, List.map_replicate]; rfl)) ?_
  intro p hp
  simp
  refine ⟨fun hlt => ⟨by omega, by omega, Again.mk (p + 1) (by omega) (by simp [fill_step hlt]) (by first | omega | (simp; omega))⟩, fun hge => ?_⟩
  have : p = l.length := by omega
  subst this
  simp
theorem c80_ok : c80.ok Try.prog := mkCon_ok fun l hpre => c80_pc l hpre
/-- loop.example/g03007/laws.toThingS -/
noncomputable def c49 : Con := mkCon 49 false (α := (List TThing)) (fun x => (fun (l : List TThing) => [encLTThing l]) x) (fun _ => []) (fun x => (fun (l : List TThing) => l.length ≤ 1099511627776) x) (fun x => (fun (l : List TThing) => (.own (0, 1) 5 0 l.length : D)) x) (fun x => (fun (l : List TThing) => [((0, 1), .arr false 5 yTThing (ML encTThing l))]) x)
@[simp] theorem c49_f : c49.f = 49 := rfl
@[simp] theorem c49_own : c49.own = false := rfl
theorem c49_inj : ∀ u_ v_ : (List TThing), ((fun x => (fun (l : List TThing) => [encLTThing l]) x) u_).map nz = ((fun x => (fun (l : List TThing) => [encLTThing l]) x) v_).map nz → u_ = v_ := by
  intro u_ v_ h
  obtain l := u_
  obtain l' := v_
  simp [nz_lit, nz1_lit, nz_agg, nz_sl, nz1_sl, encLTThing] at h
  first | (simp [h]; done) | (obtain ⟨⟩ := h; simp_all; done) | simp_all
@[simp] theorem c49_fn (l : List TThing) : c49.fn [.sl false 5 yTThing (ML encTThing l)] [] = some ((fun (l : List TThing) => l.length ≤ 1099511627776) l, (fun (l : List TThing) => (.own (0, 1) 5 0 l.length : D)) l, (fun (l : List TThing) => [((0, 1), .arr false 5 yTThing (ML encTThing l))]) l) :=
  mkCon_fn (fun x y h _ => c49_inj x y h) (l : (List TThing)) (by simp [nz, nz1, ML_nil, encLTThing]) rfl
@[simp] theorem c49_fn1 (s_l : Nat) (z_l : D) : c49.fn [.sl false s_l z_l []] [] = some ((fun (l : List TThing) => l.length ≤ 1099511627776) [], (fun (l : List TThing) => (.own (0, 1) 5 0 l.length : D)) [], (fun (l : List TThing) => [((0, 1), .arr false 5 yTThing (ML encTThing l))]) []) :=
  mkCon_fn (fun x y h _ => c49_inj x y h) ([] : (List TThing)) (by simp [nz, nz1, ML_nil, encLTThing]) rfl
theorem c49_pc (l : List TThing) (hpre : l.length ≤ 1099511627776) : PCo Try.prog 49 [encLTThing l] (Tab.of []) (.own (0, 1) 5 0 l.length) (Tab.of [((0, 1), .arr false 5 yTThing (ML encTThing l))]) := by
  refine pco_of_run [] (E := ⟨[c130], []⟩) (m := false) (base := 0) (Env.ok_cons c130_ok Env.ok_nil) G_ok mix 300 6 Try.func49 (by kernel_rfl) rfl (by kernel_rfl) (by kernel_rfl) rfl ?_
  simp [Try.f49]
  refine ⟨by omega, ?_⟩
  refine loop_inv (fun p : Nat => p ≤ l.length) (fun p => [(0, encLTThing l), (3, .own (0, 1) 5 0 l.length), (4, dI p)]) (fun p => [((0, 1), .arr false 5 yTThing (ML encTThing (l.take p ++ List.replicate (l.length - p) ⟨0, 0, 0, 0, 0⟩)))]) 2 (fun p => l.length - p) 0 100 (by simp) (by simp) (by first | (simp; done) | (simp; simp only [ML, List.map_replicate]; rfl)) ?_
  intro p hp
  simp
  refine ⟨fun hlt => ⟨by omega, by omega, Again.mk (p + 1) (by omega) (by simp [fill_step hlt]) (by first | omega | (simp; omega))⟩, fun hge => ?_⟩
  have : p = l.length := by omega
  subst this
  simp
theorem c49_ok : c49.ok Try.prog := mkCon_ok fun l hpre => c49_pc l hpre
/-- loop.example/g03007/laws.eqByteS -/
noncomputable def c27 : Con := mkCon 27 false (α := (List Int) × (List Int)) (fun x => (fun (a : List Int) (b : List Int) => [encLU a, encLU b]) x.1 x.2) (fun _ => []) (fun x => (fun (a : List Int) (b : List Int) => a.length ≤ 1099511627776 ∧ b.length ≤ 1099511627776) x.1 x.2) (fun x => (fun (a : List Int) (b : List Int) => (dB (decide (a = b)) : D)) x.1 x.2) (fun x => (fun (a : List Int) (b : List Int) => []) x.1 x.2)
@[simp] theorem c27_f : c27.f = 27 := rfl
@[simp] theorem c27_own : c27.own = false := rfl
theorem c27_inj : ∀ u_ v_ : (List Int) × (List Int), ((fun x => (fun (a : List Int) (b : List Int) => [encLU a, encLU b]) x.1 x.2) u_).map nz = ((fun x => (fun (a : List Int) (b : List Int) => [encLU a, encLU b]) x.1 x.2) v_).map nz → u_ = v_ := by
  intro u_ v_ h
  obtain ⟨a, b⟩ := u_
  obtain ⟨a', b'⟩ := v_
  simp [nz_lit, nz1_lit, nz_agg, nz_sl, nz1_sl, encLU] at h
  first | (simp [h]; done) | (obtain ⟨⟩ := h; simp_all; done) | simp_all
@[simp] theorem c27_fn (a : List Int) (b : List Int) : c27.fn [.sl false 1 (.lit (.int .u8 0)) (ML dU a), .sl false 1 (.lit (.int .u8 0)) (ML dU b)] [] = some ((fun (a : List Int) (b : List Int) => a.length ≤ 1099511627776 ∧ b.length ≤ 1099511627776) a b, (fun (a : List Int) (b : List Int) => (dB (decide (a = b)) : D)) a b, (fun (a : List Int) (b : List Int) => []) a b) :=
  mkCon_fn (fun x y h _ => c27_inj x y h) ((a, b) : (List Int) × (List Int)) (by simp [nz, nz1, ML_nil, encLU]) rfl
@[simp] theorem c27_fn1 (s_a : Nat) (z_a : D) (b : List Int) : c27.fn [.sl false s_a z_a [], .sl false 1 (.lit (.int .u8 0)) (ML dU b)] [] = some ((fun (a : List Int) (b : List Int) => a.length ≤ 1099511627776 ∧ b.length ≤ 1099511627776) [] b, (fun (a : List Int) (b : List Int) => (dB (decide (a = b)) : D)) [] b, (fun (a : List Int) (b : List Int) => []) [] b) :=
  mkCon_fn (fun x y h _ => c27_inj x y h) (([], b) : (List Int) × (List Int)) (by simp [nz, nz1, ML_nil, encLU]) rfl
@[simp] theorem c27_fn2 (a : List Int) (s_b : Nat) (z_b : D) : c27.fn [.sl false 1 (.lit (.int .u8 0)) (ML dU a), .sl false s_b z_b []] [] = some ((fun (a : List Int) (b : List Int) => a.length ≤ 1099511627776 ∧ b.length ≤ 1099511627776) a [], (fun (a : List Int) (b : List Int) => (dB (decide (a = b)) : D)) a [], (fun (a : List Int) (b : List Int) => []) a []) :=
  mkCon_fn (fun x y h _ => c27_inj x y h) ((a, []) : (List Int) × (List Int)) (by simp [nz, nz1, ML_nil, encLU]) rfl
@[simp] theorem c27_fn3 (s_a : Nat) (z_a : D) (s_b : Nat) (z_b : D) : c27.fn [.sl false s_a z_a [], .sl false s_b z_b []] [] = some ((fun (a : List Int) (b : List Int) => a.length ≤ 1099511627776 ∧ b.length ≤ 1099511627776) [] [], (fun (a : List Int) (b : List Int) => (dB (decide (a = b)) : D)) [] [], (fun (a : List Int) (b : List Int) => []) [] []) :=
  mkCon_fn (fun x y h _ => c27_inj x y h) (([], []) : (List Int) × (List Int)) (by simp [nz, nz1, ML_nil, encLU]) rfl
theorem c27_pc (a : List Int) (b : List Int) (hpre : a.length ≤ 1099511627776 ∧ b.length ≤ 1099511627776) : PCo Try.prog 27 [encLU a, encLU b] (Tab.of []) (dB (decide (a = b))) (Tab.of []) := by
  refine pco_of_run [] (E := ⟨[], []⟩) (m := false) (base := 0) Env.ok_nil G_ok mix 300 6 Try.func27 (by kernel_rfl) rfl (by kernel_rfl) (by kernel_rfl) rfl ?_
  simp [Try.f27]
  obtain ⟨pre1, pre2⟩ := hpre
  refine ⟨fun h => ?_, fun h => by intro e; subst e; exact absurd rfl h⟩
  refine loop_inv (fun p : Nat => p ≤ a.length ∧ a.take p = b.take p) (fun p => [(0, encLU a), (1, encLU b), (5, dI p)]) (fun _ => []) 1 (fun p => a.length - p) 0 100 (by simp) (by simp) (by simp) ?_
  intro p ⟨hp, hi⟩
  simp
  refine ⟨fun hlt => ⟨by omega, fun h2 => ⟨by omega, Again.mk (p + 1) ⟨by omega, take_eq_step hi (by omega) (by omega) h2⟩ (by simp) (by first | omega | (simp; omega))⟩, fun h2 => by intro e; subst e; exact absurd rfl h2⟩, fun hge => ?_⟩
  exact take_eq_full hi (by omega) (by omega)
theorem c27_ok : c27.ok Try.prog := mkCon_ok fun ⟨a, b⟩ hpre => c27_pc a b hpre
/-- loop.example/g03007/laws.eqIntS -/
noncomputable def c52 : Con := mkCon 52 false (α := (List Int) × (List Int)) (fun x => (fun (a : List Int) (b : List Int) => [encLI a, encLI b]) x.1 x.2) (fun _ => []) (fun x => (fun (a : List Int) (b : List Int) => a.length ≤ 1099511627776 ∧ b.length ≤ 1099511627776) x.1 x.2) (fun x => (fun (a : List Int) (b : List Int) => (dB (decide (a = b)) : D)) x.1 x.2) (fun x => (fun (a : List Int) (b : List Int) => []) x.1 x.2)
@[simp] theorem c52_f : c52.f = 52 := rfl
@[simp] theorem c52_own : c52.own = false := rfl
theorem c52_inj : ∀ u_ v_ : (List Int) × (List Int), ((fun x => (fun (a : List Int) (b : List Int) => [encLI a, encLI b]) x.1 x.2) u_).map nz = ((fun x => (fun (a : List Int) (b : List Int) => [encLI a, encLI b]) x.1 x.2) v_).map nz → u_ = v_ := by
  intro u_ v_ h
  obtain ⟨a, b⟩ := u_
  obtain ⟨a', b'⟩ := v_
  simp [nz_lit, nz1_lit, nz_agg, nz_sl, nz1_sl, encLI] at h
  first | (simp [h]; done) | (obtain ⟨⟩ := h; simp_all; done) | simp_all
@[simp] theorem c52_fn (a : List Int) (b : List Int) : c52.fn [.sl false 1 (.lit (.int .i64 0)) (ML dI a), .sl false 1 (.lit (.int .i64 0)) (ML dI b)] [] = some ((fun (a : List Int) (b : List Int) => a.length ≤ 1099511627776 ∧ b.length ≤ 1099511627776) a b, (fun (a : List Int) (b : List Int) => (dB (decide (a = b)) : D)) a b, (fun (a : List Int) (b : List Int) => []) a b) :=
  mkCon_fn (fun x y h _ => c52_inj x y h) ((a, b) : (List Int) × (List Int)) (by simp [nz, nz1, ML_nil, encLI]) rfl
@[simp] theorem c52_fn1 (s_a : Nat) (z_a : D) (b : List Int) : c52.fn [.sl false s_a z_a [], .sl false 1 (.lit (.int .i64 0)) (ML dI b)] [] = some ((fun (a : List Int) (b : List Int) => a.length ≤ 1099511627776 ∧ b.length ≤ 1099511627776) [] b, (fun (a : List Int) (b : List Int) => (dB (decide (a = b)) : D)) [] b, (fun (a : List Int) (b : List Int) => []) [] b) :=
  mkCon_fn (fun x y h _ => c52_inj x y h) (([], b) : (List Int) × (List Int)) (by simp [nz, nz1, ML_nil, encLI]) rfl
@[simp] theorem c52_fn2 (a : List Int) (s_b : Nat) (z_b : D) : c52.fn [.sl false 1 (.lit (.int .i64 0)) (ML dI a), .sl false s_b z_b []] [] = some ((fun (a : List Int) (b : List Int) => a.length ≤ 1099511627776 ∧ b.length ≤ 1099511627776) a [], (fun (a : List Int) (b : List Int) => (dB (decide (a = b)) : D)) a [], (fun (a : List Int) (b : List Int) => []) a []) :=
  mkCon_fn (fun x y h _ => c52_inj x y h) ((a, []) : (List Int) × (List Int)) (by simp [nz, nz1, ML_nil, encLI]) rfl
@[simp] theorem c52_fn3 (s_a : Nat) (z_a : D) (s_b : Nat) (z_b : D) : c52.fn [.sl false s_a z_a [], .sl false s_b z_b []] [] = some ((fun (a : List Int) (b : List Int) => a.length ≤ 1099511627776 ∧ b.length ≤ 1099511627776) [] [], (fun (a : List Int) (b : List Int) => (dB (decide (a = b)) : D)) [] [], (fun (a : List Int) (b : List Int) => []) [] []) :=
  mkCon_fn (fun x y h _ => c52_inj x y h) (([], []) : (List Int) × (List Int)) (by simp [nz, nz1, ML_nil, encLI]) rfl
theorem c52_pc (a : List Int) (b : List Int) (hpre : a.length ≤ 1099511627776 ∧ b.length ≤ 1099511627776) : PCo Try.prog 52 [encLI a, encLI b] (Tab.of []) (dB (decide (a = b))) (Tab.of []) := by
  refine pco_of_run [] (E := ⟨[], []⟩) (m := false) (base := 0) Env.ok_nil G_ok mix 300 6 Try.func52 (by kernel_rfl) rfl (by kernel_rfl) (by kernel_rfl) rfl ?_
  simp [Try.f52]
  obtain ⟨pre1, pre2⟩ := hpre
  refine ⟨fun h => ?_, fun h => by intro e; subst e; exact absurd rfl h⟩
  refine loop_inv (fun p : Nat => p ≤ a.length ∧ a.take p = b.take p) (fun p => [(0, encLI a), (1, encLI b), (5, dI p)]) (fun _ => []) 1 (fun p => a.length - p) 0 100 (by simp) (by simp) (by simp) ?_
  intro p ⟨hp, hi⟩
  simp
  refine ⟨fun hlt => ⟨by omega, fun h2 => ⟨by omega, Again.mk (p + 1) ⟨by omega, take_eq_step hi (by omega) (by omega) h2⟩ (by simp) (by first | omega | (simp; omega))⟩, fun h2 => by intro e; subst e; exact absurd rfl h2⟩, fun hge => ?_⟩
  exact take_eq_full hi (by omega) (by omega)
theorem c52_ok : c52.ok Try.prog := mkCon_ok fun ⟨a, b⟩ hpre => c52_pc a b hpre
/-- loop.example/g03007/laws.eqThingS -/
noncomputable def c53 : Con := mkCon 53 false (α := (List TThing) × (List TThing)) (fun x => (fun (a : List TThing) (b : List TThing) => [encLTThing a, encLTThing b]) x.1 x.2) (fun _ => []) (fun x => (fun (a : List TThing) (b : List TThing) => a.length ≤ 1099511627776 ∧ b.length ≤ 1099511627776) x.1 x.2) (fun x => (fun (a : List TThing) (b : List TThing) => (dB (decide (a = b)) : D)) x.1 x.2) (fun x => (fun (a : List TThing) (b : List TThing) => []) x.1 x.2)
@[simp] theorem c53_f : c53.f = 53 := rfl
@[simp] theorem c53_own : c53.own = false := rfl
theorem c53_inj : ∀ u_ v_ : (List TThing) × (List TThing), ((fun x => (fun (a : List TThing) (b : List TThing) => [encLTThing a, encLTThing b]) x.1 x.2) u_).map nz = ((fun x => (fun (a : List TThing) (b : List TThing) => [encLTThing a, encLTThing b]) x.1 x.2) v_).map nz → u_ = v_ := by
  intro u_ v_ h
  obtain ⟨a, b⟩ := u_
  obtain ⟨a', b'⟩ := v_
  simp [nz_lit, nz1_lit, nz_agg, nz_sl, nz1_sl, encLTThing] at h
  first | (simp [h]; done) | (obtain ⟨⟩ := h; simp_all; done) | simp_all
@[simp] theorem c53_fn (a : List TThing) (b : List TThing) : c53.fn [.sl false 5 yTThing (ML encTThing a), .sl false 5 yTThing (ML encTThing b)] [] = some ((fun (a : List TThing) (b : List TThing) => a.length ≤ 1099511627776 ∧ b.length ≤ 1099511627776) a b, (fun (a : List TThing) (b : List TThing) => (dB (decide (a = b)) : D)) a b, (fun (a : List TThing) (b : List TThing) => []) a b) :=
  mkCon_fn (fun x y h _ => c53_inj x y h) ((a, b) : (List TThing) × (List TThing)) (by simp [nz, nz1, ML_nil, encLTThing]) rfl
@[simp] theorem c53_fn1 (s_a : Nat) (z_a : D) (b : List TThing) : c53.fn [.sl false s_a z_a [], .sl false 5 yTThing (ML encTThing b)] [] = some ((fun (a : List TThing) (b : List TThing) => a.length ≤ 1099511627776 ∧ b.length ≤ 1099511627776) [] b, (fun (a : List TThing) (b : List TThing) => (dB (decide (a = b)) : D)) [] b, (fun (a : List TThing) (b : List TThing) => []) [] b) :=
  mkCon_fn (fun x y h _ => c53_inj x y h) (([], b) : (List TThing) × (List TThing)) (by simp [nz, nz1, ML_nil, encLTThing]) rfl
@[simp] theorem c53_fn2 (a : List TThing) (s_b : Nat) (z_b : D) : c53.fn [.sl false 5 yTThing (ML encTThing a), .sl false s_b z_b []] [] = some ((fun (a : List TThing) (b : List TThing) => a.length ≤ 1099511627776 ∧ b.length ≤ 1099511627776) a [], (fun (a : List TThing) (b : List TThing) => (dB (decide (a = b)) : D)) a [], (fun (a : List TThing) (b : List TThing) => []) a []) :=
  mkCon_fn (fun x y h _ => c53_inj x y h) ((a, []) : (List TThing) × (List TThing)) (by simp [nz, nz1, ML_nil, encLTThing]) rfl
@[simp] theorem c53_fn3 (s_a : Nat) (z_a : D) (s_b : Nat) (z_b : D) : c53.fn [.sl false s_a z_a [], .sl false s_b z_b []] [] = some ((fun (a : List TThing) (b : List TThing) => a.length ≤ 1099511627776 ∧ b.length ≤ 1099511627776) [] [], (fun (a : List TThing) (b : List TThing) => (dB (decide (a = b)) : D)) [] [], (fun (a : List TThing) (b : List TThing) => []) [] []) :=
  mkCon_fn (fun x y h _ => c53_inj x y h) (([], []) : (List TThing) × (List TThing)) (by simp [nz, nz1, ML_nil, encLTThing]) rfl
theorem c53_pc (a : List TThing) (b : List TThing) (hpre : a.length ≤ 1099511627776 ∧ b.length ≤ 1099511627776) : PCo Try.prog 53 [encLTThing a, encLTThing b] (Tab.of []) (dB (decide (a = b))) (Tab.of []) := by
  refine pco_of_run [] (E := ⟨[c156], []⟩) (m := false) (base := 0) (Env.ok_cons c156_ok Env.ok_nil) G_ok mix 300 6 Try.func53 (by kernel_rfl) rfl (by kernel_rfl) (by kernel_rfl) rfl ?_
  simp [Try.f53]
  obtain ⟨pre1, pre2⟩ := hpre
  refine ⟨fun h => ?_, fun h => by intro e; subst e; exact absurd rfl h⟩
  refine loop_inv (fun p : Nat => p ≤ a.length ∧ a.take p = b.take p) (fun p => [(0, encLTThing a), (1, encLTThing b), (5, dI p)]) (fun _ => []) 1 (fun p => a.length - p) 0 100 (by simp) (by simp) (by simp) ?_
  intro p ⟨hp, hi⟩
  simp
  refine ⟨fun hlt => ⟨by omega, fun h2 => ⟨by omega, Again.mk (p + 1) ⟨by omega, take_eq_step hi (by omega) (by omega) h2⟩ (by simp) (by first | omega | (simp; omega))⟩, fun h2 => by intro e; subst e; exact absurd rfl h2⟩, fun hge => ?_⟩
  exact take_eq_full hi (by omega) (by omega)
theorem c53_ok : c53.ok Try.prog := mkCon_ok fun ⟨a, b⟩ hpre => c53_pc a b hpre
abbrev mk_U : Int → Int := fun n => IntKind.wrap .u8 (n)
/-- loop.example/g03007/laws.markByteS -/
noncomputable def c28 : Con := mkCon 28 true (α := (List Int) × Int) (fun x => (fun (l : List Int) (k : Int) => ([.own (0, 0) 1 0 l.length, dI k] : List D)) x.1 x.2) (fun x => (fun (l : List Int) (k : Int) => ([((0, 0), .arr false 1 (.lit (.int .u8 0)) (ML dU l))] : List (Nm × OO))) x.1 x.2) (fun x => (fun (l : List Int) (k : Int) => l.length ≤ 1099511627776 ∧ 0 ≤ k ∧ k ≤ 1152921504606846976) x.1 x.2) (fun x => (fun (l : List Int) (k : Int) => (dI (k + 1 * l.length) : D)) x.1 x.2) (fun x => (fun (l : List Int) (k : Int) => ([((0, 0), .arr false 1 (.lit (.int .u8 0)) (ML dU (mkL mk_U 1 k l.length)))] : List (Nm × OO))) x.1 x.2)
@[simp] theorem c28_f : c28.f = 28 := rfl
@[simp] theorem c28_own : c28.own = true := rfl
theorem c28_inj : ∀ u_ v_ : (List Int) × Int, ((fun x => (fun (l : List Int) (k : Int) => ([.own (0, 0) 1 0 l.length, dI k] : List D)) x.1 x.2) u_).map nz = ((fun x => (fun (l : List Int) (k : Int) => ([.own (0, 0) 1 0 l.length, dI k] : List D)) x.1 x.2) v_).map nz → (fun x => (fun (l : List Int) (k : Int) => ([((0, 0), .arr false 1 (.lit (.int .u8 0)) (ML dU l))] : List (Nm × OO))) x.1 x.2) u_ = (fun x => (fun (l : List Int) (k : Int) => ([((0, 0), .arr false 1 (.lit (.int .u8 0)) (ML dU l))] : List (Nm × OO))) x.1 x.2) v_ → u_ = v_ := by
  intro u_ v_ h h2_
  obtain ⟨l, k⟩ := u_
  obtain ⟨l', k'⟩ := v_
  simp [nz_lit, nz1_lit, nz_agg, nz_sl, nz1_sl, nz_sx, nz_el, nz1_el, nz_own, nz1_own, nz_ptr, nz_fn, nz_iface] at h h2_
  first | (simp [h, h2_]; done) | (obtain ⟨h3_, h4_⟩ := List.append_inj h2_ h.1; simp_all; done) | simp_all | grind
@[simp] theorem c28_fn (l : List Int) (k : Int) : c28.fn ([.own (0, 0) 1 0 l.length, dI k]) ([((0, 0), .arr false 1 (.lit (.int .u8 0)) (ML dU l))]) = some (l.length ≤ 1099511627776 ∧ 0 ≤ k ∧ k ≤ 1152921504606846976, dI (k + 1 * l.length), [((0, 0), .arr false 1 (.lit (.int .u8 0)) (ML dU (mkL mk_U 1 k l.length)))]) :=
  mkCon_fn c28_inj ((l, k) : (List Int) × Int) rfl rfl
theorem c28_pc (l : List Int) (k : Int) (hpre : l.length ≤ 1099511627776 ∧ 0 ≤ k ∧ k ≤ 1152921504606846976) : PCo Try.prog 28 ([.own (0, 0) 1 0 l.length, dI k]) (Tab.of ([((0, 0), .arr false 1 (.lit (.int .u8 0)) (ML dU l))])) (dI (k + 1 * l.length)) (Tab.of ([((0, 0), .arr false 1 (.lit (.int .u8 0)) (ML dU (mkL mk_U 1 k l.length)))])) := by
  refine pco_of_run [] (E := ⟨[], []⟩) (m := false) (base := 0) Env.ok_nil G_ok mix 300 6 Try.func28 (by kernel_rfl) rfl (by kernel_rfl) (by kernel_rfl) rfl ?_
  simp [Try.f28]
  obtain ⟨pre1, pre2, pre3⟩ := hpre
  refine loop_inv (fun p : Nat => p ≤ l.length) (fun p => [(0, .own (0, 0) 1 0 l.length), (1, dI (k + 1 * p)), (5, dI p)]) (fun p => [((0, 0), .arr false 1 (.lit (.int .u8 0)) (ML dU (mkL mk_U 1 k p ++ l.drop p)))]) 2 (fun p => l.length - p) 0 100 (by simp) (by simp) (by simp) ?_
  intro p hp
  simp
  have hs : ∀ x, x = mk_U (k + 1 * (p : Int)) → p < l.length → mkL mk_U 1 k p ++ (l.drop p).set 0 x = mkL mk_U 1 k (p + 1) ++ l.drop (p + 1) := fun x hx hlt => mark_step0 hlt hx
  refine ⟨fun hlt => ?_, fun hge => ?_⟩
  · repeat' (first | omega | refine And.intro ?_ ?_ | intro _)
    all_goals refine Again.mk (p + 1) (by omega) ?_ (by first | omega | (simp; omega))
    all_goals (rw [hs _ (by simp) hlt]; simp; omega)
  have : p = l.length := by omega
  subst this
  simp
  trace_state
theorem c28_ok : c28.ok Try.prog := mkCon_ok fun ⟨l, k⟩ hpre => c28_pc l k hpre
abbrev mk_I : Int → Int := fun n => n
/-- loop.example/g03007/laws.markIntS -/
noncomputable def c56 : Con := mkCon 56 true (α := (List Int) × Int) (fun x => (fun (l : List Int) (k : Int) => ([.own (0, 0) 1 0 l.length, dI k] : List D)) x.1 x.2) (fun x => (fun (l : List Int) (k : Int) => ([((0, 0), .arr false 1 (.lit (.int .i64 0)) (ML dI l))] : List (Nm × OO))) x.1 x.2) (fun x => (fun (l : List Int) (k : Int) => l.length ≤ 1099511627776 ∧ 0 ≤ k ∧ k ≤ 1152921504606846976) x.1 x.2) (fun x => (fun (l : List Int) (k : Int) => (dI (k + 1 * l.length) : D)) x.1 x.2) (fun x => (fun (l : List Int) (k : Int) => ([((0, 0), .arr false 1 (.lit (.int .i64 0)) (ML dI (mkL mk_I 1 k l.length)))] : List (Nm × OO))) x.1 x.2)
@[simp] theorem c56_f : c56.f = 56 := rfl
@[simp] theorem c56_own : c56.own = true := rfl
theorem c56_inj : ∀ u_ v_ : (List Int) × Int, ((fun x => (fun (l : List Int) (k : Int) => ([.own (0, 0) 1 0 l.length, dI k] : List D)) x.1 x.2) u_).map nz = ((fun x => (fun (l : List Int) (k : Int) => ([.own (0, 0) 1 0 l.length, dI k] : List D)) x.1 x.2) v_).map nz → (fun x => (fun (l : List Int) (k : Int) => ([((0, 0), .arr false 1 (.lit (.int .i64 0)) (ML dI l))] : List (Nm × OO))) x.1 x.2) u_ = (fun x => (fun (l : List Int) (k : Int) => ([((0, 0), .arr false 1 (.lit (.int .i64 0)) (ML dI l))] : List (Nm × OO))) x.1 x.2) v_ → u_ = v_ := by
  intro u_ v_ h h2_
  obtain ⟨l, k⟩ := u_
  obtain ⟨l', k'⟩ := v_
  simp [nz_lit, nz1_lit, nz_agg, nz_sl, nz1_sl, nz_sx, nz_el, nz1_el, nz_own, nz1_own, nz_ptr, nz_fn, nz_iface] at h h2_
  first | (simp [h, h2_]; done) | (obtain ⟨h3_, h4_⟩ := List.append_inj h2_ h.1; simp_all; done) | simp_all | grind
@[simp] theorem c56_fn (l : List Int) (k : Int) : c56.fn ([.own (0, 0) 1 0 l.length, dI k]) ([((0, 0), .arr false 1 (.lit (.int .i64 0)) (ML dI l))]) = some (l.length ≤ 1099511627776 ∧ 0 ≤ k ∧ k ≤ 1152921504606846976, dI (k + 1 * l.length), [((0, 0), .arr false 1 (.lit (.int .i64 0)) (ML dI (mkL mk_I 1 k l.length)))]) :=
  mkCon_fn c56_inj ((l, k) : (List Int) × Int) rfl rfl
theorem c56_pc (l : List Int) (k : Int) (hpre : l.length ≤ 1099511627776 ∧ 0 ≤ k ∧ k ≤ 1152921504606846976) : PCo Try.prog 56 ([.own (0, 0) 1 0 l.length, dI k]) (Tab.of ([((0, 0), .arr false 1 (.lit (.int .i64 0)) (ML dI l))])) (dI (k + 1 * l.length)) (Tab.of ([((0, 0), .arr false 1 (.lit (.int .i64 0)) (ML dI (mkL mk_I 1 k l.length)))])) := by
  refine pco_of_run [] (E := ⟨[], []⟩) (m := false) (base := 0) Env.ok_nil G_ok mix 300 6 Try.func56 (by kernel_rfl) rfl (by kernel_rfl) (by kernel_rfl) rfl ?_
  simp [Try.f56]
  obtain ⟨pre1, pre2, pre3⟩ := hpre
  refine loop_inv (fun p : Nat => p ≤ l.length) (fun p => [(0, .own (0, 0) 1 0 l.length), (1, dI (k + 1 * p)), (5, dI p)]) (fun p => [((0, 0), .arr false 1 (.lit (.int .i64 0)) (ML dI (mkL mk_I 1 k p ++ l.drop p)))]) 2 (fun p => l.length - p) 0 100 (by simp) (by simp) (by simp) ?_
  intro p hp
  simp
  have hs : ∀ x, x = mk_I (k + 1 * (p : Int)) → p < l.length → mkL mk_I 1 k p ++ (l.drop p).set 0 x = mkL mk_I 1 k (p + 1) ++ l.drop (p + 1) := fun x hx hlt => mark_step0 hlt hx
  refine ⟨fun hlt => ?_, fun hge => ?_⟩
  · repeat' (first | omega | refine And.intro ?_ ?_ | intro _)
    all_goals refine Again.mk (p + 1) (by omega) ?_ (by first | omega | (simp; omega))
    all_goals (rw [hs _ (by simp) hlt]; simp; omega)
  have : p = l.length := by omega
  subst this
  simp
  trace_state
theorem c56_ok : c56.ok Try.prog := mkCon_ok fun ⟨l, k⟩ hpre => c56_pc l k hpre
/-- loop.example/g03007/laws.heldByteS -/
noncomputable def c29 : Con := mkCon 29 false (α := (List Int) × Int) (fun x => (fun (l : List Int) (k : Int) => [encLU l, dI k]) x.1 x.2) (fun _ => []) (fun x => (fun (l : List Int) (k : Int) => l.length ≤ 1099511627776 ∧ 0 ≤ k ∧ k ≤ 1152921504606846976) x.1 x.2) (fun x => (fun (l : List Int) (k : Int) => (dI (if l = mkL mk_U 1 k l.length then k + 1 * l.length else -1) : D)) x.1 x.2) (fun x => (fun (l : List Int) (k : Int) => []) x.1 x.2)
@[simp] theorem c29_f : c29.f = 29 := rfl
@[simp] theorem c29_own : c29.own = false := rfl
theorem c29_inj : ∀ u_ v_ : (List Int) × Int, ((fun x => (fun (l : List Int) (k : Int) => [encLU l, dI k]) x.1 x.2) u_).map nz = ((fun x => (fun (l : List Int) (k : Int) => [encLU l, dI k]) x.1 x.2) v_).map nz → u_ = v_ := by
  intro u_ v_ h
  obtain ⟨l, k⟩ := u_
  obtain ⟨l', k'⟩ := v_
  simp [nz_lit, nz1_lit, nz_agg, nz_sl, nz1_sl, encLU] at h
  first | (simp [h]; done) | (obtain ⟨⟩ := h; simp_all; done) | simp_all
@[simp] theorem c29_fn (l : List Int) (k : Int) : c29.fn [.sl false 1 (.lit (.int .u8 0)) (ML dU l), .lit (.int .i64 k)] [] = some ((fun (l : List Int) (k : Int) => l.length ≤ 1099511627776 ∧ 0 ≤ k ∧ k ≤ 1152921504606846976) l k, (fun (l : List Int) (k : Int) => (dI (if l = mkL mk_U 1 k l.length then k + 1 * l.length else -1) : D)) l k, (fun (l : List Int) (k : Int) => []) l k) :=
  mkCon_fn (fun x y h _ => c29_inj x y h) ((l, k) : (List Int) × Int) (by simp [nz, nz1, ML_nil, encLU]) rfl
@[simp] theorem c29_fn1 (s_l : Nat) (z_l : D) (k : Int) : c29.fn [.sl false s_l z_l [], .lit (.int .i64 k)] [] = some ((fun (l : List Int) (k : Int) => l.length ≤ 1099511627776 ∧ 0 ≤ k ∧ k ≤ 1152921504606846976) [] k, (fun (l : List Int) (k : Int) => (dI (if l = mkL mk_U 1 k l.length then k + 1 * l.length else -1) : D)) [] k, (fun (l : List Int) (k : Int) => []) [] k) :=
  mkCon_fn (fun x y h _ => c29_inj x y h) (([], k) : (List Int) × Int) (by simp [nz, nz1, ML_nil, encLU]) rfl
theorem c29_pc (l : List Int) (k : Int) (hpre : l.length ≤ 1099511627776 ∧ 0 ≤ k ∧ k ≤ 1152921504606846976) : PCo Try.prog 29 [encLU l, dI k] (Tab.of []) (dI (if l = mkL mk_U 1 k l.length then k + 1 * l.length else -1)) (Tab.of []) := by
  refine pco_of_run [] (E := ⟨[], []⟩) (m := false) (base := 0) Env.ok_nil G_ok mix 300 6 Try.func29 (by kernel_rfl) rfl (by kernel_rfl) (by kernel_rfl) rfl ?_
  simp [Try.f29]
  obtain ⟨pre1, pre2, pre3⟩ := hpre
  refine loop_inv (fun p : Nat => p ≤ l.length ∧ l.take p = (mkL mk_U 1 k l.length).take p) (fun p => [(0, encLU l), (1, dI (k + 1 * p)), (5, dI p)]) (fun _ => []) 1 (fun p => l.length - p) 0 100 (by simp) (by simp) (by simp) ?_
  intro p ⟨hp, hi⟩
  simp
  refine ⟨fun hlt => ⟨hlt, fun h2 => ⟨by omega, by omega, Again.mk (p + 1) ⟨by omega, take_eq_step hi (by omega) (by simp; omega) (h2.trans (by rw [mkL_get hlt]; simp))⟩ (by simp; omega) (by first | omega | (simp; omega))⟩, fun h2 h3 => absurd ?_ h2⟩, fun hge => ?_⟩
  · rw [h3, mkL_get hlt]; simp
  · have h4 := take_eq_full hi hge (by simp; omega)
    rw [if_pos h4]; omega
theorem c29_ok : c29.ok Try.prog := mkCon_ok fun ⟨l, k⟩ hpre => c29_pc l k hpre
/-- loop.example/g03007/laws.heldIntS -/
noncomputable def c58 : Con := mkCon 58 false (α := (List Int) × Int) (fun x => (fun (l : List Int) (k : Int) => [encLI l, dI k]) x.1 x.2) (fun _ => []) (fun x => (fun (l : List Int) (k : Int) => l.length ≤ 1099511627776 ∧ 0 ≤ k ∧ k ≤ 1152921504606846976) x.1 x.2) (fun x => (fun (l : List Int) (k : Int) => (dI (if l = mkL mk_I 1 k l.length then k + 1 * l.length else -1) : D)) x.1 x.2) (fun x => (fun (l : List Int) (k : Int) => []) x.1 x.2)
@[simp] theorem c58_f : c58.f = 58 := rfl
@[simp] theorem c58_own : c58.own = false := rfl
theorem c58_inj : ∀ u_ v_ : (List Int) × Int, ((fun x => (fun (l : List Int) (k : Int) => [encLI l, dI k]) x.1 x.2) u_).map nz = ((fun x => (fun (l : List Int) (k : Int) => [encLI l, dI k]) x.1 x.2) v_).map nz → u_ = v_ := by
  intro u_ v_ h
  obtain ⟨l, k⟩ := u_
  obtain ⟨l', k'⟩ := v_
  simp [nz_lit, nz1_lit, nz_agg, nz_sl, nz1_sl, encLI] at h
  first | (simp [h]; done) | (obtain ⟨⟩ := h; simp_all; done) | simp_all
@[simp] theorem c58_fn (l : List Int) (k : Int) : c58.fn [.sl false 1 (.lit (.int .i64 0)) (ML dI l), .lit (.int .i64 k)] [] = some ((fun (l : List Int) (k : Int) => l.length ≤ 1099511627776 ∧ 0 ≤ k ∧ k ≤ 1152921504606846976) l k, (fun (l : List Int) (k : Int) => (dI (if l = mkL mk_I 1 k l.length then k + 1 * l.length else -1) : D)) l k, (fun (l : List Int) (k : Int) => []) l k) :=
  mkCon_fn (fun x y h _ => c58_inj x y h) ((l, k) : (List Int) × Int) (by simp [nz, nz1, ML_nil, encLI]) rfl
@[simp] theorem c58_fn1 (s_l : Nat) (z_l : D) (k : Int) : c58.fn [.sl false s_l z_l [], .lit (.int .i64 k)] [] = some ((fun (l : List Int) (k : Int) => l.length ≤ 1099511627776 ∧ 0 ≤ k ∧ k ≤ 1152921504606846976) [] k, (fun (l : List Int) (k : Int) => (dI (if l = mkL mk_I 1 k l.length then k + 1 * l.length else -1) : D)) [] k, (fun (l : List Int) (k : Int) => []) [] k) :=
  mkCon_fn (fun x y h _ => c58_inj x y h) (([], k) : (List Int) × Int) (by simp [nz, nz1, ML_nil, encLI]) rfl
theorem c58_pc (l : List Int) (k : Int) (hpre : l.length ≤ 1099511627776 ∧ 0 ≤ k ∧ k ≤ 1152921504606846976) : PCo Try.prog 58 [encLI l, dI k] (Tab.of []) (dI (if l = mkL mk_I 1 k l.length then k + 1 * l.length else -1)) (Tab.of []) := by
  refine pco_of_run [] (E := ⟨[], []⟩) (m := false) (base := 0) Env.ok_nil G_ok mix 300 6 Try.func58 (by kernel_rfl) rfl (by kernel_rfl) (by kernel_rfl) rfl ?_
  simp [Try.f58]
  obtain ⟨pre1, pre2, pre3⟩ := hpre
  refine loop_inv (fun p : Nat => p ≤ l.length ∧ l.take p = (mkL mk_I 1 k l.length).take p) (fun p => [(0, encLI l), (1, dI (k + 1 * p)), (5, dI p)]) (fun _ => []) 1 (fun p => l.length - p) 0 100 (by simp) (by simp) (by simp) ?_
  intro p ⟨hp, hi⟩
  simp
  refine ⟨fun hlt => ⟨hlt, fun h2 => ⟨by omega, by omega, Again.mk (p + 1) ⟨by omega, take_eq_step hi (by omega) (by simp; omega) (h2.trans (by rw [mkL_get hlt]; simp))⟩ (by simp; omega) (by first | omega | (simp; omega))⟩, fun h2 h3 => absurd ?_ h2⟩, fun hge => ?_⟩
  · rw [h3, mkL_get hlt]; simp
  · have h4 := take_eq_full hi hge (by simp; omega)
    rw [if_pos h4]; omega
theorem c58_ok : c58.ok Try.prog := mkCon_ok fun ⟨l, k⟩ hpre => c58_pc l k hpre

end Go.Proofs.Ytmbgihklhmhilaa
