/- Contracts of the functions that the laws run. -/
import Derived.Test.Ytdccffbbkljkfaach04
import Derived.Test.YtdccffbbkljkfaaEngB
namespace Go.Proofs.Ytdccffbbkljkfaa
open Go Go.Eng
set_option linter.unusedSimpArgs false
set_option linter.unusedVariables false
set_option maxRecDepth 10000
/-- loop.example/g03007/laws.toByteS -/
noncomputable def c48 : Con := mkCon 48 false (α := (List Int)) (fun x => (fun (l : List Int) => [encLU l]) x) (fun _ => []) (fun x => (fun (l : List Int) => l.length ≤ 1099511627776) x) (fun x => (fun (l : List Int) => (.own (0, 1) 1 0 l.length : D)) x) (fun x => (fun (l : List Int) => [((0, 1), .arr false 1 (.lit (.int .u8 0)) (ML dU l))]) x)
@[simp] theorem c48_f : c48.f = 48 := rfl
@[simp] theorem c48_own : c48.own = false := rfl
theorem c48_inj : ∀ u_ v_ : (List Int), ((fun x => (fun (l : List Int) => [encLU l]) x) u_).map nz = ((fun x => (fun (l : List Int) => [encLU l]) x) v_).map nz → u_ = v_ := by
  intro u_ v_ h
  obtain l := u_
  obtain l' := v_
  simp [nz_lit, nz1_lit, nz_agg, nz_sl, nz1_sl, encLU] at h
  first | (simp [h]; done) | (obtain ⟨⟩ := h; simp_all; done) | simp_all
@[simp] theorem c48_fn (l : List Int) : c48.fn [.sl false 1 (.lit (.int .u8 0)) (ML dU l)] [] = some ((fun (l : List Int) => l.length ≤ 1099511627776) l, (fun (l : List Int) => (.own (0, 1) 1 0 l.length : D)) l, (fun (l : List Int) => [((0, 1), .arr false 1 (.lit (.int .u8 0)) (ML dU l))]) l) :=
  mkCon_fn (fun x y h _ => c48_inj x y h) (l : (List Int)) (by simp [nz, nz1, ML_nil, encLU]) rfl
@[simp] theorem c48_fn1 (s_l : Nat) (z_l : D) : c48.fn [.sl false s_l z_l []] [] = some ((fun (l : List Int) => l.length ≤ 1099511627776) [], (fun (l : List Int) => (.own (0, 1) 1 0 l.length : D)) [], (fun (l : List Int) => [((0, 1), .arr false 1 (.lit (.int .u8 0)) (ML dU l))]) []) :=
  mkCon_fn (fun x y h _ => c48_inj x y h) ([] : (List Int)) (by simp [nz, nz1, ML_nil, encLU]) rfl
theorem c48_pc (l : List Int) (hpre : l.length ≤ 1099511627776) : PCo Try.prog 48 [encLU l] (Tab.of []) (.own (0, 1) 1 0 l.length) (Tab.of [((0, 1), .arr false 1 (.lit (.int .u8 0)) (ML dU l))]) := by
  refine pco_of_run [] (E := ⟨[], []⟩) (m := false) (base := 0) Env.ok_nil G_ok mix 300 6 Try.func48 (by kernel_rfl) rfl (by kernel_rfl) (by kernel_rfl) rfl ?_
  simp [Try.f48]
  refine ⟨by omega, ?_⟩
  refine loop_inv (fun p : Nat => p ≤ l.length) (fun p => [(0, encLU l), (3, .own (0, 1) 1 0 l.length), (4, dI p)]) (fun p => [((0, 1), .arr false 1 (.lit (.int .u8 0)) (ML dU (l.take p ++ List.replicate (l.length - p) 0)))]) 2 (fun p => l.length - p) 0 100 (by simp) (by simp) (by simp) ?_
  intro p hp
  simp
  refine ⟨fun hlt => ⟨by omega, by omega, Again.mk (p + 1) (by omega) (by simp [fill_step hlt]) (by first | omega | (simp; omega))⟩, fun hge => ?_⟩
  have : p = l.length := by omega
  subst this
  simp
theorem c48_ok : c48.ok Try.prog := mkCon_ok fun l hpre => c48_pc l hpre
/-- loop.example/g03007/laws.toIntS -/
noncomputable def c60 : Con := mkCon 60 false (α := (List Int)) (fun x => (fun (l : List Int) => [encLI l]) x) (fun _ => []) (fun x => (fun (l : List Int) => l.length ≤ 1099511627776) x) (fun x => (fun (l : List Int) => (.own (0, 1) 1 0 l.length : D)) x) (fun x => (fun (l : List Int) => [((0, 1), .arr false 1 (.lit (.int .i64 0)) (ML dI l))]) x)
@[simp] theorem c60_f : c60.f = 60 := rfl
@[simp] theorem c60_own : c60.own = false := rfl
theorem c60_inj : ∀ u_ v_ : (List Int), ((fun x => (fun (l : List Int) => [encLI l]) x) u_).map nz = ((fun x => (fun (l : List Int) => [encLI l]) x) v_).map nz → u_ = v_ := by
  intro u_ v_ h
  obtain l := u_
  obtain l' := v_
  simp [nz_lit, nz1_lit, nz_agg, nz_sl, nz1_sl, encLI] at h
  first | (simp [h]; done) | (obtain ⟨⟩ := h; simp_all; done) | simp_all
@[simp] theorem c60_fn (l : List Int) : c60.fn [.sl false 1 (.lit (.int .i64 0)) (ML dI l)] [] = some ((fun (l : List Int) => l.length ≤ 1099511627776) l, (fun (l : List Int) => (.own (0, 1) 1 0 l.length : D)) l, (fun (l : List Int) => [((0, 1), .arr false 1 (.lit (.int .i64 0)) (ML dI l))]) l) :=
  mkCon_fn (fun x y h _ => c60_inj x y h) (l : (List Int)) (by simp [nz, nz1, ML_nil, encLI]) rfl
@[simp] theorem c60_fn1 (s_l : Nat) (z_l : D) : c60.fn [.sl false s_l z_l []] [] = some ((fun (l : List Int) => l.length ≤ 1099511627776) [], (fun (l : List Int) => (.own (0, 1) 1 0 l.length : D)) [], (fun (l : List Int) => [((0, 1), .arr false 1 (.lit (.int .i64 0)) (ML dI l))]) []) :=
  mkCon_fn (fun x y h _ => c60_inj x y h) ([] : (List Int)) (by simp [nz, nz1, ML_nil, encLI]) rfl
theorem c60_pc (l : List Int) (hpre : l.length ≤ 1099511627776) : PCo Try.prog 60 [encLI l] (Tab.of []) (.own (0, 1) 1 0 l.length) (Tab.of [((0, 1), .arr false 1 (.lit (.int .i64 0)) (ML dI l))]) := by
  refine pco_of_run [] (E := ⟨[], []⟩) (m := false) (base := 0) Env.ok_nil G_ok mix 300 6 Try.func60 (by kernel_rfl) rfl (by kernel_rfl) (by kernel_rfl) rfl ?_
  simp [Try.f60]
  refine ⟨by omega, ?_⟩
  refine loop_inv (fun p : Nat => p ≤ l.length) (fun p => [(0, encLI l), (3, .own (0, 1) 1 0 l.length), (4, dI p)]) (fun p => [((0, 1), .arr false 1 (.lit (.int .i64 0)) (ML dI (l.take p ++ List.replicate (l.length - p) 0)))]) 2 (fun p => l.length - p) 0 100 (by simp) (by simp) (by simp) ?_
  intro p hp
  simp
  refine ⟨fun hlt => ⟨by omega, by omega, Again.mk (p + 1) (by omega) (by simp [fill_step hlt]) (by first | omega | (simp; omega))⟩, fun hge => ?_⟩
  have : p = l.length := by omega
  subst this
  simp
theorem c60_ok : c60.ok Try.prog := mkCon_ok fun l hpre => c60_pc l hpre
/-- loop.example/g03007/laws.toThingS -/
noncomputable def c96 : Con := mkCon 96 false (α := (List TThing)) (fun x => (fun (l : List TThing) => [encLTThing l]) x) (fun _ => []) (fun x => (fun (l : List TThing) => l.length ≤ 1099511627776) x) (fun x => (fun (l : List TThing) => (.own (0, 1) 5 0 l.length : D)) x) (fun x => (fun (l : List TThing) => [((0, 1), .arr false 5 yTThing (ML encTThing l))]) x)
@[simp] theorem c96_f : c96.f = 96 := rfl
@[simp] theorem c96_own : c96.own = false := rfl
theorem c96_inj : ∀ u_ v_ : (List TThing), ((fun x => (fun (l : List TThing) => [encLTThing l]) x) u_).map nz = ((fun x => (fun (l : List TThing) => [encLTThing l]) x) v_).map nz → u_ = v_ := by
  intro u_ v_ h
  obtain l := u_
  obtain l' := v_
  simp [nz_lit, nz1_lit, nz_agg, nz_sl, nz1_sl, encLTThing] at h
  first | (simp [h]; done) | (obtain ⟨⟩ := h; simp_all; done) | simp_all
@[simp] theorem c96_fn (l : List TThing) : c96.fn [.sl false 5 yTThing (ML encTThing l)] [] = some ((fun (l : List TThing) => l.length ≤ 1099511627776) l, (fun (l : List TThing) => (.own (0, 1) 5 0 l.length : D)) l, (fun (l : List TThing) => [((0, 1), .arr false 5 yTThing (ML encTThing l))]) l) :=
  mkCon_fn (fun x y h _ => c96_inj x y h) (l : (List TThing)) (by simp [nz, nz1, ML_nil, encLTThing]) rfl
@[simp] theorem c96_fn1 (s_l : Nat) (z_l : D) : c96.fn [.sl false s_l z_l []] [] = some ((fun (l : List TThing) => l.length ≤ 1099511627776) [], (fun (l : List TThing) => (.own (0, 1) 5 0 l.length : D)) [], (fun (l : List TThing) => [((0, 1), .arr false 5 yTThing (ML encTThing l))]) []) :=
  mkCon_fn (fun x y h _ => c96_inj x y h) ([] : (List TThing)) (by simp [nz, nz1, ML_nil, encLTThing]) rfl
theorem c96_pc (l : List TThing) (hpre : l.length ≤ 1099511627776) : PCo Try.prog 96 [encLTThing l] (Tab.of []) (.own (0, 1) 5 0 l.length) (Tab.of [((0, 1), .arr false 5 yTThing (ML encTThing l))]) := by
  refine pco_of_run [] (E := ⟨[c86], []⟩) (m := false) (base := 0) (Env.ok_cons c86_ok Env.ok_nil) G_ok mix 300 6 Try.func96 (by kernel_rfl) rfl (by kernel_rfl) (by kernel_rfl) rfl ?_
  simp [Try.f96]
  refine ⟨by omega, ?_⟩
  refine loop_inv (fun p : Nat => p ≤ l.length) (fun p => [(0, encLTThing l), (3, .own (0, 1) 5 0 l.length), (4, dI p)]) (fun p => [((0, 1), .arr false 5 yTThing (ML encTThing (l.take p ++ List.replicate (l.length - p) ⟨0, 0, 0, 0, 0⟩)))]) 2 (fun p => l.length - p) 0 100 (by simp) (by simp) (by simp) ?_
  intro p hp
  simp
  refine ⟨fun hlt => ⟨by omega, by omega, Again.mk (p + 1) (by omega) (by simp [fill_step hlt]) (by first | omega | (simp; omega))⟩, fun hge => ?_⟩
  have : p = l.length := by omega
  subst this
  simp
theorem c96_ok : c96.ok Try.prog := mkCon_ok fun l hpre => c96_pc l hpre
/-- loop.example/g03007/laws.eqByteS -/
noncomputable def c50 : Con := mkCon 50 false (α := (List Int) × (List Int)) (fun x => (fun (a : List Int) (b : List Int) => [encLU a, encLU b]) x.1 x.2) (fun _ => []) (fun x => (fun (a : List Int) (b : List Int) => a.length ≤ 1099511627776 ∧ b.length ≤ 1099511627776) x.1 x.2) (fun x => (fun (a : List Int) (b : List Int) => (dB (decide (a = b)) : D)) x.1 x.2) (fun x => (fun (a : List Int) (b : List Int) => []) x.1 x.2)
@[simp] theorem c50_f : c50.f = 50 := rfl
@[simp] theorem c50_own : c50.own = false := rfl
theorem c50_inj : ∀ u_ v_ : (List Int) × (List Int), ((fun x => (fun (a : List Int) (b : List Int) => [encLU a, encLU b]) x.1 x.2) u_).map nz = ((fun x => (fun (a : List Int) (b : List Int) => [encLU a, encLU b]) x.1 x.2) v_).map nz → u_ = v_ := by
  intro u_ v_ h
  obtain ⟨a, b⟩ := u_
  obtain ⟨a', b'⟩ := v_
  simp [nz_lit, nz1_lit, nz_agg, nz_sl, nz1_sl, encLU] at h
  first | (simp [h]; done) | (obtain ⟨⟩ := h; simp_all; done) | simp_all
@[simp] theorem c50_fn (a : List Int) (b : List Int) : c50.fn [.sl false 1 (.lit (.int .u8 0)) (ML dU a), .sl false 1 (.lit (.int .u8 0)) (ML dU b)] [] = some ((fun (a : List Int) (b : List Int) => a.length ≤ 1099511627776 ∧ b.length ≤ 1099511627776) a b, (fun (a : List Int) (b : List Int) => (dB (decide (a = b)) : D)) a b, (fun (a : List Int) (b : List Int) => []) a b) :=
  mkCon_fn (fun x y h _ => c50_inj x y h) ((a, b) : (List Int) × (List Int)) (by simp [nz, nz1, ML_nil, encLU]) rfl
@[simp] theorem c50_fn1 (s_a : Nat) (z_a : D) (b : List Int) : c50.fn [.sl false s_a z_a [], .sl false 1 (.lit (.int .u8 0)) (ML dU b)] [] = some ((fun (a : List Int) (b : List Int) => a.length ≤ 1099511627776 ∧ b.length ≤ 1099511627776) [] b, (fun (a : List Int) (b : List Int) => (dB (decide (a = b)) : D)) [] b, (fun (a : List Int) (b : List Int) => []) [] b) :=
  mkCon_fn (fun x y h _ => c50_inj x y h) (([], b) : (List Int) × (List Int)) (by simp [nz, nz1, ML_nil, encLU]) rfl
@[simp] theorem c50_fn2 (a : List Int) (s_b : Nat) (z_b : D) : c50.fn [.sl false 1 (.lit (.int .u8 0)) (ML dU a), .sl false s_b z_b []] [] = some ((fun (a : List Int) (b : List Int) => a.length ≤ 1099511627776 ∧ b.length ≤ 1099511627776) a [], (fun (a : List Int) (b : List Int) => (dB (decide (a = b)) : D)) a [], (fun (a : List Int) (b : List Int) => []) a []) :=
  mkCon_fn (fun x y h _ => c50_inj x y h) ((a, []) : (List Int) × (List Int)) (by simp [nz, nz1, ML_nil, encLU]) rfl
@[simp] theorem c50_fn3 (s_a : Nat) (z_a : D) (s_b : Nat) (z_b : D) : c50.fn [.sl false s_a z_a [], .sl false s_b z_b []] [] = some ((fun (a : List Int) (b : List Int) => a.length ≤ 1099511627776 ∧ b.length ≤ 1099511627776) [] [], (fun (a : List Int) (b : List Int) => (dB (decide (a = b)) : D)) [] [], (fun (a : List Int) (b : List Int) => []) [] []) :=
  mkCon_fn (fun x y h _ => c50_inj x y h) (([], []) : (List Int) × (List Int)) (by simp [nz, nz1, ML_nil, encLU]) rfl
theorem c50_pc (a : List Int) (b : List Int) (hpre : a.length ≤ 1099511627776 ∧ b.length ≤ 1099511627776) : PCo Try.prog 50 [encLU a, encLU b] (Tab.of []) (dB (decide (a = b))) (Tab.of []) := by
  refine pco_of_run [] (E := ⟨[], []⟩) (m := false) (base := 0) Env.ok_nil G_ok mix 300 6 Try.func50 (by kernel_rfl) rfl (by kernel_rfl) (by kernel_rfl) rfl ?_
  simp [Try.f50]
  obtain ⟨pre1, pre2⟩ := hpre
  refine ⟨fun h => ?_, fun h => by intro e; subst e; exact absurd rfl h⟩
  refine loop_inv (fun p : Nat => p ≤ a.length ∧ a.take p = b.take p) (fun p => [(0, encLU a), (1, encLU b), (5, dI p)]) (fun _ => []) 1 (fun p => a.length - p) 0 100 (by simp) (by simp) (by simp) ?_
  intro p ⟨hp, hi⟩
  simp
  refine ⟨fun hlt => ⟨by omega, fun h2 => ⟨by omega, Again.mk (p + 1) ⟨by omega, take_eq_step hi (by omega) (by omega) h2⟩ (by simp) (by first | omega | (simp; omega))⟩, fun h2 => by intro e; subst e; exact absurd rfl h2⟩, fun hge => ?_⟩
  exact take_eq_full hi (by omega) (by omega)
theorem c50_ok : c50.ok Try.prog := mkCon_ok fun ⟨a, b⟩ hpre => c50_pc a b hpre
/-- loop.example/g03007/laws.eqIntS -/
noncomputable def c62 : Con := mkCon 62 false (α := (List Int) × (List Int)) (fun x => (fun (a : List Int) (b : List Int) => [encLI a, encLI b]) x.1 x.2) (fun _ => []) (fun x => (fun (a : List Int) (b : List Int) => a.length ≤ 1099511627776 ∧ b.length ≤ 1099511627776) x.1 x.2) (fun x => (fun (a : List Int) (b : List Int) => (dB (decide (a = b)) : D)) x.1 x.2) (fun x => (fun (a : List Int) (b : List Int) => []) x.1 x.2)
@[simp] theorem c62_f : c62.f = 62 := rfl
@[simp] theorem c62_own : c62.own = false := rfl
theorem c62_inj : ∀ u_ v_ : (List Int) × (List Int), ((fun x => (fun (a : List Int) (b : List Int) => [encLI a, encLI b]) x.1 x.2) u_).map nz = ((fun x => (fun (a : List Int) (b : List Int) => [encLI a, encLI b]) x.1 x.2) v_).map nz → u_ = v_ := by
  intro u_ v_ h
  obtain ⟨a, b⟩ := u_
  obtain ⟨a', b'⟩ := v_
  simp [nz_lit, nz1_lit, nz_agg, nz_sl, nz1_sl, encLI] at h
  first | (simp [h]; done) | (obtain ⟨⟩ := h; simp_all; done) | simp_all
@[simp] theorem c62_fn (a : List Int) (b : List Int) : c62.fn [.sl false 1 (.lit (.int .i64 0)) (ML dI a), .sl false 1 (.lit (.int .i64 0)) (ML dI b)] [] = some ((fun (a : List Int) (b : List Int) => a.length ≤ 1099511627776 ∧ b.length ≤ 1099511627776) a b, (fun (a : List Int) (b : List Int) => (dB (decide (a = b)) : D)) a b, (fun (a : List Int) (b : List Int) => []) a b) :=
  mkCon_fn (fun x y h _ => c62_inj x y h) ((a, b) : (List Int) × (List Int)) (by simp [nz, nz1, ML_nil, encLI]) rfl
@[simp] theorem c62_fn1 (s_a : Nat) (z_a : D) (b : List Int) : c62.fn [.sl false s_a z_a [], .sl false 1 (.lit (.int .i64 0)) (ML dI b)] [] = some ((fun (a : List Int) (b : List Int) => a.length ≤ 1099511627776 ∧ b.length ≤ 1099511627776) [] b, (fun (a : List Int) (b : List Int) => (dB (decide (a = b)) : D)) [] b, (fun (a : List Int) (b : List Int) => []) [] b) :=
  mkCon_fn (fun x y h _ => c62_inj x y h) (([], b) : (List Int) × (List Int)) (by simp [nz, nz1, ML_nil, encLI]) rfl
@[simp] theorem c62_fn2 (a : List Int) (s_b : Nat) (z_b : D) : c62.fn [.sl false 1 (.lit (.int .i64 0)) (ML dI a), .sl false s_b z_b []] [] = some ((fun (a : List Int) (b : List Int) => a.length ≤ 1099511627776 ∧ b.length ≤ 1099511627776) a [], (fun (a : List Int) (b : List Int) => (dB (decide (a = b)) : D)) a [], (fun (a : List Int) (b : List Int) => []) a []) :=
  mkCon_fn (fun x y h _ => c62_inj x y h) ((a, []) : (List Int) × (List Int)) (by simp [nz, nz1, ML_nil, encLI]) rfl
@[simp] theorem c62_fn3 (s_a : Nat) (z_a : D) (s_b : Nat) (z_b : D) : c62.fn [.sl false s_a z_a [], .sl false s_b z_b []] [] = some ((fun (a : List Int) (b : List Int) => a.length ≤ 1099511627776 ∧ b.length ≤ 1099511627776) [] [], (fun (a : List Int) (b : List Int) => (dB (decide (a = b)) : D)) [] [], (fun (a : List Int) (b : List Int) => []) [] []) :=
  mkCon_fn (fun x y h _ => c62_inj x y h) (([], []) : (List Int) × (List Int)) (by simp [nz, nz1, ML_nil, encLI]) rfl
theorem c62_pc (a : List Int) (b : List Int) (hpre : a.length ≤ 1099511627776 ∧ b.length ≤ 1099511627776) : PCo Try.prog 62 [encLI a, encLI b] (Tab.of []) (dB (decide (a = b))) (Tab.of []) := by
  refine pco_of_run [] (E := ⟨[], []⟩) (m := false) (base := 0) Env.ok_nil G_ok mix 300 6 Try.func62 (by kernel_rfl) rfl (by kernel_rfl) (by kernel_rfl) rfl ?_
  simp [Try.f62]
  obtain ⟨pre1, pre2⟩ := hpre
  refine ⟨fun h => ?_, fun h => by intro e; subst e; exact absurd rfl h⟩
  refine loop_inv (fun p : Nat => p ≤ a.length ∧ a.take p = b.take p) (fun p => [(0, encLI a), (1, encLI b), (5, dI p)]) (fun _ => []) 1 (fun p => a.length - p) 0 100 (by simp) (by simp) (by simp) ?_
  intro p ⟨hp, hi⟩
  simp
  refine ⟨fun hlt => ⟨by omega, fun h2 => ⟨by omega, Again.mk (p + 1) ⟨by omega, take_eq_step hi (by omega) (by omega) h2⟩ (by simp) (by first | omega | (simp; omega))⟩, fun h2 => by intro e; subst e; exact absurd rfl h2⟩, fun hge => ?_⟩
  exact take_eq_full hi (by omega) (by omega)
theorem c62_ok : c62.ok Try.prog := mkCon_ok fun ⟨a, b⟩ hpre => c62_pc a b hpre
/-- loop.example/g03007/laws.eqThingS -/
noncomputable def c98 : Con := mkCon 98 false (α := (List TThing) × (List TThing)) (fun x => (fun (a : List TThing) (b : List TThing) => [encLTThing a, encLTThing b]) x.1 x.2) (fun _ => []) (fun x => (fun (a : List TThing) (b : List TThing) => a.length ≤ 1099511627776 ∧ b.length ≤ 1099511627776) x.1 x.2) (fun x => (fun (a : List TThing) (b : List TThing) => (dB (decide (a = b)) : D)) x.1 x.2) (fun x => (fun (a : List TThing) (b : List TThing) => []) x.1 x.2)
@[simp] theorem c98_f : c98.f = 98 := rfl
@[simp] theorem c98_own : c98.own = false := rfl
theorem c98_inj : ∀ u_ v_ : (List TThing) × (List TThing), ((fun x => (fun (a : List TThing) (b : List TThing) => [encLTThing a, encLTThing b]) x.1 x.2) u_).map nz = ((fun x => (fun (a : List TThing) (b : List TThing) => [encLTThing a, encLTThing b]) x.1 x.2) v_).map nz → u_ = v_ := by
  intro u_ v_ h
  obtain ⟨a, b⟩ := u_
  obtain ⟨a', b'⟩ := v_
  simp [nz_lit, nz1_lit, nz_agg, nz_sl, nz1_sl, encLTThing] at h
  first | (simp [h]; done) | (obtain ⟨⟩ := h; simp_all; done) | simp_all
@[simp] theorem c98_fn (a : List TThing) (b : List TThing) : c98.fn [.sl false 5 yTThing (ML encTThing a), .sl false 5 yTThing (ML encTThing b)] [] = some ((fun (a : List TThing) (b : List TThing) => a.length ≤ 1099511627776 ∧ b.length ≤ 1099511627776) a b, (fun (a : List TThing) (b : List TThing) => (dB (decide (a = b)) : D)) a b, (fun (a : List TThing) (b : List TThing) => []) a b) :=
  mkCon_fn (fun x y h _ => c98_inj x y h) ((a, b) : (List TThing) × (List TThing)) (by simp [nz, nz1, ML_nil, encLTThing]) rfl
@[simp] theorem c98_fn1 (s_a : Nat) (z_a : D) (b : List TThing) : c98.fn [.sl false s_a z_a [], .sl false 5 yTThing (ML encTThing b)] [] = some ((fun (a : List TThing) (b : List TThing) => a.length ≤ 1099511627776 ∧ b.length ≤ 1099511627776) [] b, (fun (a : List TThing) (b : List TThing) => (dB (decide (a = b)) : D)) [] b, (fun (a : List TThing) (b : List TThing) => []) [] b) :=
  mkCon_fn (fun x y h _ => c98_inj x y h) (([], b) : (List TThing) × (List TThing)) (by simp [nz, nz1, ML_nil, encLTThing]) rfl
@[simp] theorem c98_fn2 (a : List TThing) (s_b : Nat) (z_b : D) : c98.fn [.sl false 5 yTThing (ML encTThing a), .sl false s_b z_b []] [] = some ((fun (a : List TThing) (b : List TThing) => a.length ≤ 1099511627776 ∧ b.length ≤ 1099511627776) a [], (fun (a : List TThing) (b : List TThing) => (dB (decide (a = b)) : D)) a [], (fun (a : List TThing) (b : List TThing) => []) a []) :=
  mkCon_fn (fun x y h _ => c98_inj x y h) ((a, []) : (List TThing) × (List TThing)) (by simp [nz, nz1, ML_nil, encLTThing]) rfl
@[simp] theorem c98_fn3 (s_a : Nat) (z_a : D) (s_b : Nat) (z_b : D) : c98.fn [.sl false s_a z_a [], .sl false s_b z_b []] [] = some ((fun (a : List TThing) (b : List TThing) => a.length ≤ 1099511627776 ∧ b.length ≤ 1099511627776) [] [], (fun (a : List TThing) (b : List TThing) => (dB (decide (a = b)) : D)) [] [], (fun (a : List TThing) (b : List TThing) => []) [] []) :=
  mkCon_fn (fun x y h _ => c98_inj x y h) (([], []) : (List TThing) × (List TThing)) (by simp [nz, nz1, ML_nil, encLTThing]) rfl
theorem c98_pc (a : List TThing) (b : List TThing) (hpre : a.length ≤ 1099511627776 ∧ b.length ≤ 1099511627776) : PCo Try.prog 98 [encLTThing a, encLTThing b] (Tab.of []) (dB (decide (a = b))) (Tab.of []) := by
  refine pco_of_run [] (E := ⟨[c128], []⟩) (m := false) (base := 0) (Env.ok_cons c128_ok Env.ok_nil) G_ok mix 300 6 Try.func98 (by kernel_rfl) rfl (by kernel_rfl) (by kernel_rfl) rfl ?_
  simp [Try.f98]
  obtain ⟨pre1, pre2⟩ := hpre
  refine ⟨fun h => ?_, fun h => by intro e; subst e; exact absurd rfl h⟩
  refine loop_inv (fun p : Nat => p ≤ a.length ∧ a.take p = b.take p) (fun p => [(0, encLTThing a), (1, encLTThing b), (5, dI p)]) (fun _ => []) 1 (fun p => a.length - p) 0 100 (by simp) (by simp) (by simp) ?_
  intro p ⟨hp, hi⟩
  simp
  refine ⟨fun hlt => ⟨by omega, fun h2 => ⟨by omega, Again.mk (p + 1) ⟨by omega, take_eq_step hi (by omega) (by omega) h2⟩ (by simp) (by first | omega | (simp; omega))⟩, fun h2 => by intro e; subst e; exact absurd rfl h2⟩, fun hge => ?_⟩
  exact take_eq_full hi (by omega) (by omega)
theorem c98_ok : c98.ok Try.prog := mkCon_ok fun ⟨a, b⟩ hpre => c98_pc a b hpre
abbrev mk_U : Int → Int := fun n => IntKind.wrap .u8 (n)
/-- loop.example/g03007/laws.markByteS -/
noncomputable def c51 : Con := mkCon 51 true (α := (List Int) × Int) (fun x => (fun (l : List Int) (k : Int) => ([.own (0, 0) 1 0 l.length, dI k] : List D)) x.1 x.2) (fun x => (fun (l : List Int) (k : Int) => ([((0, 0), .arr false 1 (.lit (.int .u8 0)) (ML dU l))] : List (Nm × OO))) x.1 x.2) (fun x => (fun (l : List Int) (k : Int) => l.length ≤ 1099511627776 ∧ 0 ≤ k ∧ k ≤ 1152921504606846976) x.1 x.2) (fun x => (fun (l : List Int) (k : Int) => (dI (k + 1 * l.length) : D)) x.1 x.2) (fun x => (fun (l : List Int) (k : Int) => ([((0, 0), .arr false 1 (.lit (.int .u8 0)) (ML dU (mkL mk_U 1 k l.length)))] : List (Nm × OO))) x.1 x.2)
@[simp] theorem c51_f : c51.f = 51 := rfl
@[simp] theorem c51_own : c51.own = true := rfl
theorem c51_inj : ∀ u_ v_ : (List Int) × Int, ((fun x => (fun (l : List Int) (k : Int) => ([.own (0, 0) 1 0 l.length, dI k] : List D)) x.1 x.2) u_).map nz = ((fun x => (fun (l : List Int) (k : Int) => ([.own (0, 0) 1 0 l.length, dI k] : List D)) x.1 x.2) v_).map nz → (fun x => (fun (l : List Int) (k : Int) => ([((0, 0), .arr false 1 (.lit (.int .u8 0)) (ML dU l))] : List (Nm × OO))) x.1 x.2) u_ = (fun x => (fun (l : List Int) (k : Int) => ([((0, 0), .arr false 1 (.lit (.int .u8 0)) (ML dU l))] : List (Nm × OO))) x.1 x.2) v_ → u_ = v_ := by
  intro u_ v_ h h2_
  obtain ⟨l, k⟩ := u_
  obtain ⟨l', k'⟩ := v_
  simp [nz_lit, nz1_lit, nz_agg, nz_sl, nz1_sl, nz_sx, nz_el, nz1_el, nz_own, nz1_own, nz_ptr, nz_fn, nz_iface] at h h2_
  first | (simp [h, h2_]; done) | simp_all | grind
@[simp] theorem c51_fn (l : List Int) (k : Int) : c51.fn ([.own (0, 0) 1 0 l.length, dI k]) ([((0, 0), .arr false 1 (.lit (.int .u8 0)) (ML dU l))]) = some (l.length ≤ 1099511627776 ∧ 0 ≤ k ∧ k ≤ 1152921504606846976, dI (k + 1 * l.length), [((0, 0), .arr false 1 (.lit (.int .u8 0)) (ML dU (mkL mk_U 1 k l.length)))]) :=
  mkCon_fn c51_inj ((l, k) : (List Int) × Int) rfl rfl
theorem c51_pc (l : List Int) (k : Int) (hpre : l.length ≤ 1099511627776 ∧ 0 ≤ k ∧ k ≤ 1152921504606846976) : PCo Try.prog 51 ([.own (0, 0) 1 0 l.length, dI k]) (Tab.of ([((0, 0), .arr false 1 (.lit (.int .u8 0)) (ML dU l))])) (dI (k + 1 * l.length)) (Tab.of ([((0, 0), .arr false 1 (.lit (.int .u8 0)) (ML dU (mkL mk_U 1 k l.length)))])) := by
  refine pco_of_run [] (E := ⟨[], []⟩) (m := false) (base := 0) Env.ok_nil G_ok mix 300 6 Try.func51 (by kernel_rfl) rfl (by kernel_rfl) (by kernel_rfl) rfl ?_
  simp [Try.f51]
  obtain ⟨pre1, pre2, pre3⟩ := hpre
  refine loop_inv (fun p : Nat => p ≤ l.length) (fun p => [(0, .own (0, 0) 1 0 l.length), (1, dI (k + 1 * p)), (5, dI p)]) (fun p => [((0, 0), .arr false 1 (.lit (.int .u8 0)) (ML dU (mkL mk_U 1 k p ++ l.drop p)))]) 2 (fun p => l.length - p) 0 100 (by simp) (by simp) (by simp) ?_
  intro p hp
  simp
  have hs : ∀ x, x = mk_U (k + 1 * (p : Int)) → p < l.length → mkL mk_U 1 k p ++ (l.drop p).set 0 x = mkL mk_U 1 k (p + 1) ++ l.drop (p + 1) := fun x hx hlt => mark_step0 hlt hx
  refine ⟨fun hlt => ⟨by omega, by omega, by omega, Again.mk (p + 1) (by omega) (by rw [hs _ (by simp) hlt]; simp; omega) (by first | omega | (simp; omega))⟩, fun hge => ?_⟩
  have : p = l.length := by omega
  subst this
  simp
  trace_state
theorem c51_ok : c51.ok Try.prog := mkCon_ok fun ⟨l, k⟩ hpre => c51_pc l k hpre
abbrev mk_I : Int → Int := fun n => n
/-- loop.example/g03007/laws.markIntS -/
noncomputable def c63 : Con := mkCon 63 true (α := (List Int) × Int) (fun x => (fun (l : List Int) (k : Int) => ([.own (0, 0) 1 0 l.length, dI k] : List D)) x.1 x.2) (fun x => (fun (l : List Int) (k : Int) => ([((0, 0), .arr false 1 (.lit (.int .i64 0)) (ML dI l))] : List (Nm × OO))) x.1 x.2) (fun x => (fun (l : List Int) (k : Int) => l.length ≤ 1099511627776 ∧ 0 ≤ k ∧ k ≤ 1152921504606846976) x.1 x.2) (fun x => (fun (l : List Int) (k : Int) => (dI (k + 1 * l.length) : D)) x.1 x.2) (fun x => (fun (l : List Int) (k : Int) => ([((0, 0), .arr false 1 (.lit (.int .i64 0)) (ML dI (mkL mk_I 1 k l.length)))] : List (Nm × OO))) x.1 x.2)
@[simp] theorem c63_f : c63.f = 63 := rfl
@[simp] theorem c63_own : c63.own = true := rfl
theorem c63_inj : ∀ u_ v_ : (List Int) × Int, ((fun x => (fun (l : List Int) (k : Int) => ([.own (0, 0) 1 0 l.length, dI k] : List D)) x.1 x.2) u_).map nz = ((fun x => (fun (l : List Int) (k : Int) => ([.own (0, 0) 1 0 l.length, dI k] : List D)) x.1 x.2) v_).map nz → (fun x => (fun (l : List Int) (k : Int) => ([((0, 0), .arr false 1 (.lit (.int .i64 0)) (ML dI l))] : List (Nm × OO))) x.1 x.2) u_ = (fun x => (fun (l : List Int) (k : Int) => ([((0, 0), .arr false 1 (.lit (.int .i64 0)) (ML dI l))] : List (Nm × OO))) x.1 x.2) v_ → u_ = v_ := by
  intro u_ v_ h h2_
  obtain ⟨l, k⟩ := u_
  obtain ⟨l', k'⟩ := v_
  simp [nz_lit, nz1_lit, nz_agg, nz_sl, nz1_sl, nz_sx, nz_el, nz1_el, nz_own, nz1_own, nz_ptr, nz_fn, nz_iface] at h h2_
  first | (simp [h, h2_]; done) | simp_all | grind
@[simp] theorem c63_fn (l : List Int) (k : Int) : c63.fn ([.own (0, 0) 1 0 l.length, dI k]) ([((0, 0), .arr false 1 (.lit (.int .i64 0)) (ML dI l))]) = some (l.length ≤ 1099511627776 ∧ 0 ≤ k ∧ k ≤ 1152921504606846976, dI (k + 1 * l.length), [((0, 0), .arr false 1 (.lit (.int .i64 0)) (ML dI (mkL mk_I 1 k l.length)))]) :=
  mkCon_fn c63_inj ((l, k) : (List Int) × Int) rfl rfl
theorem c63_pc (l : List Int) (k : Int) (hpre : l.length ≤ 1099511627776 ∧ 0 ≤ k ∧ k ≤ 1152921504606846976) : PCo Try.prog 63 ([.own (0, 0) 1 0 l.length, dI k]) (Tab.of ([((0, 0), .arr false 1 (.lit (.int .i64 0)) (ML dI l))])) (dI (k + 1 * l.length)) (Tab.of ([((0, 0), .arr false 1 (.lit (.int .i64 0)) (ML dI (mkL mk_I 1 k l.length)))])) := by
  refine pco_of_run [] (E := ⟨[], []⟩) (m := false) (base := 0) Env.ok_nil G_ok mix 300 6 Try.func63 (by kernel_rfl) rfl (by kernel_rfl) (by kernel_rfl) rfl ?_
  simp [Try.f63]
  obtain ⟨pre1, pre2, pre3⟩ := hpre
  refine loop_inv (fun p : Nat => p ≤ l.length) (fun p => [(0, .own (0, 0) 1 0 l.length), (1, dI (k + 1 * p)), (5, dI p)]) (fun p => [((0, 0), .arr false 1 (.lit (.int .i64 0)) (ML dI (mkL mk_I 1 k p ++ l.drop p)))]) 2 (fun p => l.length - p) 0 100 (by simp) (by simp) (by simp) ?_
  intro p hp
  simp
  have hs : ∀ x, x = mk_I (k + 1 * (p : Int)) → p < l.length → mkL mk_I 1 k p ++ (l.drop p).set 0 x = mkL mk_I 1 k (p + 1) ++ l.drop (p + 1) := fun x hx hlt => mark_step0 hlt hx
  refine ⟨fun hlt => ⟨by omega, by omega, by omega, Again.mk (p + 1) (by omega) (by rw [hs _ (by simp) hlt]; simp; omega) (by first | omega | (simp; omega))⟩, fun hge => ?_⟩
  have : p = l.length := by omega
  subst this
  simp
  trace_state
theorem c63_ok : c63.ok Try.prog := mkCon_ok fun ⟨l, k⟩ hpre => c63_pc l k hpre
/-- loop.example/g03007/laws.heldByteS -/
noncomputable def c52 : Con := mkCon 52 false (α := (List Int) × Int) (fun x => (fun (l : List Int) (k : Int) => [encLU l, dI k]) x.1 x.2) (fun _ => []) (fun x => (fun (l : List Int) (k : Int) => l.length ≤ 1099511627776 ∧ 0 ≤ k ∧ k ≤ 1152921504606846976) x.1 x.2) (fun x => (fun (l : List Int) (k : Int) => (dI (if l = mkL mk_U 1 k l.length then k + 1 * l.length else -1) : D)) x.1 x.2) (fun x => (fun (l : List Int) (k : Int) => []) x.1 x.2)
@[simp] theorem c52_f : c52.f = 52 := rfl
@[simp] theorem c52_own : c52.own = false := rfl
theorem c52_inj : ∀ u_ v_ : (List Int) × Int, ((fun x => (fun (l : List Int) (k : Int) => [encLU l, dI k]) x.1 x.2) u_).map nz = ((fun x => (fun (l : List Int) (k : Int) => [encLU l, dI k]) x.1 x.2) v_).map nz → u_ = v_ := by
  intro u_ v_ h
  obtain ⟨l, k⟩ := u_
  obtain ⟨l', k'⟩ := v_
  simp [nz_lit, nz1_lit, nz_agg, nz_sl, nz1_sl, encLU] at h
  first | (simp [h]; done) | (obtain ⟨⟩ := h; simp_all; done) | simp_all
@[simp] theorem c52_fn (l : List Int) (k : Int) : c52.fn [.sl false 1 (.lit (.int .u8 0)) (ML dU l), .lit (.int .i64 k)] [] = some ((fun (l : List Int) (k : Int) => l.length ≤ 1099511627776 ∧ 0 ≤ k ∧ k ≤ 1152921504606846976) l k, (fun (l : List Int) (k : Int) => (dI (if l = mkL mk_U 1 k l.length then k + 1 * l.length else -1) : D)) l k, (fun (l : List Int) (k : Int) => []) l k) :=
  mkCon_fn (fun x y h _ => c52_inj x y h) ((l, k) : (List Int) × Int) (by simp [nz, nz1, ML_nil, encLU]) rfl
@[simp] theorem c52_fn1 (s_l : Nat) (z_l : D) (k : Int) : c52.fn [.sl false s_l z_l [], .lit (.int .i64 k)] [] = some ((fun (l : List Int) (k : Int) => l.length ≤ 1099511627776 ∧ 0 ≤ k ∧ k ≤ 1152921504606846976) [] k, (fun (l : List Int) (k : Int) => (dI (if l = mkL mk_U 1 k l.length then k + 1 * l.length else -1) : D)) [] k, (fun (l : List Int) (k : Int) => []) [] k) :=
  mkCon_fn (fun x y h _ => c52_inj x y h) (([], k) : (List Int) × Int) (by simp [nz, nz1, ML_nil, encLU]) rfl
theorem c52_pc (l : List Int) (k : Int) (hpre : l.length ≤ 1099511627776 ∧ 0 ≤ k ∧ k ≤ 1152921504606846976) : PCo Try.prog 52 [encLU l, dI k] (Tab.of []) (dI (if l = mkL mk_U 1 k l.length then k + 1 * l.length else -1)) (Tab.of []) := by
  refine pco_of_run [] (E := ⟨[], []⟩) (m := false) (base := 0) Env.ok_nil G_ok mix 300 6 Try.func52 (by kernel_rfl) rfl (by kernel_rfl) (by kernel_rfl) rfl ?_
  simp [Try.f52]
  obtain ⟨pre1, pre2, pre3⟩ := hpre
  refine loop_inv (fun p : Nat => p ≤ l.length ∧ l.take p = (mkL mk_U 1 k l.length).take p) (fun p => [(0, encLU l), (1, dI (k + 1 * p)), (5, dI p)]) (fun _ => []) 1 (fun p => l.length - p) 0 100 (by simp) (by simp) (by simp) ?_
  intro p ⟨hp, hi⟩
  simp
  refine ⟨fun hlt => ⟨hlt, fun h2 => ⟨by omega, by omega, Again.mk (p + 1) ⟨by omega, take_eq_step hi (by omega) (by simp; omega) (h2.trans (by rw [mkL_get hlt]; simp))⟩ (by simp; omega) (by first | omega | (simp; omega))⟩, fun h2 h3 => absurd ?_ h2⟩, fun hge => ?_⟩
  · rw [h3, mkL_get hlt]; simp
  · have h4 := take_eq_full hi hge (by simp; omega)
    rw [if_pos h4]; omega
theorem c52_ok : c52.ok Try.prog := mkCon_ok fun ⟨l, k⟩ hpre => c52_pc l k hpre
/-- loop.example/g03007/laws.heldIntS -/
noncomputable def c66 : Con := mkCon 66 false (α := (List Int) × Int) (fun x => (fun (l : List Int) (k : Int) => [encLI l, dI k]) x.1 x.2) (fun _ => []) (fun x => (fun (l : List Int) (k : Int) => l.length ≤ 1099511627776 ∧ 0 ≤ k ∧ k ≤ 1152921504606846976) x.1 x.2) (fun x => (fun (l : List Int) (k : Int) => (dI (if l = mkL mk_I 1 k l.length then k + 1 * l.length else -1) : D)) x.1 x.2) (fun x => (fun (l : List Int) (k : Int) => []) x.1 x.2)
@[simp] theorem c66_f : c66.f = 66 := rfl
@[simp] theorem c66_own : c66.own = false := rfl
theorem c66_inj : ∀ u_ v_ : (List Int) × Int, ((fun x => (fun (l : List Int) (k : Int) => [encLI l, dI k]) x.1 x.2) u_).map nz = ((fun x => (fun (l : List Int) (k : Int) => [encLI l, dI k]) x.1 x.2) v_).map nz → u_ = v_ := by
  intro u_ v_ h
  obtain ⟨l, k⟩ := u_
  obtain ⟨l', k'⟩ := v_
  simp [nz_lit, nz1_lit, nz_agg, nz_sl, nz1_sl, encLI] at h
  first | (simp [h]; done) | (obtain ⟨⟩ := h; simp_all; done) | simp_all
@[simp] theorem c66_fn (l : List Int) (k : Int) : c66.fn [.sl false 1 (.lit (.int .i64 0)) (ML dI l), .lit (.int .i64 k)] [] = some ((fun (l : List Int) (k : Int) => l.length ≤ 1099511627776 ∧ 0 ≤ k ∧ k ≤ 1152921504606846976) l k, (fun (l : List Int) (k : Int) => (dI (if l = mkL mk_I 1 k l.length then k + 1 * l.length else -1) : D)) l k, (fun (l : List Int) (k : Int) => []) l k) :=
  mkCon_fn (fun x y h _ => c66_inj x y h) ((l, k) : (List Int) × Int) (by simp [nz, nz1, ML_nil, encLI]) rfl
@[simp] theorem c66_fn1 (s_l : Nat) (z_l : D) (k : Int) : c66.fn [.sl false s_l z_l [], .lit (.int .i64 k)] [] = some ((fun (l : List Int) (k : Int) => l.length ≤ 1099511627776 ∧ 0 ≤ k ∧ k ≤ 1152921504606846976) [] k, (fun (l : List Int) (k : Int) => (dI (if l = mkL mk_I 1 k l.length then k + 1 * l.length else -1) : D)) [] k, (fun (l : List Int) (k : Int) => []) [] k) :=
  mkCon_fn (fun x y h _ => c66_inj x y h) (([], k) : (List Int) × Int) (by simp [nz, nz1, ML_nil, encLI]) rfl
theorem c66_pc (l : List Int) (k : Int) (hpre : l.length ≤ 1099511627776 ∧ 0 ≤ k ∧ k ≤ 1152921504606846976) : PCo Try.prog 66 [encLI l, dI k] (Tab.of []) (dI (if l = mkL mk_I 1 k l.length then k + 1 * l.length else -1)) (Tab.of []) := by
  refine pco_of_run [] (E := ⟨[], []⟩) (m := false) (base := 0) Env.ok_nil G_ok mix 300 6 Try.func66 (by kernel_rfl) rfl (by kernel_rfl) (by kernel_rfl) rfl ?_
  simp [Try.f66]
  obtain ⟨pre1, pre2, pre3⟩ := hpre
  refine loop_inv (fun p : Nat => p ≤ l.length ∧ l.take p = (mkL mk_I 1 k l.length).take p) (fun p => [(0, encLI l), (1, dI (k + 1 * p)), (5, dI p)]) (fun _ => []) 1 (fun p => l.length - p) 0 100 (by simp) (by simp) (by simp) ?_
  intro p ⟨hp, hi⟩
  simp
  refine ⟨fun hlt => ⟨hlt, fun h2 => ⟨by omega, by omega, Again.mk (p + 1) ⟨by omega, take_eq_step hi (by omega) (by simp; omega) (h2.trans (by rw [mkL_get hlt]; simp))⟩ (by simp; omega) (by first | omega | (simp; omega))⟩, fun h2 h3 => absurd ?_ h2⟩, fun hge => ?_⟩
  · rw [h3, mkL_get hlt]; simp
  · have h4 := take_eq_full hi hge (by simp; omega)
    rw [if_pos h4]; omega
theorem c66_ok : c66.ok Try.prog := mkCon_ok fun ⟨l, k⟩ hpre => c66_pc l k hpre

end Go.Proofs.Ytdccffbbkljkfaa
