/- Contracts of the functions that the laws run. -/
import Derived.Test.Ytnnieeojfdjcoaach04
import Derived.Test.YtnnieeojfdjcoaaEngB
namespace Go.Proofs.Ytnnieeojfdjcoaa
open Go Go.Eng
set_option linter.unusedSimpArgs false
set_option linter.unusedVariables false
set_option maxRecDepth 10000
set_option maxHeartbeats 1000000
/-- loop.example/g03007/laws.toIntS -/
noncomputable def c63 : Con := mkCon 63 false (α := (List Int)) (fun x => (fun (l : List Int) => [encLI l]) x) (fun _ => []) (fun x => (fun (l : List Int) => l.length ≤ 1099511627776) x) (fun x => (fun (l : List Int) => (.own (0, 1) 1 0 l.length : D)) x) (fun x => (fun (l : List Int) => [((0, 1), .arr false 1 (.lit (.int .i64 0)) (ML dI l))]) x)
@[simp] theorem c63_f : c63.f = 63 := rfl
@[simp] theorem c63_own : c63.own = false := rfl
theorem c63_inj : ∀ u_ v_ : (List Int), ((fun x => (fun (l : List Int) => [encLI l]) x) u_).map nz = ((fun x => (fun (l : List Int) => [encLI l]) x) v_).map nz → u_ = v_ := by
  intro u_ v_ h
  obtain l := u_
  obtain l' := v_
  simp [nz_lit, nz1_lit, nz_agg, nz_sl, nz1_sl, encLI] at h
  first | (simp [h]; done) | (obtain ⟨⟩ := h; simp_all; done) | simp_all
@[simp] theorem c63_fn (l : List Int) : c63.fn [.sl false 1 (.lit (.int .i64 0)) (ML dI l)] [] = some ((fun (l : List Int) => l.length ≤ 1099511627776) l, (fun (l : List Int) => (.own (0, 1) 1 0 l.length : D)) l, (fun (l : List Int) => [((0, 1), .arr false 1 (.lit (.int .i64 0)) (ML dI l))]) l) :=
  mkCon_fn (fun x y h _ => c63_inj x y h) (l : (List Int)) (by simp [nz, nz1, ML_nil, encLI]) rfl
@[simp] theorem c63_fn1 (s_l : Nat) (z_l : D) : c63.fn [.sl false s_l z_l []] [] = some ((fun (l : List Int) => l.length ≤ 1099511627776) [], (fun (l : List Int) => (.own (0, 1) 1 0 l.length : D)) [], (fun (l : List Int) => [((0, 1), .arr false 1 (.lit (.int .i64 0)) (ML dI l))]) []) :=
  mkCon_fn (fun x y h _ => c63_inj x y h) ([] : (List Int)) (by simp [nz, nz1, ML_nil, encLI]) rfl
theorem c63_pc (l : List Int) (hpre : l.length ≤ 1099511627776) : PCo Try.prog 63 [encLI l] (Tab.of []) (.own (0, 1) 1 0 l.length) (Tab.of [((0, 1), .arr false 1 (.lit (.int .i64 0)) (ML dI l))]) := by
  refine pco_of_run [] (E := ⟨[], []⟩) (m := false) (base := 0) Env.ok_nil G_ok mix 300 6 Try.func63 (by kernel_rfl) rfl (by kernel_rfl) (by kernel_rfl) rfl ?_
  simp [Try.f63]
  refine ⟨by omega, ?_⟩
  refine loop_inv (fun p : Nat => p ≤ l.length) (fun p => [(0, encLI l), (3, .own (0, 1) 1 0 l.length), (4, dI p)]) (fun p => [((0, 1), .arr false 1 (.lit (.int .i64 0)) (ML dI (l.take p ++ List.replicate (l.length - p) 0)))]) 2 (fun p => l.length - p) 0 100 (by simp) (by simp) (by first | (simp; done) | (simp; simp only [ML, List.map_replicate]; rfl)) ?_
  intro p hp
  simp
  refine ⟨fun hlt => ⟨by omega, by omega, Again.mk (p + 1) (by omega) (by simp [fill_step hlt]) (by first | omega | (simp; omega))⟩, fun hge => ?_⟩
  have : p = l.length := by omega
  subst this
  simp
theorem c63_ok : c63.ok Try.prog := mkCon_ok fun l hpre => c63_pc l hpre
/-- loop.example/g03007/laws.toThingS -/
noncomputable def c106 : Con := mkCon 106 false (α := (List TThing)) (fun x => (fun (l : List TThing) => [encLTThing l]) x) (fun _ => []) (fun x => (fun (l : List TThing) => l.length ≤ 1099511627776) x) (fun x => (fun (l : List TThing) => (.own (0, 1) 5 0 l.length : D)) x) (fun x => (fun (l : List TThing) => [((0, 1), .arr false 5 yTThing (ML encTThing l))]) x)
@[simp] theorem c106_f : c106.f = 106 := rfl
@[simp] theorem c106_own : c106.own = false := rfl
theorem c106_inj : ∀ u_ v_ : (List TThing), ((fun x => (fun (l : List TThing) => [encLTThing l]) x) u_).map nz = ((fun x => (fun (l : List TThing) => [encLTThing l]) x) v_).map nz → u_ = v_ := by
  intro u_ v_ h
  obtain l := u_
  obtain l' := v_
  simp [nz_lit, nz1_lit, nz_agg, nz_sl, nz1_sl, encLTThing] at h
  first | (simp [h]; done) | (obtain ⟨⟩ := h; simp_all; done) | simp_all
@[simp] theorem c106_fn (l : List TThing) : c106.fn [.sl false 5 yTThing (ML encTThing l)] [] = some ((fun (l : List TThing) => l.length ≤ 1099511627776) l, (fun (l : List TThing) => (.own (0, 1) 5 0 l.length : D)) l, (fun (l : List TThing) => [((0, 1), .arr false 5 yTThing (ML encTThing l))]) l) :=
  mkCon_fn (fun x y h _ => c106_inj x y h) (l : (List TThing)) (by simp [nz, nz1, ML_nil, encLTThing]) rfl
@[simp] theorem c106_fn1 (s_l : Nat) (z_l : D) : c106.fn [.sl false s_l z_l []] [] = some ((fun (l : List TThing) => l.length ≤ 1099511627776) [], (fun (l : List TThing) => (.own (0, 1) 5 0 l.length : D)) [], (fun (l : List TThing) => [((0, 1), .arr false 5 yTThing (ML encTThing l))]) []) :=
  mkCon_fn (fun x y h _ => c106_inj x y h) ([] : (List TThing)) (by simp [nz, nz1, ML_nil, encLTThing]) rfl
theorem c106_pc (l : List TThing) (hpre : l.length ≤ 1099511627776) : PCo Try.prog 106 [encLTThing l] (Tab.of []) (.own (0, 1) 5 0 l.length) (Tab.of [((0, 1), .arr false 5 yTThing (ML encTThing l))]) := by
  refine pco_of_run [] (E := ⟨[c96], []⟩) (m := false) (base := 0) (Env.ok_cons c96_ok Env.ok_nil) G_ok mix 300 6 Try.func106 (by kernel_rfl) rfl (by kernel_rfl) (by kernel_rfl) rfl ?_
  simp [Try.f106]
  refine ⟨by omega, ?_⟩
  refine loop_inv (fun p : Nat => p ≤ l.length) (fun p => [(0, encLTThing l), (3, .own (0, 1) 5 0 l.length), (4, dI p)]) (fun p => [((0, 1), .arr false 5 yTThing (ML encTThing (l.take p ++ List.replicate (l.length - p) ⟨0, 0, 0, 0, 0⟩)))]) 2 (fun p => l.length - p) 0 100 (by simp) (by simp) (by first | (simp; done) | (simp; simp only [ML, List.map_replicate]; rfl)) ?_
  intro p hp
  simp
  refine ⟨fun hlt => ⟨by omega, by omega, Again.mk (p + 1) (by omega) (by simp [fill_step hlt]) (by first | omega | (simp; omega))⟩, fun hge => ?_⟩
  have : p = l.length := by omega
  subst this
  simp
theorem c106_ok : c106.ok Try.prog := mkCon_ok fun l hpre => c106_pc l hpre
/-- loop.example/g03007/laws.eqIntS -/
noncomputable def c65 : Con := mkCon 65 false (α := (List Int) × (List Int)) (fun x => (fun (a : List Int) (b : List Int) => [encLI a, encLI b]) x.1 x.2) (fun _ => []) (fun x => (fun (a : List Int) (b : List Int) => a.length ≤ 1099511627776 ∧ b.length ≤ 1099511627776) x.1 x.2) (fun x => (fun (a : List Int) (b : List Int) => (dB (decide (a = b)) : D)) x.1 x.2) (fun x => (fun (a : List Int) (b : List Int) => []) x.1 x.2)
@[simp] theorem c65_f : c65.f = 65 := rfl
@[simp] theorem c65_own : c65.own = false := rfl
theorem c65_inj : ∀ u_ v_ : (List Int) × (List Int), ((fun x => (fun (a : List Int) (b : List Int) => [encLI a, encLI b]) x.1 x.2) u_).map nz = ((fun x => (fun (a : List Int) (b : List Int) => [encLI a, encLI b]) x.1 x.2) v_).map nz → u_ = v_ := by
  intro u_ v_ h
  obtain ⟨a, b⟩ := u_
  obtain ⟨a', b'⟩ := v_
  simp [nz_lit, nz1_lit, nz_agg, nz_sl, nz1_sl, encLI] at h
  first | (simp [h]; done) | (obtain ⟨⟩ := h; simp_all; done) | simp_all
@[simp] theorem c65_fn (a : List Int) (b : List Int) : c65.fn [.sl false 1 (.lit (.int .i64 0)) (ML dI a), .sl false 1 (.lit (.int .i64 0)) (ML dI b)] [] = some ((fun (a : List Int) (b : List Int) => a.length ≤ 1099511627776 ∧ b.length ≤ 1099511627776) a b, (fun (a : List Int) (b : List Int) => (dB (decide (a = b)) : D)) a b, (fun (a : List Int) (b : List Int) => []) a b) :=
  mkCon_fn (fun x y h _ => c65_inj x y h) ((a, b) : (List Int) × (List Int)) (by simp [nz, nz1, ML_nil, encLI]) rfl
@[simp] theorem c65_fn1 (s_a : Nat) (z_a : D) (b : List Int) : c65.fn [.sl false s_a z_a [], .sl false 1 (.lit (.int .i64 0)) (ML dI b)] [] = some ((fun (a : List Int) (b : List Int) => a.length ≤ 1099511627776 ∧ b.length ≤ 1099511627776) [] b, (fun (a : List Int) (b : List Int) => (dB (decide (a = b)) : D)) [] b, (fun (a : List Int) (b : List Int) => []) [] b) :=
  mkCon_fn (fun x y h _ => c65_inj x y h) (([], b) : (List Int) × (List Int)) (by simp [nz, nz1, ML_nil, encLI]) rfl
@[simp] theorem c65_fn2 (a : List Int) (s_b : Nat) (z_b : D) : c65.fn [.sl false 1 (.lit (.int .i64 0)) (ML dI a), .sl false s_b z_b []] [] = some ((fun (a : List Int) (b : List Int) => a.length ≤ 1099511627776 ∧ b.length ≤ 1099511627776) a [], (fun (a : List Int) (b : List Int) => (dB (decide (a = b)) : D)) a [], (fun (a : List Int) (b : List Int) => []) a []) :=
  mkCon_fn (fun x y h _ => c65_inj x y h) ((a, []) : (List Int) × (List Int)) (by simp [nz, nz1, ML_nil, encLI]) rfl
@[simp] theorem c65_fn3 (s_a : Nat) (z_a : D) (s_b : Nat) (z_b : D) : c65.fn [.sl false s_a z_a [], .sl false s_b z_b []] [] = some ((fun (a : List Int) (b : List Int) => a.length ≤ 1099511627776 ∧ b.length ≤ 1099511627776) [] [], (fun (a : List Int) (b : List Int) => (dB (decide (a = b)) : D)) [] [], (fun (a : List Int) (b : List Int) => []) [] []) :=
  mkCon_fn (fun x y h _ => c65_inj x y h) (([], []) : (List Int) × (List Int)) (by simp [nz, nz1, ML_nil, encLI]) rfl
theorem c65_pc (a : List Int) (b : List Int) (hpre : a.length ≤ 1099511627776 ∧ b.length ≤ 1099511627776) : PCo Try.prog 65 [encLI a, encLI b] (Tab.of []) (dB (decide (a = b))) (Tab.of []) := by
  refine pco_of_run [] (E := ⟨[], []⟩) (m := false) (base := 0) Env.ok_nil G_ok mix 300 6 Try.func65 (by kernel_rfl) rfl (by kernel_rfl) (by kernel_rfl) rfl ?_
  simp [Try.f65]
  obtain ⟨pre1, pre2⟩ := hpre
  refine ⟨fun h => ?_, fun h => by intro e; subst e; exact absurd rfl h⟩
  refine loop_inv (fun p : Nat => p ≤ a.length ∧ a.take p = b.take p) (fun p => [(0, encLI a), (1, encLI b), (5, dI p)]) (fun _ => []) 1 (fun p => a.length - p) 0 100 (by simp) (by simp) (by simp) ?_
  intro p ⟨hp, hi⟩
  simp
  refine ⟨fun hlt => ⟨by omega, fun h2 => ⟨by omega, Again.mk (p + 1) ⟨by omega, take_eq_step hi (by omega) (by omega) h2⟩ (by simp) (by first | omega | (simp; omega))⟩, fun h2 => by intro e; subst e; exact absurd rfl h2⟩, fun hge => ?_⟩
  exact take_eq_full hi (by omega) (by omega)
theorem c65_ok : c65.ok Try.prog := mkCon_ok fun ⟨a, b⟩ hpre => c65_pc a b hpre
/-- loop.example/g03007/laws.eqThingS -/
noncomputable def c108 : Con := mkCon 108 false (α := (List TThing) × (List TThing)) (fun x => (fun (a : List TThing) (b : List TThing) => [encLTThing a, encLTThing b]) x.1 x.2) (fun _ => []) (fun x => (fun (a : List TThing) (b : List TThing) => a.length ≤ 1099511627776 ∧ b.length ≤ 1099511627776) x.1 x.2) (fun x => (fun (a : List TThing) (b : List TThing) => (dB (decide (a = b)) : D)) x.1 x.2) (fun x => (fun (a : List TThing) (b : List TThing) => []) x.1 x.2)
@[simp] theorem c108_f : c108.f = 108 := rfl
@[simp] theorem c108_own : c108.own = false := rfl
theorem c108_inj : ∀ u_ v_ : (List TThing) × (List TThing), ((fun x => (fun (a : List TThing) (b : List TThing) => [encLTThing a, encLTThing b]) x.1 x.2) u_).map nz = ((fun x => (fun (a : List TThing) (b : List TThing) => [encLTThing a, encLTThing b]) x.1 x.2) v_).map nz → u_ = v_ := by
  intro u_ v_ h
  obtain ⟨a, b⟩ := u_
  obtain ⟨a', b'⟩ := v_
  simp [nz_lit, nz1_lit, nz_agg, nz_sl, nz1_sl, encLTThing] at h
  first | (simp [h]; done) | (obtain ⟨⟩ := h; simp_all; done) | simp_all
@[simp] theorem c108_fn (a : List TThing) (b : List TThing) : c108.fn [.sl false 5 yTThing (ML encTThing a), .sl false 5 yTThing (ML encTThing b)] [] = some ((fun (a : List TThing) (b : List TThing) => a.length ≤ 1099511627776 ∧ b.length ≤ 1099511627776) a b, (fun (a : List TThing) (b : List TThing) => (dB (decide (a = b)) : D)) a b, (fun (a : List TThing) (b : List TThing) => []) a b) :=
  mkCon_fn (fun x y h _ => c108_inj x y h) ((a, b) : (List TThing) × (List TThing)) (by simp [nz, nz1, ML_nil, encLTThing]) rfl
@[simp] theorem c108_fn1 (s_a : Nat) (z_a : D) (b : List TThing) : c108.fn [.sl false s_a z_a [], .sl false 5 yTThing (ML encTThing b)] [] = some ((fun (a : List TThing) (b : List TThing) => a.length ≤ 1099511627776 ∧ b.length ≤ 1099511627776) [] b, (fun (a : List TThing) (b : List TThing) => (dB (decide (a = b)) : D)) [] b, (fun (a : List TThing) (b : List TThing) => []) [] b) :=
  mkCon_fn (fun x y h _ => c108_inj x y h) (([], b) : (List TThing) × (List TThing)) (by simp [nz, nz1, ML_nil, encLTThing]) rfl
@[simp] theorem c108_fn2 (a : List TThing) (s_b : Nat) (z_b : D) : c108.fn [.sl false 5 yTThing (ML encTThing a), .sl false s_b z_b []] [] = some ((fun (a : List TThing) (b : List TThing) => a.length ≤ 1099511627776 ∧ b.length ≤ 1099511627776) a [], (fun (a : List TThing) (b : List TThing) => (dB (decide (a = b)) : D)) a [], (fun (a : List TThing) (b : List TThing) => []) a []) :=
  mkCon_fn (fun x y h _ => c108_inj x y h) ((a, []) : (List TThing) × (List TThing)) (by simp [nz, nz1, ML_nil, encLTThing]) rfl
@[simp] theorem c108_fn3 (s_a : Nat) (z_a : D) (s_b : Nat) (z_b : D) : c108.fn [.sl false s_a z_a [], .sl false s_b z_b []] [] = some ((fun (a : List TThing) (b : List TThing) => a.length ≤ 1099511627776 ∧ b.length ≤ 1099511627776) [] [], (fun (a : List TThing) (b : List TThing) => (dB (decide (a = b)) : D)) [] [], (fun (a : List TThing) (b : List TThing) => []) [] []) :=
  mkCon_fn (fun x y h _ => c108_inj x y h) (([], []) : (List TThing) × (List TThing)) (by simp [nz, nz1, ML_nil, encLTThing]) rfl
theorem c108_pc (a : List TThing) (b : List TThing) (hpre : a.length ≤ 1099511627776 ∧ b.length ≤ 1099511627776) : PCo Try.prog 108 [encLTThing a, encLTThing b] (Tab.of []) (dB (decide (a = b))) (Tab.of []) := by
  refine pco_of_run [] (E := ⟨[c164], []⟩) (m := false) (base := 0) (Env.ok_cons c164_ok Env.ok_nil) G_ok mix 300 6 Try.func108 (by kernel_rfl) rfl (by kernel_rfl) (by kernel_rfl) rfl ?_
  simp [Try.f108]
  obtain ⟨pre1, pre2⟩ := hpre
  refine ⟨fun h => ?_, fun h => by intro e; subst e; exact absurd rfl h⟩
  refine loop_inv (fun p : Nat => p ≤ a.length ∧ a.take p = b.take p) (fun p => [(0, encLTThing a), (1, encLTThing b), (5, dI p)]) (fun _ => []) 1 (fun p => a.length - p) 0 100 (by simp) (by simp) (by simp) ?_
  intro p ⟨hp, hi⟩
  simp
  refine ⟨fun hlt => ⟨by omega, fun h2 => ⟨by omega, Again.mk (p + 1) ⟨by omega, take_eq_step hi (by omega) (by omega) h2⟩ (by simp) (by first | omega | (simp; omega))⟩, fun h2 => by intro e; subst e; exact absurd rfl h2⟩, fun hge => ?_⟩
  exact take_eq_full hi (by omega) (by omega)
theorem c108_ok : c108.ok Try.prog := mkCon_ok fun ⟨a, b⟩ hpre => c108_pc a b hpre
abbrev mk_I : Int → Int := fun n => n
/-- loop.example/g03007/laws.markIntS -/
noncomputable def c82 : Con := mkCon 82 true (α := (List Int) × Int) (fun x => (fun (l : List Int) (k : Int) => ([.own (0, 0) 1 0 l.length, dI k] : List D)) x.1 x.2) (fun x => (fun (l : List Int) (k : Int) => ([((0, 0), .arr false 1 (.lit (.int .i64 0)) (ML dI l))] : List (Nm × OO))) x.1 x.2) (fun x => (fun (l : List Int) (k : Int) => l.length ≤ 1099511627776 ∧ 0 ≤ k ∧ k ≤ 1152921504606846976) x.1 x.2) (fun x => (fun (l : List Int) (k : Int) => (dI (k + 1 * l.length) : D)) x.1 x.2) (fun x => (fun (l : List Int) (k : Int) => ([((0, 0), .arr false 1 (.lit (.int .i64 0)) (ML dI (mkL mk_I 1 k l.length)))] : List (Nm × OO))) x.1 x.2)
@[simp] theorem c82_f : c82.f = 82 := rfl
@[simp] theorem c82_own : c82.own = true := rfl
theorem c82_inj : ∀ u_ v_ : (List Int) × Int, ((fun x => (fun (l : List Int) (k : Int) => ([.own (0, 0) 1 0 l.length, dI k] : List D)) x.1 x.2) u_).map nz = ((fun x => (fun (l : List Int) (k : Int) => ([.own (0, 0) 1 0 l.length, dI k] : List D)) x.1 x.2) v_).map nz → (fun x => (fun (l : List Int) (k : Int) => ([((0, 0), .arr false 1 (.lit (.int .i64 0)) (ML dI l))] : List (Nm × OO))) x.1 x.2) u_ = (fun x => (fun (l : List Int) (k : Int) => ([((0, 0), .arr false 1 (.lit (.int .i64 0)) (ML dI l))] : List (Nm × OO))) x.1 x.2) v_ → u_ = v_ := by
  intro u_ v_ h h2_
  obtain ⟨l, k⟩ := u_
  obtain ⟨l', k'⟩ := v_
  simp [nz_lit, nz1_lit, nz_agg, nz_sl, nz1_sl, nz_sx, nz_el, nz1_el, nz_own, nz1_own, nz_ptr, nz_fn, nz_iface] at h h2_
  first | (simp [h, h2_]; done) | simp_all | grind
@[simp] theorem c82_fn (l : List Int) (k : Int) : c82.fn ([.own (0, 0) 1 0 l.length, dI k]) ([((0, 0), .arr false 1 (.lit (.int .i64 0)) (ML dI l))]) = some (l.length ≤ 1099511627776 ∧ 0 ≤ k ∧ k ≤ 1152921504606846976, dI (k + 1 * l.length), [((0, 0), .arr false 1 (.lit (.int .i64 0)) (ML dI (mkL mk_I 1 k l.length)))]) :=
  mkCon_fn c82_inj ((l, k) : (List Int) × Int) rfl rfl
theorem c82_pc (l : List Int) (k : Int) (hpre : l.length ≤ 1099511627776 ∧ 0 ≤ k ∧ k ≤ 1152921504606846976) : PCo Try.prog 82 ([.own (0, 0) 1 0 l.length, dI k]) (Tab.of ([((0, 0), .arr false 1 (.lit (.int .i64 0)) (ML dI l))])) (dI (k + 1 * l.length)) (Tab.of ([((0, 0), .arr false 1 (.lit (.int .i64 0)) (ML dI (mkL mk_I 1 k l.length)))])) := by
  refine pco_of_run [] (E := ⟨[], []⟩) (m := false) (base := 0) Env.ok_nil G_ok mix 300 6 Try.func82 (by kernel_rfl) rfl (by kernel_rfl) (by kernel_rfl) rfl ?_
  simp [Try.f82]
  obtain ⟨pre1, pre2, pre3⟩ := hpre
  refine loop_inv (fun p : Nat => p ≤ l.length) (fun p => [(0, .own (0, 0) 1 0 l.length), (1, dI (k + 1 * p)), (5, dI p)]) (fun p => [((0, 0), .arr false 1 (.lit (.int .i64 0)) (ML dI (mkL mk_I 1 k p ++ l.drop p)))]) 2 (fun p => l.length - p) 0 100 (by simp) (by simp) (by simp) ?_
  intro p hp
  simp
  have hs : ∀ x, x = mk_I (k + 1 * (p : Int)) → p < l.length → mkL mk_I 1 k p ++ (l.drop p).set 0 x = mkL mk_I 1 k (p + 1) ++ l.drop (p + 1) := fun x hx hlt => mark_step0 hlt hx
  refine ⟨fun hlt => ⟨by omega, by omega, by omega, Again.mk (p + 1) (by omega) (by rw [hs _ (by simp) hlt]; simp; omega) (by first | omega | (simp; omega))⟩, fun hge => ?_⟩
  have : p = l.length := by omega
  subst this
  simp
  trace_state
theorem c82_ok : c82.ok Try.prog := mkCon_ok fun ⟨l, k⟩ hpre => c82_pc l k hpre
/-- loop.example/g03007/laws.heldIntS -/
noncomputable def c83 : Con := mkCon 83 false (α := (List Int) × Int) (fun x => (fun (l : List Int) (k : Int) => [encLI l, dI k]) x.1 x.2) (fun _ => []) (fun x => (fun (l : List Int) (k : Int) => l.length ≤ 1099511627776 ∧ 0 ≤ k ∧ k ≤ 1152921504606846976) x.1 x.2) (fun x => (fun (l : List Int) (k : Int) => (dI (if l = mkL mk_I 1 k l.length then k + 1 * l.length else -1) : D)) x.1 x.2) (fun x => (fun (l : List Int) (k : Int) => []) x.1 x.2)
@[simp] theorem c83_f : c83.f = 83 := rfl
@[simp] theorem c83_own : c83.own = false := rfl
theorem c83_inj : ∀ u_ v_ : (List Int) × Int, ((fun x => (fun (l : List Int) (k : Int) => [encLI l, dI k]) x.1 x.2) u_).map nz = ((fun x => (fun (l : List Int) (k : Int) => [encLI l, dI k]) x.1 x.2) v_).map nz → u_ = v_ := by
  intro u_ v_ h
  obtain ⟨l, k⟩ := u_
  obtain ⟨l', k'⟩ := v_
  simp [nz_lit, nz1_lit, nz_agg, nz_sl, nz1_sl, encLI] at h
  first | (simp [h]; done) | (obtain ⟨⟩ := h; simp_all; done) | simp_all
@[simp] theorem c83_fn (l : List Int) (k : Int) : c83.fn [.sl false 1 (.lit (.int .i64 0)) (ML dI l), .lit (.int .i64 k)] [] = some ((fun (l : List Int) (k : Int) => l.length ≤ 1099511627776 ∧ 0 ≤ k ∧ k ≤ 1152921504606846976) l k, (fun (l : List Int) (k : Int) => (dI (if l = mkL mk_I 1 k l.length then k + 1 * l.length else -1) : D)) l k, (fun (l : List Int) (k : Int) => []) l k) :=
  mkCon_fn (fun x y h _ => c83_inj x y h) ((l, k) : (List Int) × Int) (by simp [nz, nz1, ML_nil, encLI]) rfl
@[simp] theorem c83_fn1 (s_l : Nat) (z_l : D) (k : Int) : c83.fn [.sl false s_l z_l [], .lit (.int .i64 k)] [] = some ((fun (l : List Int) (k : Int) => l.length ≤ 1099511627776 ∧ 0 ≤ k ∧ k ≤ 1152921504606846976) [] k, (fun (l : List Int) (k : Int) => (dI (if l = mkL mk_I 1 k l.length then k + 1 * l.length else -1) : D)) [] k, (fun (l : List Int) (k : Int) => []) [] k) :=
  mkCon_fn (fun x y h _ => c83_inj x y h) (([], k) : (List Int) × Int) (by simp [nz, nz1, ML_nil, encLI]) rfl
theorem c83_pc (l : List Int) (k : Int) (hpre : l.length ≤ 1099511627776 ∧ 0 ≤ k ∧ k ≤ 1152921504606846976) : PCo Try.prog 83 [encLI l, dI k] (Tab.of []) (dI (if l = mkL mk_I 1 k l.length then k + 1 * l.length else -1)) (Tab.of []) := by
  refine pco_of_run [] (E := ⟨[], []⟩) (m := false) (base := 0) Env.ok_nil G_ok mix 300 6 Try.func83 (by kernel_rfl) rfl (by kernel_rfl) (by kernel_rfl) rfl ?_
  simp [Try.f83]
  obtain ⟨pre1, pre2, pre3⟩ := hpre
  refine loop_inv (fun p : Nat => p ≤ l.length ∧ l.take p = (mkL mk_I 1 k l.length).take p) (fun p => [(0, encLI l), (1, dI (k + 1 * p)), (5, dI p)]) (fun _ => []) 1 (fun p => l.length - p) 0 100 (by simp) (by simp) (by simp) ?_
  intro p ⟨hp, hi⟩
  simp
  refine ⟨fun hlt => ⟨hlt, fun h2 => ⟨by omega, by omega, Again.mk (p + 1) ⟨by omega, take_eq_step hi (by omega) (by simp; omega) (h2.trans (by rw [mkL_get hlt]; simp))⟩ (by simp; omega) (by first | omega | (simp; omega))⟩, fun h2 h3 => absurd ?_ h2⟩, fun hge => ?_⟩
  · rw [h3, mkL_get hlt]; simp
  · have h4 := take_eq_full hi hge (by simp; omega)
    rw [if_pos h4]; omega
theorem c83_ok : c83.ok Try.prog := mkCon_ok fun ⟨l, k⟩ hpre => c83_pc l k hpre

end Go.Proofs.Ytnnieeojfdjcoaa
