/- Contracts of the functions that the laws run. -/
import Derived.Test.Ytelhilcdlfjafaach04
import Derived.Test.YtelhilcdlfjafaaEngB
namespace Go.Proofs.Ytelhilcdlfjafaa
open Go Go.Eng
set_option linter.unusedSimpArgs false
set_option linter.unusedVariables false
set_option maxRecDepth 10000
set_option maxHeartbeats 1000000
/-- loop.example/g03007/laws.toIntS -/
noncomputable def c22 : Con := mkCon 22 false (α := (List Int)) (fun x => (fun (l : List Int) => [encLI l]) x) (fun _ => []) (fun x => (fun (l : List Int) => l.length ≤ 1099511627776) x) (fun x => (fun (l : List Int) => (.own (0, 1) 1 0 l.length : D)) x) (fun x => (fun (l : List Int) => [((0, 1), .arr false 1 (.lit (.int .i64 0)) (ML dI l))]) x)
@[simp] theorem c22_f : c22.f = 22 := rfl
@[simp] theorem c22_own : c22.own = false := rfl
theorem c22_inj : ∀ u_ v_ : (List Int), ((fun x => (fun (l : List Int) => [encLI l]) x) u_).map nz = ((fun x => (fun (l : List Int) => [encLI l]) x) v_).map nz → u_ = v_ := by
  intro u_ v_ h
  obtain l := u_
  obtain l' := v_
  simp [nz_lit, nz1_lit, nz_agg, nz_sl, nz1_sl, encLI] at h
  first | (simp [h]; done) | (obtain ⟨⟩ := h; simp_all; done) | simp_all
@[simp] theorem c22_fn (l : List Int) : c22.fn [.sl false 1 (.lit (.int .i64 0)) (ML dI l)] [] = some ((fun (l : List Int) => l.length ≤ 1099511627776) l, (fun (l : List Int) => (.own (0, 1) 1 0 l.length : D)) l, (fun (l : List Int) => [((0, 1), .arr false 1 (.lit (.int .i64 0)) (ML dI l))]) l) :=
  mkCon_fn (fun x y h _ => c22_inj x y h) (l : (List Int)) (by simp [nz, nz1, ML_nil, encLI]) rfl
@[simp] theorem c22_fn1 (s_l : Nat) (z_l : D) : c22.fn [.sl false s_l z_l []] [] = some ((fun (l : List Int) => l.length ≤ 1099511627776) [], (fun (l : List Int) => (.own (0, 1) 1 0 l.length : D)) [], (fun (l : List Int) => [((0, 1), .arr false 1 (.lit (.int .i64 0)) (ML dI l))]) []) :=
  mkCon_fn (fun x y h _ => c22_inj x y h) ([] : (List Int)) (by simp [nz, nz1, ML_nil, encLI]) rfl
theorem c22_pc (l : List Int) (hpre : l.length ≤ 1099511627776) : PCo Try.prog 22 [encLI l] (Tab.of []) (.own (0, 1) 1 0 l.length) (Tab.of [((0, 1), .arr false 1 (.lit (.int .i64 0)) (ML dI l))]) := by
  refine pco_of_run [] (E := ⟨[], [], []⟩) (m := false) (base := 0) Env.ok_nil G_ok mix 300 6 Try.func22 (by kernel_rfl) rfl (by kernel_rfl) (by kernel_rfl) rfl ?_
  simp [Try.f22]
  refine ⟨by omega, ?_⟩
  refine loop_inv (fun p : Nat => p ≤ l.length) (fun p => [(0, encLI l), (3, .own (0, 1) 1 0 l.length), (4, dI p)]) (fun p => [((0, 1), .arr false 1 (.lit (.int .i64 0)) (ML dI (l.take p ++ List.replicate (l.length - p) 0)))]) 2 (fun p => l.length - p) 0 100 (by simp) (by simp) (by first | (simp; done) | (simp; simp only [ML, List.map_replicate]; rfl)) ?_
  intro p hp
  simp
  refine ⟨fun hlt => ⟨by omega, by omega, Again.mk (p + 1) (by omega) (by simp [fill_step hlt]) (by first | omega | (simp; omega))⟩, fun hge => ?_⟩
  have : p = l.length := by omega
  subst this
  simp
theorem c22_ok : c22.ok Try.prog := mkCon_ok fun l hpre => c22_pc l hpre
/-- loop.example/g03007/laws.eqIntS -/
noncomputable def c14 : Con := mkCon 14 false (α := (List Int) × (List Int)) (fun x => (fun (a : List Int) (b : List Int) => [encLI a, encLI b]) x.1 x.2) (fun _ => []) (fun x => (fun (a : List Int) (b : List Int) => a.length ≤ 1099511627776 ∧ b.length ≤ 1099511627776) x.1 x.2) (fun x => (fun (a : List Int) (b : List Int) => (dB (decide (a = b)) : D)) x.1 x.2) (fun x => (fun (a : List Int) (b : List Int) => []) x.1 x.2)
@[simp] theorem c14_f : c14.f = 14 := rfl
@[simp] theorem c14_own : c14.own = false := rfl
theorem c14_inj : ∀ u_ v_ : (List Int) × (List Int), ((fun x => (fun (a : List Int) (b : List Int) => [encLI a, encLI b]) x.1 x.2) u_).map nz = ((fun x => (fun (a : List Int) (b : List Int) => [encLI a, encLI b]) x.1 x.2) v_).map nz → u_ = v_ := by
  intro u_ v_ h
  obtain ⟨a, b⟩ := u_
  obtain ⟨a', b'⟩ := v_
  simp [nz_lit, nz1_lit, nz_agg, nz_sl, nz1_sl, encLI] at h
  first | (simp [h]; done) | (obtain ⟨⟩ := h; simp_all; done) | simp_all
@[simp] theorem c14_fn (a : List Int) (b : List Int) : c14.fn [.sl false 1 (.lit (.int .i64 0)) (ML dI a), .sl false 1 (.lit (.int .i64 0)) (ML dI b)] [] = some ((fun (a : List Int) (b : List Int) => a.length ≤ 1099511627776 ∧ b.length ≤ 1099511627776) a b, (fun (a : List Int) (b : List Int) => (dB (decide (a = b)) : D)) a b, (fun (a : List Int) (b : List Int) => []) a b) :=
  mkCon_fn (fun x y h _ => c14_inj x y h) ((a, b) : (List Int) × (List Int)) (by simp [nz, nz1, ML_nil, encLI]) rfl
@[simp] theorem c14_fn1 (s_a : Nat) (z_a : D) (b : List Int) : c14.fn [.sl false s_a z_a [], .sl false 1 (.lit (.int .i64 0)) (ML dI b)] [] = some ((fun (a : List Int) (b : List Int) => a.length ≤ 1099511627776 ∧ b.length ≤ 1099511627776) [] b, (fun (a : List Int) (b : List Int) => (dB (decide (a = b)) : D)) [] b, (fun (a : List Int) (b : List Int) => []) [] b) :=
  mkCon_fn (fun x y h _ => c14_inj x y h) (([], b) : (List Int) × (List Int)) (by simp [nz, nz1, ML_nil, encLI]) rfl
@[simp] theorem c14_fn2 (a : List Int) (s_b : Nat) (z_b : D) : c14.fn [.sl false 1 (.lit (.int .i64 0)) (ML dI a), .sl false s_b z_b []] [] = some ((fun (a : List Int) (b : List Int) => a.length ≤ 1099511627776 ∧ b.length ≤ 1099511627776) a [], (fun (a : List Int) (b : List Int) => (dB (decide (a = b)) : D)) a [], (fun (a : List Int) (b : List Int) => []) a []) :=
  mkCon_fn (fun x y h _ => c14_inj x y h) ((a, []) : (List Int) × (List Int)) (by simp [nz, nz1, ML_nil, encLI]) rfl
@[simp] theorem c14_fn3 (s_a : Nat) (z_a : D) (s_b : Nat) (z_b : D) : c14.fn [.sl false s_a z_a [], .sl false s_b z_b []] [] = some ((fun (a : List Int) (b : List Int) => a.length ≤ 1099511627776 ∧ b.length ≤ 1099511627776) [] [], (fun (a : List Int) (b : List Int) => (dB (decide (a = b)) : D)) [] [], (fun (a : List Int) (b : List Int) => []) [] []) :=
  mkCon_fn (fun x y h _ => c14_inj x y h) (([], []) : (List Int) × (List Int)) (by simp [nz, nz1, ML_nil, encLI]) rfl
theorem c14_pc (a : List Int) (b : List Int) (hpre : a.length ≤ 1099511627776 ∧ b.length ≤ 1099511627776) : PCo Try.prog 14 [encLI a, encLI b] (Tab.of []) (dB (decide (a = b))) (Tab.of []) := by
  refine pco_of_run [] (E := ⟨[], [], []⟩) (m := false) (base := 0) Env.ok_nil G_ok mix 300 6 Try.func14 (by kernel_rfl) rfl (by kernel_rfl) (by kernel_rfl) rfl ?_
  simp [Try.f14]
  obtain ⟨pre1, pre2⟩ := hpre
  refine ⟨fun h => ?_, fun h => by intro e; subst e; exact absurd rfl h⟩
  refine loop_inv (fun p : Nat => p ≤ a.length ∧ a.take p = b.take p) (fun p => [(0, encLI a), (1, encLI b), (5, dI p)]) (fun _ => []) 1 (fun p => a.length - p) 0 100 (by simp) (by simp) (by simp) ?_
  intro p ⟨hp, hi⟩
  simp
  refine ⟨fun hlt => ⟨by omega, fun h2 => ⟨by omega, Again.mk (p + 1) ⟨by omega, take_eq_step hi (by omega) (by omega) h2⟩ (by simp) (by first | omega | (simp; omega))⟩, fun h2 => by intro e; subst e; exact absurd rfl h2⟩, fun hge => ?_⟩
  exact take_eq_full hi (by omega) (by omega)
theorem c14_ok : c14.ok Try.prog := mkCon_ok fun ⟨a, b⟩ hpre => c14_pc a b hpre
abbrev mk_I : Int → Int := fun n => n
/-- loop.example/g03007/laws.markIntS -/
noncomputable def c17 : Con := mkCon 17 true (α := (List Int) × Int) (fun x => (fun (l : List Int) (k : Int) => ([.own (0, 0) 1 0 l.length, dI k] : List D)) x.1 x.2) (fun x => (fun (l : List Int) (k : Int) => ([((0, 0), .arr false 1 (.lit (.int .i64 0)) (ML dI l))] : List (Nm × OO))) x.1 x.2) (fun x => (fun (l : List Int) (k : Int) => l.length ≤ 1099511627776 ∧ 0 ≤ k ∧ k ≤ 1152921504606846976) x.1 x.2) (fun x => (fun (l : List Int) (k : Int) => (dI (k + 1 * l.length) : D)) x.1 x.2) (fun x => (fun (l : List Int) (k : Int) => ([((0, 0), .arr false 1 (.lit (.int .i64 0)) (ML dI (mkL mk_I 1 k l.length)))] : List (Nm × OO))) x.1 x.2)
@[simp] theorem c17_f : c17.f = 17 := rfl
@[simp] theorem c17_own : c17.own = true := rfl
theorem c17_inj : ∀ u_ v_ : (List Int) × Int, ((fun x => (fun (l : List Int) (k : Int) => ([.own (0, 0) 1 0 l.length, dI k] : List D)) x.1 x.2) u_).map nz = ((fun x => (fun (l : List Int) (k : Int) => ([.own (0, 0) 1 0 l.length, dI k] : List D)) x.1 x.2) v_).map nz → (fun x => (fun (l : List Int) (k : Int) => ([((0, 0), .arr false 1 (.lit (.int .i64 0)) (ML dI l))] : List (Nm × OO))) x.1 x.2) u_ = (fun x => (fun (l : List Int) (k : Int) => ([((0, 0), .arr false 1 (.lit (.int .i64 0)) (ML dI l))] : List (Nm × OO))) x.1 x.2) v_ → u_ = v_ := by
  intro u_ v_ h h2_
  obtain ⟨l, k⟩ := u_
  obtain ⟨l', k'⟩ := v_
  simp [nz_lit, nz1_lit, nz_agg, nz_sl, nz1_sl, nz_sx, nz_el, nz1_el, nz_own, nz1_own, nz_ptr, nz_fn, nz_iface] at h h2_
  first | (simp [h, h2_]; done) | (obtain ⟨h3_, h4_⟩ := List.append_inj h2_ h.1; simp_all; done) | simp_all | grind
@[simp] theorem c17_fn (l : List Int) (k : Int) : c17.fn ([.own (0, 0) 1 0 l.length, dI k]) ([((0, 0), .arr false 1 (.lit (.int .i64 0)) (ML dI l))]) = some (l.length ≤ 1099511627776 ∧ 0 ≤ k ∧ k ≤ 1152921504606846976, dI (k + 1 * l.length), [((0, 0), .arr false 1 (.lit (.int .i64 0)) (ML dI (mkL mk_I 1 k l.length)))]) :=
  mkCon_fn c17_inj ((l, k) : (List Int) × Int) rfl rfl
theorem c17_pc (l : List Int) (k : Int) (hpre : l.length ≤ 1099511627776 ∧ 0 ≤ k ∧ k ≤ 1152921504606846976) : PCo Try.prog 17 ([.own (0, 0) 1 0 l.length, dI k]) (Tab.of ([((0, 0), .arr false 1 (.lit (.int .i64 0)) (ML dI l))])) (dI (k + 1 * l.length)) (Tab.of ([((0, 0), .arr false 1 (.lit (.int .i64 0)) (ML dI (mkL mk_I 1 k l.length)))])) := by
  refine pco_of_run [] (E := ⟨[], [], []⟩) (m := false) (base := 0) Env.ok_nil G_ok mix 300 6 Try.func17 (by kernel_rfl) rfl (by kernel_rfl) (by kernel_rfl) rfl ?_
  simp [Try.f17]
  obtain ⟨pre1, pre2, pre3⟩ := hpre
  refine loop_inv (fun p : Nat => p ≤ l.length) (fun p => [(0, .own (0, 0) 1 0 l.length), (1, dI (k + 1 * p)), (5, dI p)]) (fun p => [((0, 0), .arr false 1 (.lit (.int .i64 0)) (ML dI (mkL mk_I 1 k p ++ l.drop p)))]) 2 (fun p => l.length - p) 0 100 (by simp) (by simp) (by simp) ?_
  intro p hp
  simp
  have hs : ∀ x, x = mk_I (k + 1 * (p : Int)) → p < l.length → mkL mk_I 1 k p ++ (l.drop p).set 0 x = mkL mk_I 1 k (p + 1) ++ l.drop (p + 1) := fun x hx hlt => mark_step0 hlt hx
  refine ⟨fun hlt => ?_, fun hge => ?_⟩
  · repeat' (first | omega | refine And.intro ?_ ?_ | intro _)
    all_goals refine Again.mk (p + 1) (by omega) ?_ (by first | omega | (simp; omega))
    all_goals (rw [hs _ (by simp) hlt]; simp; omega)
  have : p = l.length := by omega
  subst this
  simp
  trace_state
theorem c17_ok : c17.ok Try.prog := mkCon_ok fun ⟨l, k⟩ hpre => c17_pc l k hpre
/-- loop.example/g03007/laws.heldIntS -/
noncomputable def c18 : Con := mkCon 18 false (α := (List Int) × Int) (fun x => (fun (l : List Int) (k : Int) => [encLI l, dI k]) x.1 x.2) (fun _ => []) (fun x => (fun (l : List Int) (k : Int) => l.length ≤ 1099511627776 ∧ 0 ≤ k ∧ k ≤ 1152921504606846976) x.1 x.2) (fun x => (fun (l : List Int) (k : Int) => (dI (if l = mkL mk_I 1 k l.length then k + 1 * l.length else -1) : D)) x.1 x.2) (fun x => (fun (l : List Int) (k : Int) => []) x.1 x.2)
@[simp] theorem c18_f : c18.f = 18 := rfl
@[simp] theorem c18_own : c18.own = false := rfl
theorem c18_inj : ∀ u_ v_ : (List Int) × Int, ((fun x => (fun (l : List Int) (k : Int) => [encLI l, dI k]) x.1 x.2) u_).map nz = ((fun x => (fun (l : List Int) (k : Int) => [encLI l, dI k]) x.1 x.2) v_).map nz → u_ = v_ := by
  intro u_ v_ h
  obtain ⟨l, k⟩ := u_
  obtain ⟨l', k'⟩ := v_
  simp [nz_lit, nz1_lit, nz_agg, nz_sl, nz1_sl, encLI] at h
  first | (simp [h]; done) | (obtain ⟨⟩ := h; simp_all; done) | simp_all
@[simp] theorem c18_fn (l : List Int) (k : Int) : c18.fn [.sl false 1 (.lit (.int .i64 0)) (ML dI l), .lit (.int .i64 k)] [] = some ((fun (l : List Int) (k : Int) => l.length ≤ 1099511627776 ∧ 0 ≤ k ∧ k ≤ 1152921504606846976) l k, (fun (l : List Int) (k : Int) => (dI (if l = mkL mk_I 1 k l.length then k + 1 * l.length else -1) : D)) l k, (fun (l : List Int) (k : Int) => []) l k) :=
  mkCon_fn (fun x y h _ => c18_inj x y h) ((l, k) : (List Int) × Int) (by simp [nz, nz1, ML_nil, encLI]) rfl
@[simp] theorem c18_fn1 (s_l : Nat) (z_l : D) (k : Int) : c18.fn [.sl false s_l z_l [], .lit (.int .i64 k)] [] = some ((fun (l : List Int) (k : Int) => l.length ≤ 1099511627776 ∧ 0 ≤ k ∧ k ≤ 1152921504606846976) [] k, (fun (l : List Int) (k : Int) => (dI (if l = mkL mk_I 1 k l.length then k + 1 * l.length else -1) : D)) [] k, (fun (l : List Int) (k : Int) => []) [] k) :=
  mkCon_fn (fun x y h _ => c18_inj x y h) (([], k) : (List Int) × Int) (by simp [nz, nz1, ML_nil, encLI]) rfl
theorem c18_pc (l : List Int) (k : Int) (hpre : l.length ≤ 1099511627776 ∧ 0 ≤ k ∧ k ≤ 1152921504606846976) : PCo Try.prog 18 [encLI l, dI k] (Tab.of []) (dI (if l = mkL mk_I 1 k l.length then k + 1 * l.length else -1)) (Tab.of []) := by
  refine pco_of_run [] (E := ⟨[], [], []⟩) (m := false) (base := 0) Env.ok_nil G_ok mix 300 6 Try.func18 (by kernel_rfl) rfl (by kernel_rfl) (by kernel_rfl) rfl ?_
  simp [Try.f18]
  obtain ⟨pre1, pre2, pre3⟩ := hpre
  refine loop_inv (fun p : Nat => p ≤ l.length ∧ l.take p = (mkL mk_I 1 k l.length).take p) (fun p => [(0, encLI l), (1, dI (k + 1 * p)), (5, dI p)]) (fun _ => []) 1 (fun p => l.length - p) 0 100 (by simp) (by simp) (by simp) ?_
  intro p ⟨hp, hi⟩
  simp
  refine ⟨fun hlt => ⟨hlt, fun h2 => ⟨by omega, by omega, Again.mk (p + 1) ⟨by omega, take_eq_step hi (by omega) (by simp; omega) (h2.trans (by rw [mkL_get hlt]; simp))⟩ (by simp; omega) (by first | omega | (simp; omega))⟩, fun h2 h3 => absurd ?_ h2⟩, fun hge => ?_⟩
  · rw [h3, mkL_get hlt]; simp
  · have h4 := take_eq_full hi hge (by simp; omega)
    rw [if_pos h4]; omega
theorem c18_ok : c18.ok Try.prog := mkCon_ok fun ⟨l, k⟩ hpre => c18_pc l k hpre

end Go.Proofs.Ytelhilcdlfjafaa
