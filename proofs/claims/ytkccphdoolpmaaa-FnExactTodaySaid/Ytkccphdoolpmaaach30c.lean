/- Contracts of the functions that the laws run. -/
import Derived.Test.Ytkccphdoolpmaaach01
import Derived.Test.YtkccphdoolpmaaaEngB
namespace Go.Proofs.Ytkccphdoolpmaaa
open Go Go.Eng
set_option linter.unusedSimpArgs false
set_option linter.unusedVariables false
set_option maxRecDepth 10000
set_option maxHeartbeats 1000000
/-- loop.example/g03007/laws.toTask -/
noncomputable def c126 : Con := mkCon 126 false (α := TTask) (fun x => (fun (a : TTask) => [encTTask a]) x) (fun _ => []) (fun x => (fun (a : TTask) => True) x) (fun x => (fun (a : TTask) => (encTTask a : D)) x) (fun x => (fun (a : TTask) => []) x)
@[simp] theorem c126_f : c126.f = 126 := rfl
@[simp] theorem c126_own : c126.own = false := rfl
theorem c126_inj : ∀ u_ v_ : TTask, ((fun x => (fun (a : TTask) => [encTTask a]) x) u_).map nz = ((fun x => (fun (a : TTask) => [encTTask a]) x) v_).map nz → u_ = v_ := by
  intro u_ v_ h
  obtain ⟨a_Thing, a_Fate, a_Day⟩ := u_
  obtain ⟨a_Thing', a_Fate', a_Day'⟩ := v_
  simp [nz_lit, nz1_lit, nz_agg, nz_sl, nz1_sl, encTTask] at h
  first | (simp [h]; done) | (obtain ⟨⟩ := h; simp_all; done) | simp_all
@[simp] theorem c126_fn (a_Thing : Int) (a_Fate : Int) (a_Day : Int) : c126.fn [.agg [.lit (.int .i64 a_Thing), .lit (.int .i64 a_Fate), .lit (.int .i64 a_Day)]] [] = some ((fun (a : TTask) => True) ⟨a_Thing, a_Fate, a_Day⟩, (fun (a : TTask) => (encTTask a : D)) ⟨a_Thing, a_Fate, a_Day⟩, (fun (a : TTask) => []) ⟨a_Thing, a_Fate, a_Day⟩) :=
  mkCon_fn (fun x y h _ => c126_inj x y h) (⟨a_Thing, a_Fate, a_Day⟩ : TTask) (by simp [nz, nz1, ML_nil, encTTask]) rfl
theorem c126_pc (a : TTask) : PCo Try.prog 126 [encTTask a] (Tab.of []) (encTTask a) (Tab.of []) := by
  obtain ⟨a_Thing, a_Fate, a_Day⟩ := a
  refine pco_of_run [] (E := ⟨[], []⟩) (m := false) (base := 0) Env.ok_nil G_ok mix 300 6 Try.func126 (by kernel_rfl) rfl (by kernel_rfl) (by kernel_rfl) rfl ?_
  simp [Try.f126]
  all_goals first | omega | (rw [Bool.eq_iff_iff]; simp; omega) | grind
theorem c126_ok : c126.ok Try.prog := mkCon_ok fun a hpre => c126_pc a
/-- loop.example/g03007/laws.eqTask -/
noncomputable def c128 : Con := mkCon 128 false (α := TTask × TTask) (fun x => (fun (a : TTask) (b : TTask) => [encTTask a, encTTask b]) x.1 x.2) (fun _ => []) (fun x => (fun (a : TTask) (b : TTask) => True) x.1 x.2) (fun x => (fun (a : TTask) (b : TTask) => (dB (decide (a = b)) : D)) x.1 x.2) (fun x => (fun (a : TTask) (b : TTask) => []) x.1 x.2)
@[simp] theorem c128_f : c128.f = 128 := rfl
@[simp] theorem c128_own : c128.own = false := rfl
theorem c128_inj : ∀ u_ v_ : TTask × TTask, ((fun x => (fun (a : TTask) (b : TTask) => [encTTask a, encTTask b]) x.1 x.2) u_).map nz = ((fun x => (fun (a : TTask) (b : TTask) => [encTTask a, encTTask b]) x.1 x.2) v_).map nz → u_ = v_ := by
  intro u_ v_ h
  obtain ⟨⟨a_Thing, a_Fate, a_Day⟩, ⟨b_Thing, b_Fate, b_Day⟩⟩ := u_
  obtain ⟨⟨a_Thing', a_Fate', a_Day'⟩, ⟨b_Thing', b_Fate', b_Day'⟩⟩ := v_
  simp [nz_lit, nz1_lit, nz_agg, nz_sl, nz1_sl, encTTask] at h
  first | (simp [h]; done) | (obtain ⟨⟩ := h; simp_all; done) | simp_all
@[simp] theorem c128_fn (a_Thing : Int) (a_Fate : Int) (a_Day : Int) (b_Thing : Int) (b_Fate : Int) (b_Day : Int) : c128.fn [.agg [.lit (.int .i64 a_Thing), .lit (.int .i64 a_Fate), .lit (.int .i64 a_Day)], .agg [.lit (.int .i64 b_Thing), .lit (.int .i64 b_Fate), .lit (.int .i64 b_Day)]] [] = some ((fun (a : TTask) (b : TTask) => True) ⟨a_Thing, a_Fate, a_Day⟩ ⟨b_Thing, b_Fate, b_Day⟩, (fun (a : TTask) (b : TTask) => (dB (decide (a = b)) : D)) ⟨a_Thing, a_Fate, a_Day⟩ ⟨b_Thing, b_Fate, b_Day⟩, (fun (a : TTask) (b : TTask) => []) ⟨a_Thing, a_Fate, a_Day⟩ ⟨b_Thing, b_Fate, b_Day⟩) :=
  mkCon_fn (fun x y h _ => c128_inj x y h) ((⟨a_Thing, a_Fate, a_Day⟩, ⟨b_Thing, b_Fate, b_Day⟩) : TTask × TTask) (by simp [nz, nz1, ML_nil, encTTask]) rfl
theorem c128_pc (a : TTask) (b : TTask) : PCo Try.prog 128 [encTTask a, encTTask b] (Tab.of []) (dB (decide (a = b))) (Tab.of []) := by
  obtain ⟨a_Thing, a_Fate, a_Day⟩ := a
  obtain ⟨b_Thing, b_Fate, b_Day⟩ := b
  refine pco_of_run [] (E := ⟨[], []⟩) (m := false) (base := 0) Env.ok_nil G_ok mix 300 6 Try.func128 (by kernel_rfl) rfl (by kernel_rfl) (by kernel_rfl) rfl ?_
  simp [Try.f128]
  all_goals first | omega | (rw [Bool.eq_iff_iff]; simp; omega) | grind
theorem c128_ok : c128.ok Try.prog := mkCon_ok fun ⟨a, b⟩ hpre => c128_pc a b
/-- loop.example/g03007/laws.szTaskS -/
noncomputable def c78 : Con := mkCon 78 false (α := (List TTask) × Int) (fun x => (fun (l : List TTask) (left : Int) => [encLTTask l, dI left]) x.1 x.2) (fun _ => []) (fun x => (fun (l : List TTask) (left : Int) => l.length ≤ maxLen ∧ 0 ≤ left ∧ left ≤ 1099511627776) x.1 x.2) (fun x => (fun (l : List TTask) (left : Int) => (dI (if left - l.length < 0 then -1 else left - l.length) : D)) x.1 x.2) (fun x => (fun (l : List TTask) (left : Int) => []) x.1 x.2)
@[simp] theorem c78_f : c78.f = 78 := rfl
@[simp] theorem c78_own : c78.own = false := rfl
theorem c78_inj : ∀ u_ v_ : (List TTask) × Int, ((fun x => (fun (l : List TTask) (left : Int) => [encLTTask l, dI left]) x.1 x.2) u_).map nz = ((fun x => (fun (l : List TTask) (left : Int) => [encLTTask l, dI left]) x.1 x.2) v_).map nz → u_ = v_ := by
  intro u_ v_ h
  obtain ⟨l, left⟩ := u_
  obtain ⟨l', left'⟩ := v_
  simp [nz_lit, nz1_lit, nz_agg, nz_sl, nz1_sl, encLTTask] at h
  first | (simp [h]; done) | (obtain ⟨⟩ := h; simp_all; done) | simp_all
@[simp] theorem c78_fn (l : List TTask) (left : Int) : c78.fn [.sl false 3 yTTask (ML encTTask l), .lit (.int .i64 left)] [] = some ((fun (l : List TTask) (left : Int) => l.length ≤ maxLen ∧ 0 ≤ left ∧ left ≤ 1099511627776) l left, (fun (l : List TTask) (left : Int) => (dI (if left - l.length < 0 then -1 else left - l.length) : D)) l left, (fun (l : List TTask) (left : Int) => []) l left) :=
  mkCon_fn (fun x y h _ => c78_inj x y h) ((l, left) : (List TTask) × Int) (by simp [nz, nz1, ML_nil, encLTTask]) rfl
@[simp] theorem c78_fn1 (s_l : Nat) (z_l : D) (left : Int) : c78.fn [.sl false s_l z_l [], .lit (.int .i64 left)] [] = some ((fun (l : List TTask) (left : Int) => l.length ≤ maxLen ∧ 0 ≤ left ∧ left ≤ 1099511627776) [] left, (fun (l : List TTask) (left : Int) => (dI (if left - l.length < 0 then -1 else left - l.length) : D)) [] left, (fun (l : List TTask) (left : Int) => []) [] left) :=
  mkCon_fn (fun x y h _ => c78_inj x y h) (([], left) : (List TTask) × Int) (by simp [nz, nz1, ML_nil, encLTTask]) rfl
theorem c78_pc (l : List TTask) (left : Int) (hpre : l.length ≤ maxLen ∧ 0 ≤ left ∧ left ≤ 1099511627776) : PCo Try.prog 78 [encLTTask l, dI left] (Tab.of []) (dI (if left - l.length < 0 then -1 else left - l.length)) (Tab.of []) := by
  refine pco_of_run [] (E := ⟨[], []⟩) (m := false) (base := 0) Env.ok_nil G_ok mix 300 6 Try.func78 (by kernel_rfl) rfl (by kernel_rfl) (by kernel_rfl) rfl ?_
  simp [Try.f78]
  simp [maxLen] at hpre
  all_goals omega
theorem c78_ok : c78.ok Try.prog := mkCon_ok fun ⟨l, left⟩ hpre => c78_pc l left hpre
/-- loop.example/g03007/laws.toTaskS -/
noncomputable def c80 : Con := mkCon 80 false (α := (List TTask)) (fun x => (fun (l : List TTask) => [encLTTask l]) x) (fun _ => []) (fun x => (fun (l : List TTask) => l.length ≤ 1099511627776) x) (fun x => (fun (l : List TTask) => (.own (0, 1) 3 0 l.length : D)) x) (fun x => (fun (l : List TTask) => [((0, 1), .arr false 3 yTTask (ML encTTask l))]) x)
@[simp] theorem c80_f : c80.f = 80 := rfl
@[simp] theorem c80_own : c80.own = false := rfl
theorem c80_inj : ∀ u_ v_ : (List TTask), ((fun x => (fun (l : List TTask) => [encLTTask l]) x) u_).map nz = ((fun x => (fun (l : List TTask) => [encLTTask l]) x) v_).map nz → u_ = v_ := by
  intro u_ v_ h
  obtain l := u_
  obtain l' := v_
  simp [nz_lit, nz1_lit, nz_agg, nz_sl, nz1_sl, encLTTask] at h
  first | (simp [h]; done) | (obtain ⟨⟩ := h; simp_all; done) | simp_all
@[simp] theorem c80_fn (l : List TTask) : c80.fn [.sl false 3 yTTask (ML encTTask l)] [] = some ((fun (l : List TTask) => l.length ≤ 1099511627776) l, (fun (l : List TTask) => (.own (0, 1) 3 0 l.length : D)) l, (fun (l : List TTask) => [((0, 1), .arr false 3 yTTask (ML encTTask l))]) l) :=
  mkCon_fn (fun x y h _ => c80_inj x y h) (l : (List TTask)) (by simp [nz, nz1, ML_nil, encLTTask]) rfl
@[simp] theorem c80_fn1 (s_l : Nat) (z_l : D) : c80.fn [.sl false s_l z_l []] [] = some ((fun (l : List TTask) => l.length ≤ 1099511627776) [], (fun (l : List TTask) => (.own (0, 1) 3 0 l.length : D)) [], (fun (l : List TTask) => [((0, 1), .arr false 3 yTTask (ML encTTask l))]) []) :=
  mkCon_fn (fun x y h _ => c80_inj x y h) ([] : (List TTask)) (by simp [nz, nz1, ML_nil, encLTTask]) rfl
theorem c80_pc (l : List TTask) (hpre : l.length ≤ 1099511627776) : PCo Try.prog 80 [encLTTask l] (Tab.of []) (.own (0, 1) 3 0 l.length) (Tab.of [((0, 1), .arr false 3 yTTask (ML encTTask l))]) := by
  refine pco_of_run [] (E := ⟨[c126], []⟩) (m := false) (base := 0) (Env.ok_cons c126_ok Env.ok_nil) G_ok mix 300 6 Try.func80 (by kernel_rfl) rfl (by kernel_rfl) (by kernel_rfl) rfl ?_
  simp [Try.f80]
  refine ⟨by omega, ?_⟩
  refine loop_inv (fun p : Nat => p ≤ l.length) (fun p => [(0, encLTTask l), (3, .own (0, 1) 3 0 l.length), (4, dI p)]) (fun p => [((0, 1), .arr false 3 yTTask (ML encTTask (l.take p ++ List.replicate (l.length - p) ⟨0, 0, 0⟩)))]) 2 (fun p => l.length - p) 0 100 (by simp) (by simp) (by first | (simp; done) | (simp; simp only [ML, List.map_replicate]; rfl)) ?_
  intro p hp
  simp
  refine ⟨fun hlt => ⟨by omega, by omega, Again.mk (p + 1) (by omega) (by simp [fill_step hlt]) (by first | omega | (simp; omega))⟩, fun hge => ?_⟩
  have : p = l.length := by omega
  subst this
  simp
theorem c80_ok : c80.ok Try.prog := mkCon_ok fun l hpre => c80_pc l hpre
/-- loop.example/g03007/laws.eqTaskS -/
noncomputable def c82 : Con := mkCon 82 false (α := (List TTask) × (List TTask)) (fun x => (fun (a : List TTask) (b : List TTask) => [encLTTask a, encLTTask b]) x.1 x.2) (fun _ => []) (fun x => (fun (a : List TTask) (b : List TTask) => a.length ≤ 1099511627776 ∧ b.length ≤ 1099511627776) x.1 x.2) (fun x => (fun (a : List TTask) (b : List TTask) => (dB (decide (a = b)) : D)) x.1 x.2) (fun x => (fun (a : List TTask) (b : List TTask) => []) x.1 x.2)
@[simp] theorem c82_f : c82.f = 82 := rfl
@[simp] theorem c82_own : c82.own = false := rfl
theorem c82_inj : ∀ u_ v_ : (List TTask) × (List TTask), ((fun x => (fun (a : List TTask) (b : List TTask) => [encLTTask a, encLTTask b]) x.1 x.2) u_).map nz = ((fun x => (fun (a : List TTask) (b : List TTask) => [encLTTask a, encLTTask b]) x.1 x.2) v_).map nz → u_ = v_ := by
  intro u_ v_ h
  obtain ⟨a, b⟩ := u_
  obtain ⟨a', b'⟩ := v_
  simp [nz_lit, nz1_lit, nz_agg, nz_sl, nz1_sl, encLTTask] at h
  first | (simp [h]; done) | (obtain ⟨⟩ := h; simp_all; done) | simp_all
@[simp] theorem c82_fn (a : List TTask) (b : List TTask) : c82.fn [.sl false 3 yTTask (ML encTTask a), .sl false 3 yTTask (ML encTTask b)] [] = some ((fun (a : List TTask) (b : List TTask) => a.length ≤ 1099511627776 ∧ b.length ≤ 1099511627776) a b, (fun (a : List TTask) (b : List TTask) => (dB (decide (a = b)) : D)) a b, (fun (a : List TTask) (b : List TTask) => []) a b) :=
  mkCon_fn (fun x y h _ => c82_inj x y h) ((a, b) : (List TTask) × (List TTask)) (by simp [nz, nz1, ML_nil, encLTTask]) rfl
@[simp] theorem c82_fn1 (s_a : Nat) (z_a : D) (b : List TTask) : c82.fn [.sl false s_a z_a [], .sl false 3 yTTask (ML encTTask b)] [] = some ((fun (a : List TTask) (b : List TTask) => a.length ≤ 1099511627776 ∧ b.length ≤ 1099511627776) [] b, (fun (a : List TTask) (b : List TTask) => (dB (decide (a = b)) : D)) [] b, (fun (a : List TTask) (b : List TTask) => []) [] b) :=
  mkCon_fn (fun x y h _ => c82_inj x y h) (([], b) : (List TTask) × (List TTask)) (by simp [nz, nz1, ML_nil, encLTTask]) rfl
@[simp] theorem c82_fn2 (a : List TTask) (s_b : Nat) (z_b : D) : c82.fn [.sl false 3 yTTask (ML encTTask a), .sl false s_b z_b []] [] = some ((fun (a : List TTask) (b : List TTask) => a.length ≤ 1099511627776 ∧ b.length ≤ 1099511627776) a [], (fun (a : List TTask) (b : List TTask) => (dB (decide (a = b)) : D)) a [], (fun (a : List TTask) (b : List TTask) => []) a []) :=
  mkCon_fn (fun x y h _ => c82_inj x y h) ((a, []) : (List TTask) × (List TTask)) (by simp [nz, nz1, ML_nil, encLTTask]) rfl
@[simp] theorem c82_fn3 (s_a : Nat) (z_a : D) (s_b : Nat) (z_b : D) : c82.fn [.sl false s_a z_a [], .sl false s_b z_b []] [] = some ((fun (a : List TTask) (b : List TTask) => a.length ≤ 1099511627776 ∧ b.length ≤ 1099511627776) [] [], (fun (a : List TTask) (b : List TTask) => (dB (decide (a = b)) : D)) [] [], (fun (a : List TTask) (b : List TTask) => []) [] []) :=
  mkCon_fn (fun x y h _ => c82_inj x y h) (([], []) : (List TTask) × (List TTask)) (by simp [nz, nz1, ML_nil, encLTTask]) rfl
theorem c82_pc (a : List TTask) (b : List TTask) (hpre : a.length ≤ 1099511627776 ∧ b.length ≤ 1099511627776) : PCo Try.prog 82 [encLTTask a, encLTTask b] (Tab.of []) (dB (decide (a = b))) (Tab.of []) := by
  refine pco_of_run [] (E := ⟨[c128], []⟩) (m := false) (base := 0) (Env.ok_cons c128_ok Env.ok_nil) G_ok mix 300 6 Try.func82 (by kernel_rfl) rfl (by kernel_rfl) (by kernel_rfl) rfl ?_
  simp [Try.f82]
  obtain ⟨pre1, pre2⟩ := hpre
  refine ⟨fun h => ?_, fun h => by intro e; subst e; exact absurd rfl h⟩
  refine loop_inv (fun p : Nat => p ≤ a.length ∧ a.take p = b.take p) (fun p => [(0, encLTTask a), (1, encLTTask b), (5, dI p)]) (fun _ => []) 1 (fun p => a.length - p) 0 100 (by simp) (by simp) (by simp) ?_
  intro p ⟨hp, hi⟩
  simp
  refine ⟨fun hlt => ⟨by omega, fun h2 => ⟨by omega, Again.mk (p + 1) ⟨by omega, take_eq_step hi (by omega) (by omega) h2⟩ (by simp) (by first | omega | (simp; omega))⟩, fun h2 => by intro e; subst e; exact absurd rfl h2⟩, fun hge => ?_⟩
  exact take_eq_full hi (by omega) (by omega)
theorem c82_ok : c82.ok Try.prog := mkCon_ok fun ⟨a, b⟩ hpre => c82_pc a b hpre
abbrev mk_TTask : Int → TTask := fun n => ⟨n, n + 1, n + 2⟩
/-- loop.example/g03007/laws.markTaskS -/
noncomputable def c83 : Con := mkCon 83 true (α := (List TTask) × Int) (fun x => (fun (l : List TTask) (k : Int) => ([.own (0, 0) 3 0 l.length, dI k] : List D)) x.1 x.2) (fun x => (fun (l : List TTask) (k : Int) => ([((0, 0), .arr false 3 yTTask (ML encTTask l))] : List (Nm × OO))) x.1 x.2) (fun x => (fun (l : List TTask) (k : Int) => l.length ≤ 1099511627776 ∧ 0 ≤ k ∧ k ≤ 1152921504606846976) x.1 x.2) (fun x => (fun (l : List TTask) (k : Int) => (dI (k + 3 * l.length) : D)) x.1 x.2) (fun x => (fun (l : List TTask) (k : Int) => ([((0, 0), .arr false 3 yTTask (ML encTTask (mkL mk_TTask 3 k l.length)))] : List (Nm × OO))) x.1 x.2)
@[simp] theorem c83_f : c83.f = 83 := rfl
@[simp] theorem c83_own : c83.own = true := rfl
theorem c83_inj : ∀ u_ v_ : (List TTask) × Int, ((fun x => (fun (l : List TTask) (k : Int) => ([.own (0, 0) 3 0 l.length, dI k] : List D)) x.1 x.2) u_).map nz = ((fun x => (fun (l : List TTask) (k : Int) => ([.own (0, 0) 3 0 l.length, dI k] : List D)) x.1 x.2) v_).map nz → (fun x => (fun (l : List TTask) (k : Int) => ([((0, 0), .arr false 3 yTTask (ML encTTask l))] : List (Nm × OO))) x.1 x.2) u_ = (fun x => (fun (l : List TTask) (k : Int) => ([((0, 0), .arr false 3 yTTask (ML encTTask l))] : List (Nm × OO))) x.1 x.2) v_ → u_ = v_ := by
  intro u_ v_ h h2_
  obtain ⟨l, k⟩ := u_
  obtain ⟨l', k'⟩ := v_
  simp [nz_lit, nz1_lit, nz_agg, nz_sl, nz1_sl, nz_sx, nz_el, nz1_el, nz_own, nz1_own, nz_ptr, nz_fn, nz_iface] at h h2_
  first | (simp [h, h2_]; done) | simp_all | grind
@[simp] theorem c83_fn (l : List TTask) (k : Int) : c83.fn ([.own (0, 0) 3 0 l.length, dI k]) ([((0, 0), .arr false 3 yTTask (ML encTTask l))]) = some (l.length ≤ 1099511627776 ∧ 0 ≤ k ∧ k ≤ 1152921504606846976, dI (k + 3 * l.length), [((0, 0), .arr false 3 yTTask (ML encTTask (mkL mk_TTask 3 k l.length)))]) :=
  mkCon_fn c83_inj ((l, k) : (List TTask) × Int) rfl rfl
theorem c83_pc (l : List TTask) (k : Int) (hpre : l.length ≤ 1099511627776 ∧ 0 ≤ k ∧ k ≤ 1152921504606846976) : PCo Try.prog 83 ([.own (0, 0) 3 0 l.length, dI k]) (Tab.of ([((0, 0), .arr false 3 yTTask (ML encTTask l))])) (dI (k + 3 * l.length)) (Tab.of ([((0, 0), .arr false 3 yTTask (ML encTTask (mkL mk_TTask 3 k l.length)))])) := by
  refine pco_of_run [] (E := ⟨[], []⟩) (m := false) (base := 0) Env.ok_nil G_ok mix 300 6 Try.func83 (by kernel_rfl) rfl (by kernel_rfl) (by kernel_rfl) rfl ?_
  simp [Try.f83]
  obtain ⟨pre1, pre2, pre3⟩ := hpre
  refine loop_inv (fun p : Nat => p ≤ l.length) (fun p => [(0, .own (0, 0) 3 0 l.length), (1, dI (k + 3 * p)), (5, dI p)]) (fun p => [((0, 0), .arr false 3 yTTask (ML encTTask (mkL mk_TTask 3 k p ++ l.drop p)))]) 2 (fun p => l.length - p) 0 100 (by simp) (by simp) (by simp) ?_
  intro p hp
  simp
  have hs : ∀ x, x = mk_TTask (k + 3 * (p : Int)) → p < l.length → mkL mk_TTask 3 k p ++ (l.drop p).set 0 x = mkL mk_TTask 3 k (p + 1) ++ l.drop (p + 1) := fun x hx hlt => mark_step0 hlt hx
  refine ⟨fun hlt => ?_, fun hge => ?_⟩
  · repeat' (first | omega | refine And.intro ?_ ?_ | intro _)
    all_goals refine Again.mk (p + 1) (by omega) ?_ (by first | omega | (simp; omega))
    all_goals (rw [hs _ (by simp [mark_get0 hlt, mark_get hlt]; first | done | omega) hlt]; simp; omega)
  have : p = l.length := by omega
  subst this
  simp
  trace_state
theorem c83_ok : c83.ok Try.prog := mkCon_ok fun ⟨l, k⟩ hpre => c83_pc l k hpre
/-- loop.example/g03007/laws.heldTaskS -/
noncomputable def c84 : Con := mkCon 84 false (α := (List TTask) × Int) (fun x => (fun (l : List TTask) (k : Int) => [encLTTask l, dI k]) x.1 x.2) (fun _ => []) (fun x => (fun (l : List TTask) (k : Int) => l.length ≤ 1099511627776 ∧ 0 ≤ k ∧ k ≤ 1152921504606846976) x.1 x.2) (fun x => (fun (l : List TTask) (k : Int) => (dI (if l = mkL mk_TTask 3 k l.length then k + 3 * l.length else -1) : D)) x.1 x.2) (fun x => (fun (l : List TTask) (k : Int) => []) x.1 x.2)
@[simp] theorem c84_f : c84.f = 84 := rfl
@[simp] theorem c84_own : c84.own = false := rfl
theorem c84_inj : ∀ u_ v_ : (List TTask) × Int, ((fun x => (fun (l : List TTask) (k : Int) => [encLTTask l, dI k]) x.1 x.2) u_).map nz = ((fun x => (fun (l : List TTask) (k : Int) => [encLTTask l, dI k]) x.1 x.2) v_).map nz → u_ = v_ := by
  intro u_ v_ h
  obtain ⟨l, k⟩ := u_
  obtain ⟨l', k'⟩ := v_
  simp [nz_lit, nz1_lit, nz_agg, nz_sl, nz1_sl, encLTTask] at h
  first | (simp [h]; done) | (obtain ⟨⟩ := h; simp_all; done) | simp_all
@[simp] theorem c84_fn (l : List TTask) (k : Int) : c84.fn [.sl false 3 yTTask (ML encTTask l), .lit (.int .i64 k)] [] = some ((fun (l : List TTask) (k : Int) => l.length ≤ 1099511627776 ∧ 0 ≤ k ∧ k ≤ 1152921504606846976) l k, (fun (l : List TTask) (k : Int) => (dI (if l = mkL mk_TTask 3 k l.length then k + 3 * l.length else -1) : D)) l k, (fun (l : List TTask) (k : Int) => []) l k) :=
  mkCon_fn (fun x y h _ => c84_inj x y h) ((l, k) : (List TTask) × Int) (by simp [nz, nz1, ML_nil, encLTTask]) rfl
@[simp] theorem c84_fn1 (s_l : Nat) (z_l : D) (k : Int) : c84.fn [.sl false s_l z_l [], .lit (.int .i64 k)] [] = some ((fun (l : List TTask) (k : Int) => l.length ≤ 1099511627776 ∧ 0 ≤ k ∧ k ≤ 1152921504606846976) [] k, (fun (l : List TTask) (k : Int) => (dI (if l = mkL mk_TTask 3 k l.length then k + 3 * l.length else -1) : D)) [] k, (fun (l : List TTask) (k : Int) => []) [] k) :=
  mkCon_fn (fun x y h _ => c84_inj x y h) (([], k) : (List TTask) × Int) (by simp [nz, nz1, ML_nil, encLTTask]) rfl
theorem c84_pc (l : List TTask) (k : Int) (hpre : l.length ≤ 1099511627776 ∧ 0 ≤ k ∧ k ≤ 1152921504606846976) : PCo Try.prog 84 [encLTTask l, dI k] (Tab.of []) (dI (if l = mkL mk_TTask 3 k l.length then k + 3 * l.length else -1)) (Tab.of []) := by
  refine pco_of_run [] (E := ⟨[], []⟩) (m := false) (base := 0) Env.ok_nil G_ok mix 300 6 Try.func84 (by kernel_rfl) rfl (by kernel_rfl) (by kernel_rfl) rfl ?_
  simp [Try.f84]
  obtain ⟨pre1, pre2, pre3⟩ := hpre
  refine loop_inv (fun p : Nat => p ≤ l.length ∧ l.take p = (mkL mk_TTask 3 k l.length).take p) (fun p => [(0, encLTTask l), (1, dI (k + 3 * p)), (5, dI p)]) (fun _ => []) 1 (fun p => l.length - p) 0 100 (by simp) (by simp) (by simp) ?_
  intro p ⟨hp, hi⟩
  simp
  refine ⟨fun hlt => ?_, fun hge => ?_⟩
  · have hx := mkL_get (f := mk_TTask) (m := 3) (k := k) (d := default) hlt
    by_cases he : l[p]?.getD default = mk_TTask (k + 3 * (p : Int))
    · repeat' (first | omega | refine And.intro ?_ ?_ | intro _)
      all_goals first | exact Again.mk (p + 1) ⟨by omega, take_eq_step hi (by omega) (by simp; omega) (by rw [hx]; exact he)⟩ (by simp; omega) (by first | omega | (simp; omega)) | (exfalso; simp [he] at *; done) | (exfalso; simp [he] at *; omega)
    · have hne : ¬ l = mkL mk_TTask 3 k l.length := fun e => he (by rw [← hx]; exact congrArg (fun z => z[p]?.getD default) e)
      repeat' (first | omega | rfl | refine And.intro ?_ ?_ | intro _)
      all_goals first | (exfalso; apply hne; assumption) | (exfalso; apply he; cases hq : l[p]?.getD default; simp_all; done) | (exfalso; apply he; cases hq : l[p]?.getD default; simp_all; omega)
  · have h4 := take_eq_full hi hge (by simp; omega)
    rw [if_pos h4]; omega
theorem c84_ok : c84.ok Try.prog := mkCon_ok fun ⟨l, k⟩ hpre => c84_pc l k hpre
def isDueBy (now : Int) (x : TTask) : Bool := decide (x.Day ≤ now.tdiv 24) && !decide (x.Fate = 0)
def mToday (l : List TTask) (now : Int) : List TTask := if mIn now 0 100000 then pick (isDueBy now) (fun x => x) l else []
theorem tdiv24 {x : Int} (h : 0 ≤ x) : x.tdiv 24 = x / 24 := Int.tdiv_eq_ediv_of_nonneg h
/-- loop.example/g03007/impl.dayOf -/
noncomputable def c127 : Con := mkCon 127 false (α := Int) (fun x => (fun (n : Int) => [dI n]) x) (fun _ => []) (fun x => (fun (n : Int) => 0 ≤ n ∧ n ≤ 1000000) x) (fun x => (fun (n : Int) => (dI (n.tdiv 24) : D)) x) (fun x => (fun (n : Int) => []) x)
@[simp] theorem c127_f : c127.f = 127 := rfl
@[simp] theorem c127_own : c127.own = false := rfl
theorem c127_inj : ∀ u_ v_ : Int, ((fun x => (fun (n : Int) => [dI n]) x) u_).map nz = ((fun x => (fun (n : Int) => [dI n]) x) v_).map nz → u_ = v_ := by
  intro u_ v_ h
  obtain n := u_
  obtain n' := v_
  simp [nz_lit, nz1_lit, nz_agg, nz_sl, nz1_sl] at h
  first | (simp [h]; done) | (obtain ⟨⟩ := h; simp_all; done) | simp_all
@[simp] theorem c127_fn (n : Int) : c127.fn [.lit (.int .i64 n)] [] = some ((fun (n : Int) => 0 ≤ n ∧ n ≤ 1000000) n, (fun (n : Int) => (dI (n.tdiv 24) : D)) n, (fun (n : Int) => []) n) :=
  mkCon_fn (fun x y h _ => c127_inj x y h) (n : Int) (by simp [nz, nz1, ML_nil]) rfl
theorem c127_pc (n : Int) (hpre : 0 ≤ n ∧ n ≤ 1000000) : PCo Try.prog 127 [dI n] (Tab.of []) (dI (n.tdiv 24)) (Tab.of []) := by
  refine pco_of_run [] (E := ⟨[], []⟩) (m := false) (base := 0) Env.ok_nil G_ok mix 300 6 Try.func127 (by kernel_rfl) rfl (by kernel_rfl) (by kernel_rfl) rfl ?_
  simp [Try.f127]
  have := tdiv24 hpre.1
  omega
theorem c127_ok : c127.ok Try.prog := mkCon_ok fun n hpre => c127_pc n hpre
theorem mToday_at {l : List TTask} {now : Int} {p : Nat} (h : p < l.length) (h2 : mIn now 0 100000 = true) : mToday (l.take (p + 1)) now = mToday (l.take p) now ++ if isDueBy now (l[p]?.getD default) then [l[p]?.getD default] else [] := by
  simp only [mToday, h2, if_true]; rw [pick_at (d := default) h]
theorem mToday_len (l : List TTask) (now : Int) (p : Nat) : (mToday (l.take p) now).length ≤ p := by
  simp only [mToday]; split
  · exact pick_take_len _ _
  · simp
theorem mToday_no {l : List TTask} {now : Int} (h : mIn now 0 100000 = false) : mToday l now = [] := by simp [mToday, h]
/-- loop.example/g03007/spec.Today -/
noncomputable def c79 : Con := mkCon 79 false (α := (List TTask) × Int) (fun x => (fun (l : List TTask) (now : Int) => [encLTTask l, dI now]) x.1 x.2) (fun _ => []) (fun x => (fun (l : List TTask) (now : Int) => l.length ≤ 1073741823 ∧ -9223372036854775808 ≤ now ∧ now ≤ 9223372036854775807) x.1 x.2) (fun x => (fun (l : List TTask) (now : Int) => (.own (0, 1) 3 0 (mToday l now).length : D)) x.1 x.2) (fun x => (fun (l : List TTask) (now : Int) => [((0, 1), .arr false 3 yTTask (ML encTTask (mToday l now)))]) x.1 x.2)
@[simp] theorem c79_f : c79.f = 79 := rfl
@[simp] theorem c79_own : c79.own = false := rfl
theorem c79_inj : ∀ u_ v_ : (List TTask) × Int, ((fun x => (fun (l : List TTask) (now : Int) => [encLTTask l, dI now]) x.1 x.2) u_).map nz = ((fun x => (fun (l : List TTask) (now : Int) => [encLTTask l, dI now]) x.1 x.2) v_).map nz → u_ = v_ := by
  intro u_ v_ h
  obtain ⟨l, now⟩ := u_
  obtain ⟨l', now'⟩ := v_
  simp [nz_lit, nz1_lit, nz_agg, nz_sl, nz1_sl, encLTTask] at h
  first | (simp [h]; done) | (obtain ⟨⟩ := h; simp_all; done) | simp_all
@[simp] theorem c79_fn (l : List TTask) (now : Int) : c79.fn [.sl false 3 yTTask (ML encTTask l), .lit (.int .i64 now)] [] = some ((fun (l : List TTask) (now : Int) => l.length ≤ 1073741823 ∧ -9223372036854775808 ≤ now ∧ now ≤ 9223372036854775807) l now, (fun (l : List TTask) (now : Int) => (.own (0, 1) 3 0 (mToday l now).length : D)) l now, (fun (l : List TTask) (now : Int) => [((0, 1), .arr false 3 yTTask (ML encTTask (mToday l now)))]) l now) :=
  mkCon_fn (fun x y h _ => c79_inj x y h) ((l, now) : (List TTask) × Int) (by simp [nz, nz1, ML_nil, encLTTask]) rfl
@[simp] theorem c79_fn1 (s_l : Nat) (z_l : D) (now : Int) : c79.fn [.sl false s_l z_l [], .lit (.int .i64 now)] [] = some ((fun (l : List TTask) (now : Int) => l.length ≤ 1073741823 ∧ -9223372036854775808 ≤ now ∧ now ≤ 9223372036854775807) [] now, (fun (l : List TTask) (now : Int) => (.own (0, 1) 3 0 (mToday l now).length : D)) [] now, (fun (l : List TTask) (now : Int) => [((0, 1), .arr false 3 yTTask (ML encTTask (mToday l now)))]) [] now) :=
  mkCon_fn (fun x y h _ => c79_inj x y h) (([], now) : (List TTask) × Int) (by simp [nz, nz1, ML_nil, encLTTask]) rfl
theorem c79_pc (l : List TTask) (now : Int) (hpre : l.length ≤ 1073741823 ∧ -9223372036854775808 ≤ now ∧ now ≤ 9223372036854775807) : PCo Try.prog 79 [encLTTask l, dI now] (Tab.of []) (.own (0, 1) 3 0 (mToday l now).length) (Tab.of [((0, 1), .arr false 3 yTTask (ML encTTask (mToday l now)))]) := by
  refine pco_of_run [] (E := ⟨[c116], []⟩) (m := false) (base := 0) (Env.ok_cons c116_ok Env.ok_nil) G_ok mix 300 6 Try.func79 (by kernel_rfl) rfl (by kernel_rfl) (by kernel_rfl) rfl ?_
  simp [Try.f79]
  refine loop_inv (fun p : Nat => p ≤ l.length) (fun p => [(0, encLTTask l), (1, dI now), (5, .own (0, 1) 3 0 (mToday (l.take p) now).length), (6, dI p)]) (fun p => [((0, 1), .arr false 3 yTTask (ML encTTask (mToday (l.take p) now)))]) 2 (fun p => l.length - p) 0 400 (by simp) (by simp) (by simp [mToday]) ?_
  intro p hp
  simp
  refine ⟨fun hlt hn => ?_, fun hge => ?_⟩
  · have hn2 := mIn_iff.1 hn
    have hs := mToday_at hlt hn
    have hb := mToday_len l now p
    have ht := tdiv24 hn2.1
    have hsT : isDueBy now (l[p]?.getD default) = true → mToday (l.take (p + 1)) now = mToday (l.take p) now ++ [l[p]?.getD default] := fun h => by rw [hs, if_pos h]
    have hsF : isDueBy now (l[p]?.getD default) = false → mToday (l.take (p + 1)) now = mToday (l.take p) now := fun h => by rw [hs, if_neg (by simp [h]), List.append_nil]
    repeat' (first | omega | refine And.intro ?_ ?_ | intro _)
    all_goals first | (have hw : isDueBy now (l[p]?.getD default) = true := (by simp only [isDueBy]; grind); exact Again.mk (p + 1) (by omega) (by simp [hsT hw]) (by first | omega | (simp; omega))) | (have hw : isDueBy now (l[p]?.getD default) = false := (by simp only [isDueBy]; grind); exact Again.mk (p + 1) (by omega) (by simp [hsF hw]) (by first | omega | (simp; omega)))
  · by_cases hn : mIn now 0 100000 = true
    · have hge2 := hge
      simp [hn] at hge2
      rw [List.take_of_length_le hge2]; simp
    · simp only [Bool.not_eq_true] at hn
      rw [mToday_no hn, mToday_no hn]; simp
theorem c79_ok : c79.ok Try.prog := mkCon_ok fun ⟨l, now⟩ hpre => c79_pc l now hpre
/-- loop.example/g03007/impl.Today -/
noncomputable def c81 : Con := mkCon 81 false (α := (List TTask) × Int) (fun x => (fun (l : List TTask) (now : Int) => [encLTTask l, dI now]) x.1 x.2) (fun _ => []) (fun x => (fun (l : List TTask) (now : Int) => l.length ≤ 1073741823 ∧ -9223372036854775808 ≤ now ∧ now ≤ 9223372036854775807) x.1 x.2) (fun x => (fun (l : List TTask) (now : Int) => (.own (0, 1) 3 0 (mToday l now).length : D)) x.1 x.2) (fun x => (fun (l : List TTask) (now : Int) => [((0, 1), .arr false 3 yTTask (ML encTTask (mToday l now)))]) x.1 x.2)
@[simp] theorem c81_f : c81.f = 81 := rfl
@[simp] theorem c81_own : c81.own = false := rfl
theorem c81_inj : ∀ u_ v_ : (List TTask) × Int, ((fun x => (fun (l : List TTask) (now : Int) => [encLTTask l, dI now]) x.1 x.2) u_).map nz = ((fun x => (fun (l : List TTask) (now : Int) => [encLTTask l, dI now]) x.1 x.2) v_).map nz → u_ = v_ := by
  intro u_ v_ h
  obtain ⟨l, now⟩ := u_
  obtain ⟨l', now'⟩ := v_
  simp [nz_lit, nz1_lit, nz_agg, nz_sl, nz1_sl, encLTTask] at h
  first | (simp [h]; done) | (obtain ⟨⟩ := h; simp_all; done) | simp_all
@[simp] theorem c81_fn (l : List TTask) (now : Int) : c81.fn [.sl false 3 yTTask (ML encTTask l), .lit (.int .i64 now)] [] = some ((fun (l : List TTask) (now : Int) => l.length ≤ 1073741823 ∧ -9223372036854775808 ≤ now ∧ now ≤ 9223372036854775807) l now, (fun (l : List TTask) (now : Int) => (.own (0, 1) 3 0 (mToday l now).length : D)) l now, (fun (l : List TTask) (now : Int) => [((0, 1), .arr false 3 yTTask (ML encTTask (mToday l now)))]) l now) :=
  mkCon_fn (fun x y h _ => c81_inj x y h) ((l, now) : (List TTask) × Int) (by simp [nz, nz1, ML_nil, encLTTask]) rfl
@[simp] theorem c81_fn1 (s_l : Nat) (z_l : D) (now : Int) : c81.fn [.sl false s_l z_l [], .lit (.int .i64 now)] [] = some ((fun (l : List TTask) (now : Int) => l.length ≤ 1073741823 ∧ -9223372036854775808 ≤ now ∧ now ≤ 9223372036854775807) [] now, (fun (l : List TTask) (now : Int) => (.own (0, 1) 3 0 (mToday l now).length : D)) [] now, (fun (l : List TTask) (now : Int) => [((0, 1), .arr false 3 yTTask (ML encTTask (mToday l now)))]) [] now) :=
  mkCon_fn (fun x y h _ => c81_inj x y h) (([], now) : (List TTask) × Int) (by simp [nz, nz1, ML_nil, encLTTask]) rfl
theorem c81_pc (l : List TTask) (now : Int) (hpre : l.length ≤ 1073741823 ∧ -9223372036854775808 ≤ now ∧ now ≤ 9223372036854775807) : PCo Try.prog 81 [encLTTask l, dI now] (Tab.of []) (.own (0, 1) 3 0 (mToday l now).length) (Tab.of [((0, 1), .arr false 3 yTTask (ML encTTask (mToday l now)))]) := by
  refine pco_of_run [7] (E := ⟨[c117, c127], []⟩) (m := false) (base := 0) (Env.ok_cons c117_ok (Env.ok_cons c127_ok Env.ok_nil)) G_ok mix 300 6 Try.func81 (by kernel_rfl) rfl (by kernel_rfl) (by kernel_rfl) rfl ?_
  simp [Try.f81]
  refine ⟨fun hn => by rw [mToday_no hn]; simp, fun hn => ?_⟩
  have hn2 := mIn_iff.1 hn
  refine loop_inv (fun p : Nat => p ≤ l.length) (fun p => [(1, dI now), (5, .own (0, 1) 3 0 (mToday (l.take p) now).length), (13, encLTTask l), (14, dI l.length), (15, dI p)]) (fun p => [((0, 1), .arr false 3 yTTask (ML encTTask (mToday (l.take p) now)))]) 2 (fun p => l.length - p) 0 400 (by simp) (by simp) (by simp [mToday]) ?_
  intro p hp
  simp
  refine ⟨fun hlt => ?_, fun hge => ?_⟩
  · have hs := mToday_at hlt hn
    have hb := mToday_len l now p
    have ht := tdiv24 hn2.1
    have hsT : isDueBy now (l[p]?.getD default) = true → mToday (l.take (p + 1)) now = mToday (l.take p) now ++ [l[p]?.getD default] := fun h => by rw [hs, if_pos h]
    have hsF : isDueBy now (l[p]?.getD default) = false → mToday (l.take (p + 1)) now = mToday (l.take p) now := fun h => by rw [hs, if_neg (by simp [h]), List.append_nil]
    repeat' (first | omega | refine And.intro ?_ ?_ | intro _)
    all_goals first | (have hw : isDueBy now (l[p]?.getD default) = true := (by simp only [isDueBy]; grind); exact Again.mk (p + 1) (by omega) (by simp [hsT hw]) (by first | omega | (simp; omega))) | (have hw : isDueBy now (l[p]?.getD default) = false := (by simp only [isDueBy]; grind); exact Again.mk (p + 1) (by omega) (by simp [hsF hw]) (by first | omega | (simp; omega)))
  · rw [List.take_of_length_le hge]; simp
theorem c81_ok : c81.ok Try.prog := mkCon_ok fun ⟨l, now⟩ hpre => c81_pc l now hpre
/-- loop.example/g03007/laws.FnExactToday -/
theorem law14 (l : List TTask) (wl : wfLTTask l) (now : Int) (wnow : inR .i64 now) : PCo Try.prog 14 [encLTTask l, dI now] (Tab.of []) (dB true) (Tab.of []) := by
  refine pco_of_run [] (E := ⟨[c78, c79, c80, c81, c82, c83, c84], []⟩) (m := false) (base := 0) (Env.ok_cons c78_ok (Env.ok_cons c79_ok (Env.ok_cons c80_ok (Env.ok_cons c81_ok (Env.ok_cons c82_ok (Env.ok_cons c83_ok (Env.ok_cons c84_ok Env.ok_nil))))))) G_ok mix 400 6 Try.func14 (by kernel_rfl) rfl (by kernel_rfl) (by kernel_rfl) rfl ?_
  simp [Try.f14]
  have h1 : l.length ≤ maxLen := wl.1
  have hb := mToday_len l now l.length
  rw [List.take_of_length_le (Nat.le_refl _)] at hb
  have hn := wnow
  simp [inR] at hn
  refine ⟨h1, fun h => ?_⟩
  split at h
  · omega
  · repeat' (first | omega | refine And.intro ?_ ?_ | intro _)
theorem law14_pc (D0 : D) (h0 : Sh G 9 112 D0) (D1 : D) (h1 : Sh G 9 3 D1) : PC Try.prog 14 [D0, D1] (dB true) [] := by
  obtain ⟨l, rfl, wl⟩ := sh112 (n := 6) h0
  obtain ⟨now, rfl, wnow⟩ := sh3 (n := 8) h1
  exact law14 l wl now wnow

end Go.Proofs.Ytkccphdoolpmaaa
