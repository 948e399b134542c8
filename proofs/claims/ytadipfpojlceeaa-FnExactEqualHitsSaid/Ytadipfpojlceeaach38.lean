/- Contracts of the functions that the laws run. -/
import Derived.Test.Ytadipfpojlceeaach01
import Derived.Test.YtadipfpojlceeaaEngB
namespace Go.Proofs.Ytadipfpojlceeaa
open Go Go.Eng
set_option linter.unusedSimpArgs false
set_option linter.unusedVariables false
set_option maxRecDepth 10000
set_option maxHeartbeats 1000000
/-- loop.example/g03007/laws.toHit -/
noncomputable def c181 : Con := mkCon 181 false (α := THit) (fun x => (fun (a : THit) => [encTHit a]) x) (fun _ => []) (fun x => (fun (a : THit) => True) x) (fun x => (fun (a : THit) => (encTHit a : D)) x) (fun x => (fun (a : THit) => []) x)
@[simp] theorem c181_f : c181.f = 181 := rfl
@[simp] theorem c181_own : c181.own = false := rfl
theorem c181_inj : ∀ u_ v_ : THit, ((fun x => (fun (a : THit) => [encTHit a]) x) u_).map nz = ((fun x => (fun (a : THit) => [encTHit a]) x) v_).map nz → u_ = v_ := by
  intro u_ v_ h
  obtain ⟨a_House, a_Thing⟩ := u_
  obtain ⟨a_House', a_Thing'⟩ := v_
  simp [nz_lit, nz1_lit, nz_agg, nz_sl, nz1_sl, encTHit] at h
  first | (simp [h]; done) | (obtain ⟨⟩ := h; simp_all; done) | simp_all
@[simp] theorem c181_fn (a_House : Int) (a_Thing : Int) : c181.fn [.agg [.lit (.int .i64 a_House), .lit (.int .i64 a_Thing)]] [] = some ((fun (a : THit) => True) ⟨a_House, a_Thing⟩, (fun (a : THit) => (encTHit a : D)) ⟨a_House, a_Thing⟩, (fun (a : THit) => []) ⟨a_House, a_Thing⟩) :=
  mkCon_fn (fun x y h _ => c181_inj x y h) (⟨a_House, a_Thing⟩ : THit) (by simp [nz, nz1, ML_nil, encTHit]) rfl
theorem c181_pc (a : THit) : PCo Try.prog 181 [encTHit a] (Tab.of []) (encTHit a) (Tab.of []) := by
  obtain ⟨a_House, a_Thing⟩ := a
  refine pco_of_run [] (E := ⟨[], []⟩) (m := false) (base := 0) Env.ok_nil G_ok mix 300 6 Try.func181 (by kernel_rfl) rfl (by kernel_rfl) (by kernel_rfl) rfl ?_
  simp [Try.f181]
  all_goals first | omega | (rw [Bool.eq_iff_iff]; simp; omega) | grind
theorem c181_ok : c181.ok Try.prog := mkCon_ok fun a hpre => c181_pc a
/-- loop.example/g03007/laws.eqHit -/
noncomputable def c183 : Con := mkCon 183 false (α := THit × THit) (fun x => (fun (a : THit) (b : THit) => [encTHit a, encTHit b]) x.1 x.2) (fun _ => []) (fun x => (fun (a : THit) (b : THit) => True) x.1 x.2) (fun x => (fun (a : THit) (b : THit) => (dB (decide (a = b)) : D)) x.1 x.2) (fun x => (fun (a : THit) (b : THit) => []) x.1 x.2)
@[simp] theorem c183_f : c183.f = 183 := rfl
@[simp] theorem c183_own : c183.own = false := rfl
theorem c183_inj : ∀ u_ v_ : THit × THit, ((fun x => (fun (a : THit) (b : THit) => [encTHit a, encTHit b]) x.1 x.2) u_).map nz = ((fun x => (fun (a : THit) (b : THit) => [encTHit a, encTHit b]) x.1 x.2) v_).map nz → u_ = v_ := by
  intro u_ v_ h
  obtain ⟨⟨a_House, a_Thing⟩, ⟨b_House, b_Thing⟩⟩ := u_
  obtain ⟨⟨a_House', a_Thing'⟩, ⟨b_House', b_Thing'⟩⟩ := v_
  simp [nz_lit, nz1_lit, nz_agg, nz_sl, nz1_sl, encTHit] at h
  first | (simp [h]; done) | (obtain ⟨⟩ := h; simp_all; done) | simp_all
@[simp] theorem c183_fn (a_House : Int) (a_Thing : Int) (b_House : Int) (b_Thing : Int) : c183.fn [.agg [.lit (.int .i64 a_House), .lit (.int .i64 a_Thing)], .agg [.lit (.int .i64 b_House), .lit (.int .i64 b_Thing)]] [] = some ((fun (a : THit) (b : THit) => True) ⟨a_House, a_Thing⟩ ⟨b_House, b_Thing⟩, (fun (a : THit) (b : THit) => (dB (decide (a = b)) : D)) ⟨a_House, a_Thing⟩ ⟨b_House, b_Thing⟩, (fun (a : THit) (b : THit) => []) ⟨a_House, a_Thing⟩ ⟨b_House, b_Thing⟩) :=
  mkCon_fn (fun x y h _ => c183_inj x y h) ((⟨a_House, a_Thing⟩, ⟨b_House, b_Thing⟩) : THit × THit) (by simp [nz, nz1, ML_nil, encTHit]) rfl
theorem c183_pc (a : THit) (b : THit) : PCo Try.prog 183 [encTHit a, encTHit b] (Tab.of []) (dB (decide (a = b))) (Tab.of []) := by
  obtain ⟨a_House, a_Thing⟩ := a
  obtain ⟨b_House, b_Thing⟩ := b
  refine pco_of_run [] (E := ⟨[], []⟩) (m := false) (base := 0) Env.ok_nil G_ok mix 300 6 Try.func183 (by kernel_rfl) rfl (by kernel_rfl) (by kernel_rfl) rfl ?_
  simp [Try.f183]
  all_goals first | omega | (rw [Bool.eq_iff_iff]; simp; omega) | grind
theorem c183_ok : c183.ok Try.prog := mkCon_ok fun ⟨a, b⟩ hpre => c183_pc a b
/-- loop.example/g03007/laws.szHitS -/
noncomputable def c109 : Con := mkCon 109 false (α := (List THit) × Int) (fun x => (fun (l : List THit) (left : Int) => [encLTHit l, dI left]) x.1 x.2) (fun _ => []) (fun x => (fun (l : List THit) (left : Int) => l.length ≤ maxLen ∧ 0 ≤ left ∧ left ≤ 1099511627776) x.1 x.2) (fun x => (fun (l : List THit) (left : Int) => (dI (if left - l.length < 0 then -1 else left - l.length) : D)) x.1 x.2) (fun x => (fun (l : List THit) (left : Int) => []) x.1 x.2)
@[simp] theorem c109_f : c109.f = 109 := rfl
@[simp] theorem c109_own : c109.own = false := rfl
theorem c109_inj : ∀ u_ v_ : (List THit) × Int, ((fun x => (fun (l : List THit) (left : Int) => [encLTHit l, dI left]) x.1 x.2) u_).map nz = ((fun x => (fun (l : List THit) (left : Int) => [encLTHit l, dI left]) x.1 x.2) v_).map nz → u_ = v_ := by
  intro u_ v_ h
  obtain ⟨l, left⟩ := u_
  obtain ⟨l', left'⟩ := v_
  simp [nz_lit, nz1_lit, nz_agg, nz_sl, nz1_sl, encLTHit] at h
  first | (simp [h]; done) | (obtain ⟨⟩ := h; simp_all; done) | simp_all
@[simp] theorem c109_fn (l : List THit) (left : Int) : c109.fn [.sl false 2 yTHit (ML encTHit l), .lit (.int .i64 left)] [] = some ((fun (l : List THit) (left : Int) => l.length ≤ maxLen ∧ 0 ≤ left ∧ left ≤ 1099511627776) l left, (fun (l : List THit) (left : Int) => (dI (if left - l.length < 0 then -1 else left - l.length) : D)) l left, (fun (l : List THit) (left : Int) => []) l left) :=
  mkCon_fn (fun x y h _ => c109_inj x y h) ((l, left) : (List THit) × Int) (by simp [nz, nz1, ML_nil, encLTHit]) rfl
@[simp] theorem c109_fn1 (s_l : Nat) (z_l : D) (left : Int) : c109.fn [.sl false s_l z_l [], .lit (.int .i64 left)] [] = some ((fun (l : List THit) (left : Int) => l.length ≤ maxLen ∧ 0 ≤ left ∧ left ≤ 1099511627776) [] left, (fun (l : List THit) (left : Int) => (dI (if left - l.length < 0 then -1 else left - l.length) : D)) [] left, (fun (l : List THit) (left : Int) => []) [] left) :=
  mkCon_fn (fun x y h _ => c109_inj x y h) (([], left) : (List THit) × Int) (by simp [nz, nz1, ML_nil, encLTHit]) rfl
theorem c109_pc (l : List THit) (left : Int) (hpre : l.length ≤ maxLen ∧ 0 ≤ left ∧ left ≤ 1099511627776) : PCo Try.prog 109 [encLTHit l, dI left] (Tab.of []) (dI (if left - l.length < 0 then -1 else left - l.length)) (Tab.of []) := by
  refine pco_of_run [] (E := ⟨[], []⟩) (m := false) (base := 0) Env.ok_nil G_ok mix 300 6 Try.func109 (by kernel_rfl) rfl (by kernel_rfl) (by kernel_rfl) rfl ?_
  simp [Try.f109]
  simp [maxLen] at hpre
  all_goals omega
theorem c109_ok : c109.ok Try.prog := mkCon_ok fun ⟨l, left⟩ hpre => c109_pc l left hpre
/-- loop.example/g03007/laws.toHitS -/
noncomputable def c111 : Con := mkCon 111 false (α := (List THit)) (fun x => (fun (l : List THit) => [encLTHit l]) x) (fun _ => []) (fun x => (fun (l : List THit) => l.length ≤ 1099511627776) x) (fun x => (fun (l : List THit) => (encLTHit l : D)) x) (fun x => (fun (l : List THit) => []) x)
@[simp] theorem c111_f : c111.f = 111 := rfl
@[simp] theorem c111_own : c111.own = false := rfl
theorem c111_inj : ∀ u_ v_ : (List THit), ((fun x => (fun (l : List THit) => [encLTHit l]) x) u_).map nz = ((fun x => (fun (l : List THit) => [encLTHit l]) x) v_).map nz → u_ = v_ := by
  intro u_ v_ h
  obtain l := u_
  obtain l' := v_
  simp [nz_lit, nz1_lit, nz_agg, nz_sl, nz1_sl, encLTHit] at h
  first | (simp [h]; done) | (obtain ⟨⟩ := h; simp_all; done) | simp_all
@[simp] theorem c111_fn (l : List THit) : c111.fn [.sl false 2 yTHit (ML encTHit l)] [] = some ((fun (l : List THit) => l.length ≤ 1099511627776) l, (fun (l : List THit) => (encLTHit l : D)) l, (fun (l : List THit) => []) l) :=
  mkCon_fn (fun x y h _ => c111_inj x y h) (l : (List THit)) (by simp [nz, nz1, ML_nil, encLTHit]) rfl
@[simp] theorem c111_fn1 (s_l : Nat) (z_l : D) : c111.fn [.sl false s_l z_l []] [] = some ((fun (l : List THit) => l.length ≤ 1099511627776) [], (fun (l : List THit) => (encLTHit l : D)) [], (fun (l : List THit) => []) []) :=
  mkCon_fn (fun x y h _ => c111_inj x y h) ([] : (List THit)) (by simp [nz, nz1, ML_nil, encLTHit]) rfl
theorem c111_pc (l : List THit) (hpre : l.length ≤ 1099511627776) : PCo Try.prog 111 [encLTHit l] (Tab.of []) (encLTHit l) (Tab.of []) := by
  refine pco_of_run [] (E := ⟨[c181], []⟩) (m := false) (base := 0) (Env.ok_cons c181_ok Env.ok_nil) G_ok mix 300 6 Try.func111 (by kernel_rfl) rfl (by kernel_rfl) (by kernel_rfl) rfl ?_
  simp [Try.f111]
  refine ⟨by omega, ?_⟩
  refine loop_inv (fun p : Nat => p ≤ l.length) (fun p => [(0, encLTHit l), (3, .own (0, 1) 2 0 l.length), (4, dI p)]) (fun p => [((0, 1), .arr false 2 yTHit (ML encTHit (l.take p ++ List.replicate (l.length - p) ⟨0, 0⟩)))]) 2 (fun p => l.length - p) 0 100 (by simp) (by simp) (by first | (simp; done) | (simp; simp only [ML, List.map_replicate]; rfl)) ?_
  intro p hp
  simp
  refine ⟨fun hlt => ⟨by omega, by omega, Again.mk (p + 1) (by omega) (by simp [fill_step hlt]) (by first | omega | (simp; omega))⟩, fun hge => ?_⟩
  have : p = l.length := by omega
  subst this
  simp
theorem c111_ok : c111.ok Try.prog := mkCon_ok fun l hpre => c111_pc l hpre
/-- loop.example/g03007/laws.eqHitS -/
noncomputable def c113 : Con := mkCon 113 false (α := (List THit) × (List THit)) (fun x => (fun (a : List THit) (b : List THit) => [encLTHit a, encLTHit b]) x.1 x.2) (fun _ => []) (fun x => (fun (a : List THit) (b : List THit) => a.length ≤ 1099511627776 ∧ b.length ≤ 1099511627776) x.1 x.2) (fun x => (fun (a : List THit) (b : List THit) => (dB (decide (a = b)) : D)) x.1 x.2) (fun x => (fun (a : List THit) (b : List THit) => []) x.1 x.2)
@[simp] theorem c113_f : c113.f = 113 := rfl
@[simp] theorem c113_own : c113.own = false := rfl
theorem c113_inj : ∀ u_ v_ : (List THit) × (List THit), ((fun x => (fun (a : List THit) (b : List THit) => [encLTHit a, encLTHit b]) x.1 x.2) u_).map nz = ((fun x => (fun (a : List THit) (b : List THit) => [encLTHit a, encLTHit b]) x.1 x.2) v_).map nz → u_ = v_ := by
  intro u_ v_ h
  obtain ⟨a, b⟩ := u_
  obtain ⟨a', b'⟩ := v_
  simp [nz_lit, nz1_lit, nz_agg, nz_sl, nz1_sl, encLTHit] at h
  first | (simp [h]; done) | (obtain ⟨⟩ := h; simp_all; done) | simp_all
@[simp] theorem c113_fn (a : List THit) (b : List THit) : c113.fn [.sl false 2 yTHit (ML encTHit a), .sl false 2 yTHit (ML encTHit b)] [] = some ((fun (a : List THit) (b : List THit) => a.length ≤ 1099511627776 ∧ b.length ≤ 1099511627776) a b, (fun (a : List THit) (b : List THit) => (dB (decide (a = b)) : D)) a b, (fun (a : List THit) (b : List THit) => []) a b) :=
  mkCon_fn (fun x y h _ => c113_inj x y h) ((a, b) : (List THit) × (List THit)) (by simp [nz, nz1, ML_nil, encLTHit]) rfl
@[simp] theorem c113_fn1 (s_a : Nat) (z_a : D) (b : List THit) : c113.fn [.sl false s_a z_a [], .sl false 2 yTHit (ML encTHit b)] [] = some ((fun (a : List THit) (b : List THit) => a.length ≤ 1099511627776 ∧ b.length ≤ 1099511627776) [] b, (fun (a : List THit) (b : List THit) => (dB (decide (a = b)) : D)) [] b, (fun (a : List THit) (b : List THit) => []) [] b) :=
  mkCon_fn (fun x y h _ => c113_inj x y h) (([], b) : (List THit) × (List THit)) (by simp [nz, nz1, ML_nil, encLTHit]) rfl
@[simp] theorem c113_fn2 (a : List THit) (s_b : Nat) (z_b : D) : c113.fn [.sl false 2 yTHit (ML encTHit a), .sl false s_b z_b []] [] = some ((fun (a : List THit) (b : List THit) => a.length ≤ 1099511627776 ∧ b.length ≤ 1099511627776) a [], (fun (a : List THit) (b : List THit) => (dB (decide (a = b)) : D)) a [], (fun (a : List THit) (b : List THit) => []) a []) :=
  mkCon_fn (fun x y h _ => c113_inj x y h) ((a, []) : (List THit) × (List THit)) (by simp [nz, nz1, ML_nil, encLTHit]) rfl
@[simp] theorem c113_fn3 (s_a : Nat) (z_a : D) (s_b : Nat) (z_b : D) : c113.fn [.sl false s_a z_a [], .sl false s_b z_b []] [] = some ((fun (a : List THit) (b : List THit) => a.length ≤ 1099511627776 ∧ b.length ≤ 1099511627776) [] [], (fun (a : List THit) (b : List THit) => (dB (decide (a = b)) : D)) [] [], (fun (a : List THit) (b : List THit) => []) [] []) :=
  mkCon_fn (fun x y h _ => c113_inj x y h) (([], []) : (List THit) × (List THit)) (by simp [nz, nz1, ML_nil, encLTHit]) rfl
theorem c113_pc (a : List THit) (b : List THit) (hpre : a.length ≤ 1099511627776 ∧ b.length ≤ 1099511627776) : PCo Try.prog 113 [encLTHit a, encLTHit b] (Tab.of []) (dB (decide (a = b))) (Tab.of []) := by
  refine pco_of_run [] (E := ⟨[c183], []⟩) (m := false) (base := 0) (Env.ok_cons c183_ok Env.ok_nil) G_ok mix 300 6 Try.func113 (by kernel_rfl) rfl (by kernel_rfl) (by kernel_rfl) rfl ?_
  simp [Try.f113]
  obtain ⟨pre1, pre2⟩ := hpre
  refine ⟨fun h => ?_, fun h => by intro e; subst e; exact absurd rfl h⟩
  refine loop_inv (fun p : Nat => p ≤ a.length ∧ a.take p = b.take p) (fun p => [(0, encLTHit a), (1, encLTHit b), (5, dI p)]) (fun _ => []) 1 (fun p => a.length - p) 0 100 (by simp) (by simp) (by simp) ?_
  intro p ⟨hp, hi⟩
  simp
  refine ⟨fun hlt => ⟨by omega, fun h2 => ⟨by omega, Again.mk (p + 1) ⟨by omega, take_eq_step hi (by omega) (by omega) h2⟩ (by simp) (by first | omega | (simp; omega))⟩, fun h2 => by intro e; subst e; exact absurd rfl h2⟩, fun hge => ?_⟩
  exact take_eq_full hi (by omega) (by omega)
theorem c113_ok : c113.ok Try.prog := mkCon_ok fun ⟨a, b⟩ hpre => c113_pc a b hpre
theorem hit_ext {x y : THit} (h1 : x.House = y.House) (h2 : x.Thing = y.Thing) : x = y := by
  cases x; cases y; simp_all
/-- loop.example/g03007/spec.EqualHits -/
noncomputable def c110 : Con := mkCon 110 false (α := (List THit) × (List THit)) (fun x => (fun (a : List THit) (b : List THit) => [encLTHit a, encLTHit b]) x.1 x.2) (fun _ => []) (fun x => (fun (a : List THit) (b : List THit) => a.length ≤ 1099511627776 ∧ b.length ≤ 1099511627776) x.1 x.2) (fun x => (fun (a : List THit) (b : List THit) => (dB (decide (a = b)) : D)) x.1 x.2) (fun x => (fun (a : List THit) (b : List THit) => []) x.1 x.2)
@[simp] theorem c110_f : c110.f = 110 := rfl
@[simp] theorem c110_own : c110.own = false := rfl
theorem c110_inj : ∀ u_ v_ : (List THit) × (List THit), ((fun x => (fun (a : List THit) (b : List THit) => [encLTHit a, encLTHit b]) x.1 x.2) u_).map nz = ((fun x => (fun (a : List THit) (b : List THit) => [encLTHit a, encLTHit b]) x.1 x.2) v_).map nz → u_ = v_ := by
  intro u_ v_ h
  obtain ⟨a, b⟩ := u_
  obtain ⟨a', b'⟩ := v_
  simp [nz_lit, nz1_lit, nz_agg, nz_sl, nz1_sl, encLTHit] at h
  first | (simp [h]; done) | (obtain ⟨⟩ := h; simp_all; done) | simp_all
@[simp] theorem c110_fn (a : List THit) (b : List THit) : c110.fn [.sl false 2 yTHit (ML encTHit a), .sl false 2 yTHit (ML encTHit b)] [] = some ((fun (a : List THit) (b : List THit) => a.length ≤ 1099511627776 ∧ b.length ≤ 1099511627776) a b, (fun (a : List THit) (b : List THit) => (dB (decide (a = b)) : D)) a b, (fun (a : List THit) (b : List THit) => []) a b) :=
  mkCon_fn (fun x y h _ => c110_inj x y h) ((a, b) : (List THit) × (List THit)) (by simp [nz, nz1, ML_nil, encLTHit]) rfl
@[simp] theorem c110_fn1 (s_a : Nat) (z_a : D) (b : List THit) : c110.fn [.sl false s_a z_a [], .sl false 2 yTHit (ML encTHit b)] [] = some ((fun (a : List THit) (b : List THit) => a.length ≤ 1099511627776 ∧ b.length ≤ 1099511627776) [] b, (fun (a : List THit) (b : List THit) => (dB (decide (a = b)) : D)) [] b, (fun (a : List THit) (b : List THit) => []) [] b) :=
  mkCon_fn (fun x y h _ => c110_inj x y h) (([], b) : (List THit) × (List THit)) (by simp [nz, nz1, ML_nil, encLTHit]) rfl
@[simp] theorem c110_fn2 (a : List THit) (s_b : Nat) (z_b : D) : c110.fn [.sl false 2 yTHit (ML encTHit a), .sl false s_b z_b []] [] = some ((fun (a : List THit) (b : List THit) => a.length ≤ 1099511627776 ∧ b.length ≤ 1099511627776) a [], (fun (a : List THit) (b : List THit) => (dB (decide (a = b)) : D)) a [], (fun (a : List THit) (b : List THit) => []) a []) :=
  mkCon_fn (fun x y h _ => c110_inj x y h) ((a, []) : (List THit) × (List THit)) (by simp [nz, nz1, ML_nil, encLTHit]) rfl
@[simp] theorem c110_fn3 (s_a : Nat) (z_a : D) (s_b : Nat) (z_b : D) : c110.fn [.sl false s_a z_a [], .sl false s_b z_b []] [] = some ((fun (a : List THit) (b : List THit) => a.length ≤ 1099511627776 ∧ b.length ≤ 1099511627776) [] [], (fun (a : List THit) (b : List THit) => (dB (decide (a = b)) : D)) [] [], (fun (a : List THit) (b : List THit) => []) [] []) :=
  mkCon_fn (fun x y h _ => c110_inj x y h) (([], []) : (List THit) × (List THit)) (by simp [nz, nz1, ML_nil, encLTHit]) rfl
theorem c110_pc (a : List THit) (b : List THit) (hpre : a.length ≤ 1099511627776 ∧ b.length ≤ 1099511627776) : PCo Try.prog 110 [encLTHit a, encLTHit b] (Tab.of []) (dB (decide (a = b))) (Tab.of []) := by
  refine pco_of_run [] (E := ⟨[], []⟩) (m := false) (base := 0) Env.ok_nil G_ok mix 300 6 Try.func110 (by kernel_rfl) rfl (by kernel_rfl) (by kernel_rfl) rfl ?_
  simp [Try.f110]
  obtain ⟨pre1, pre2⟩ := hpre
  refine ⟨fun h => ?_, fun h => by intro e; subst e; exact absurd rfl h⟩
  refine loop_inv (fun p : Nat => p ≤ a.length ∧ a.take p = b.take p) (fun p => [(0, encLTHit a), (1, encLTHit b), (5, dI p)]) (fun _ => []) 1 (fun p => a.length - p) 0 100 (by simp) (by simp) (by simp) ?_
  intro p ⟨hp, hi⟩
  simp
  refine ⟨fun hlt => ?_, fun hge => ?_⟩
  · have hx := fun h1 h2 => hit_ext (x := a[p]?.getD default) (y := b[p]?.getD default) h1 h2
    repeat' (first | omega | refine And.intro ?_ ?_ | intro _)
    all_goals first | exact Again.mk (p + 1) ⟨by omega, take_eq_step hi (by omega) (by omega) (hx (by assumption) (by assumption))⟩ (by simp) (by first | omega | (simp; omega)) | (rename_i hn e; subst e; exact absurd rfl hn) | (rename_i hn _ e; subst e; exact absurd rfl hn) | (subst_vars; simp_all; done) | trace_state
  · exact take_eq_full hi (by omega) (by omega)
theorem c110_ok : c110.ok Try.prog := mkCon_ok fun ⟨a, b⟩ hpre => c110_pc a b hpre
/-- slices.Equal[[]loop.example/g03007/impl.Hi -/
noncomputable def c182 : Con := mkCon 182 false (α := (List THit) × (List THit)) (fun x => (fun (a : List THit) (b : List THit) => [encLTHit a, encLTHit b]) x.1 x.2) (fun _ => []) (fun x => (fun (a : List THit) (b : List THit) => a.length ≤ 1099511627776 ∧ b.length ≤ 1099511627776) x.1 x.2) (fun x => (fun (a : List THit) (b : List THit) => (dB (decide (a = b)) : D)) x.1 x.2) (fun x => (fun (a : List THit) (b : List THit) => []) x.1 x.2)
@[simp] theorem c182_f : c182.f = 182 := rfl
@[simp] theorem c182_own : c182.own = false := rfl
theorem c182_inj : ∀ u_ v_ : (List THit) × (List THit), ((fun x => (fun (a : List THit) (b : List THit) => [encLTHit a, encLTHit b]) x.1 x.2) u_).map nz = ((fun x => (fun (a : List THit) (b : List THit) => [encLTHit a, encLTHit b]) x.1 x.2) v_).map nz → u_ = v_ := by
  intro u_ v_ h
  obtain ⟨a, b⟩ := u_
  obtain ⟨a', b'⟩ := v_
  simp [nz_lit, nz1_lit, nz_agg, nz_sl, nz1_sl, encLTHit] at h
  first | (simp [h]; done) | (obtain ⟨⟩ := h; simp_all; done) | simp_all
@[simp] theorem c182_fn (a : List THit) (b : List THit) : c182.fn [.sl false 2 yTHit (ML encTHit a), .sl false 2 yTHit (ML encTHit b)] [] = some ((fun (a : List THit) (b : List THit) => a.length ≤ 1099511627776 ∧ b.length ≤ 1099511627776) a b, (fun (a : List THit) (b : List THit) => (dB (decide (a = b)) : D)) a b, (fun (a : List THit) (b : List THit) => []) a b) :=
  mkCon_fn (fun x y h _ => c182_inj x y h) ((a, b) : (List THit) × (List THit)) (by simp [nz, nz1, ML_nil, encLTHit]) rfl
@[simp] theorem c182_fn1 (s_a : Nat) (z_a : D) (b : List THit) : c182.fn [.sl false s_a z_a [], .sl false 2 yTHit (ML encTHit b)] [] = some ((fun (a : List THit) (b : List THit) => a.length ≤ 1099511627776 ∧ b.length ≤ 1099511627776) [] b, (fun (a : List THit) (b : List THit) => (dB (decide (a = b)) : D)) [] b, (fun (a : List THit) (b : List THit) => []) [] b) :=
  mkCon_fn (fun x y h _ => c182_inj x y h) (([], b) : (List THit) × (List THit)) (by simp [nz, nz1, ML_nil, encLTHit]) rfl
@[simp] theorem c182_fn2 (a : List THit) (s_b : Nat) (z_b : D) : c182.fn [.sl false 2 yTHit (ML encTHit a), .sl false s_b z_b []] [] = some ((fun (a : List THit) (b : List THit) => a.length ≤ 1099511627776 ∧ b.length ≤ 1099511627776) a [], (fun (a : List THit) (b : List THit) => (dB (decide (a = b)) : D)) a [], (fun (a : List THit) (b : List THit) => []) a []) :=
  mkCon_fn (fun x y h _ => c182_inj x y h) ((a, []) : (List THit) × (List THit)) (by simp [nz, nz1, ML_nil, encLTHit]) rfl
@[simp] theorem c182_fn3 (s_a : Nat) (z_a : D) (s_b : Nat) (z_b : D) : c182.fn [.sl false s_a z_a [], .sl false s_b z_b []] [] = some ((fun (a : List THit) (b : List THit) => a.length ≤ 1099511627776 ∧ b.length ≤ 1099511627776) [] [], (fun (a : List THit) (b : List THit) => (dB (decide (a = b)) : D)) [] [], (fun (a : List THit) (b : List THit) => []) [] []) :=
  mkCon_fn (fun x y h _ => c182_inj x y h) (([], []) : (List THit) × (List THit)) (by simp [nz, nz1, ML_nil, encLTHit]) rfl
theorem c182_pc (a : List THit) (b : List THit) (hpre : a.length ≤ 1099511627776 ∧ b.length ≤ 1099511627776) : PCo Try.prog 182 [encLTHit a, encLTHit b] (Tab.of []) (dB (decide (a = b))) (Tab.of []) := by
  refine pco_of_run [] (E := ⟨[], []⟩) (m := false) (base := 0) Env.ok_nil G_ok mix 300 6 Try.func182 (by kernel_rfl) rfl (by kernel_rfl) (by kernel_rfl) rfl ?_
  simp [Try.f182]
  obtain ⟨pre1, pre2⟩ := hpre
  refine ⟨fun h => ?_, fun h => by intro e; subst e; exact absurd rfl h⟩
  refine loop_inv (fun p : Nat => p ≤ a.length ∧ a.take p = b.take p) (fun p => [(0, encLTHit a), (1, encLTHit b), (12, dI a.length), (13, dI p)]) (fun _ => []) 1 (fun p => a.length - p) 0 100 (by simp) (by simp) (by simp) ?_
  intro p ⟨hp, hi⟩
  simp
  refine ⟨fun hlt => ?_, fun hge => ?_⟩
  · have hx := fun h1 h2 => hit_ext (x := a[p]?.getD default) (y := b[p]?.getD default) h1 h2
    repeat' (first | omega | refine And.intro ?_ ?_ | intro _)
    all_goals first | exact Again.mk (p + 1) ⟨by omega, take_eq_step hi (by omega) (by omega) (hx (by assumption) (by assumption))⟩ (by simp) (by first | omega | (simp; omega)) | (rename_i hn e; subst e; exact absurd rfl hn) | (rename_i hn _ e; subst e; exact absurd rfl hn) | (subst_vars; simp_all; done) | trace_state
  · exact take_eq_full hi (by omega) (by omega)
theorem c182_ok : c182.ok Try.prog := mkCon_ok fun ⟨a, b⟩ hpre => c182_pc a b hpre
/-- loop.example/g03007/impl.EqualHits -/
noncomputable def c112 : Con := mkCon 112 false (α := (List THit) × (List THit)) (fun x => (fun (a : List THit) (b : List THit) => [encLTHit a, encLTHit b]) x.1 x.2) (fun _ => []) (fun x => (fun (a : List THit) (b : List THit) => a.length ≤ 1099511627776 ∧ b.length ≤ 1099511627776) x.1 x.2) (fun x => (fun (a : List THit) (b : List THit) => (dB (decide (a = b)) : D)) x.1 x.2) (fun x => (fun (a : List THit) (b : List THit) => []) x.1 x.2)
@[simp] theorem c112_f : c112.f = 112 := rfl
@[simp] theorem c112_own : c112.own = false := rfl
theorem c112_inj : ∀ u_ v_ : (List THit) × (List THit), ((fun x => (fun (a : List THit) (b : List THit) => [encLTHit a, encLTHit b]) x.1 x.2) u_).map nz = ((fun x => (fun (a : List THit) (b : List THit) => [encLTHit a, encLTHit b]) x.1 x.2) v_).map nz → u_ = v_ := by
  intro u_ v_ h
  obtain ⟨a, b⟩ := u_
  obtain ⟨a', b'⟩ := v_
  simp [nz_lit, nz1_lit, nz_agg, nz_sl, nz1_sl, encLTHit] at h
  first | (simp [h]; done) | (obtain ⟨⟩ := h; simp_all; done) | simp_all
@[simp] theorem c112_fn (a : List THit) (b : List THit) : c112.fn [.sl false 2 yTHit (ML encTHit a), .sl false 2 yTHit (ML encTHit b)] [] = some ((fun (a : List THit) (b : List THit) => a.length ≤ 1099511627776 ∧ b.length ≤ 1099511627776) a b, (fun (a : List THit) (b : List THit) => (dB (decide (a = b)) : D)) a b, (fun (a : List THit) (b : List THit) => []) a b) :=
  mkCon_fn (fun x y h _ => c112_inj x y h) ((a, b) : (List THit) × (List THit)) (by simp [nz, nz1, ML_nil, encLTHit]) rfl
@[simp] theorem c112_fn1 (s_a : Nat) (z_a : D) (b : List THit) : c112.fn [.sl false s_a z_a [], .sl false 2 yTHit (ML encTHit b)] [] = some ((fun (a : List THit) (b : List THit) => a.length ≤ 1099511627776 ∧ b.length ≤ 1099511627776) [] b, (fun (a : List THit) (b : List THit) => (dB (decide (a = b)) : D)) [] b, (fun (a : List THit) (b : List THit) => []) [] b) :=
  mkCon_fn (fun x y h _ => c112_inj x y h) (([], b) : (List THit) × (List THit)) (by simp [nz, nz1, ML_nil, encLTHit]) rfl
@[simp] theorem c112_fn2 (a : List THit) (s_b : Nat) (z_b : D) : c112.fn [.sl false 2 yTHit (ML encTHit a), .sl false s_b z_b []] [] = some ((fun (a : List THit) (b : List THit) => a.length ≤ 1099511627776 ∧ b.length ≤ 1099511627776) a [], (fun (a : List THit) (b : List THit) => (dB (decide (a = b)) : D)) a [], (fun (a : List THit) (b : List THit) => []) a []) :=
  mkCon_fn (fun x y h _ => c112_inj x y h) ((a, []) : (List THit) × (List THit)) (by simp [nz, nz1, ML_nil, encLTHit]) rfl
@[simp] theorem c112_fn3 (s_a : Nat) (z_a : D) (s_b : Nat) (z_b : D) : c112.fn [.sl false s_a z_a [], .sl false s_b z_b []] [] = some ((fun (a : List THit) (b : List THit) => a.length ≤ 1099511627776 ∧ b.length ≤ 1099511627776) [] [], (fun (a : List THit) (b : List THit) => (dB (decide (a = b)) : D)) [] [], (fun (a : List THit) (b : List THit) => []) [] []) :=
  mkCon_fn (fun x y h _ => c112_inj x y h) (([], []) : (List THit) × (List THit)) (by simp [nz, nz1, ML_nil, encLTHit]) rfl
theorem c112_pc (a : List THit) (b : List THit) (hpre : a.length ≤ 1099511627776 ∧ b.length ≤ 1099511627776) : PCo Try.prog 112 [encLTHit a, encLTHit b] (Tab.of []) (dB (decide (a = b))) (Tab.of []) := by
  refine pco_of_run [] (E := ⟨[c182], []⟩) (m := false) (base := 0) (Env.ok_cons c182_ok Env.ok_nil) G_ok mix 300 6 Try.func112 (by kernel_rfl) rfl (by kernel_rfl) (by kernel_rfl) rfl ?_
  simp [Try.f112]
  exact hpre
theorem c112_ok : c112.ok Try.prog := mkCon_ok fun ⟨a, b⟩ hpre => c112_pc a b hpre
/-- loop.example/g03007/laws.FnExactEqualHits -/
theorem law28 (a : List THit) (wa : wfLTHit a) (b : List THit) (wb : wfLTHit b) : PCo Try.prog 28 [encLTHit a, encLTHit b] (Tab.of []) (dB true) (Tab.of []) := by
  refine pco_of_run [] (E := ⟨[c109, c110, c111, c112, c113], []⟩) (m := false) (base := 0) (Env.ok_cons c109_ok (Env.ok_cons c110_ok (Env.ok_cons c111_ok (Env.ok_cons c112_ok (Env.ok_cons c113_ok Env.ok_nil))))) G_ok mix 400 6 Try.func28 (by kernel_rfl) rfl (by kernel_rfl) (by kernel_rfl) rfl ?_
  simp [Try.f28]
  have h_a : a.length ≤ maxLen := wa.1
  have h_b : b.length ≤ maxLen := wb.1
  repeat' (first | omega | assumption | refine And.intro ?_ ?_ | intro _)
  all_goals first | omega | grind | (split at * <;> omega)
theorem law28_pc (D0 : D) (h0 : Sh G 9 118 D0) (D1 : D) (h1 : Sh G 9 118 D1) : PC Try.prog 28 [D0, D1] (dB true) [] := by
  obtain ⟨a, rfl, wa⟩ := sh118 (n := 6) h0
  obtain ⟨b, rfl, wb⟩ := sh118 (n := 6) h1
  exact law28 a wa b wb

end Go.Proofs.Ytadipfpojlceeaa
