/- Contracts of the functions that the laws run. -/
import Derived.Test.Ytlnllkffifeggaagrp
import Derived.Test.YtlnllkffifeggaahelpA
import Derived.Test.Ytlnllkffifeggaach03
import Derived.Test.YtlnllkffifeggaaEngB
namespace Go.Proofs.Ytlnllkffifeggaa
open Go Go.Eng
set_option linter.unusedSimpArgs false
set_option linter.unusedVariables false
set_option maxRecDepth 10000
set_option maxHeartbeats 1000000
/-- loop.example/g03007/laws.toHand -/
noncomputable def c20 : Con := mkCon 20 false (α := THand) (fun x => (fun (a : THand) => [encTHand a]) x) (fun _ => []) (fun x => (fun (a : THand) => True) x) (fun x => (fun (a : THand) => (encTHand a : D)) x) (fun x => (fun (a : THand) => []) x)
@[simp] theorem c20_f : c20.f = 20 := rfl
@[simp] theorem c20_own : c20.own = false := rfl
theorem c20_inj : ∀ u_ v_ : THand, ((fun x => (fun (a : THand) => [encTHand a]) x) u_).map nz = ((fun x => (fun (a : THand) => [encTHand a]) x) v_).map nz → u_ = v_ := by
  intro u_ v_ h
  obtain ⟨a_Thing, a_Holder, a_Who, a_At, a_Seal⟩ := u_
  obtain ⟨a_Thing', a_Holder', a_Who', a_At', a_Seal'⟩ := v_
  simp [nz_lit, nz1_lit, nz_agg, nz_sl, nz1_sl, encTHand] at h
  first | (simp [h]; done) | (obtain ⟨⟩ := h; simp_all; done) | simp_all
@[simp] theorem c20_fn (a_Thing : Int) (a_Holder : Int) (a_Who : Int) (a_At : Int) (a_Seal : Int) : c20.fn [.agg [.lit (.int .i64 a_Thing), .lit (.int .i64 a_Holder), .lit (.int .i64 a_Who), .lit (.int .i64 a_At), .lit (.int .i64 a_Seal)]] [] = some ((fun (a : THand) => True) ⟨a_Thing, a_Holder, a_Who, a_At, a_Seal⟩, (fun (a : THand) => (encTHand a : D)) ⟨a_Thing, a_Holder, a_Who, a_At, a_Seal⟩, (fun (a : THand) => []) ⟨a_Thing, a_Holder, a_Who, a_At, a_Seal⟩) :=
  mkCon_fn (fun x y h _ => c20_inj x y h) (⟨a_Thing, a_Holder, a_Who, a_At, a_Seal⟩ : THand) (by simp [nz, nz1, ML_nil, encTHand]) rfl
theorem c20_pc (a : THand) : PCo Try.prog 20 [encTHand a] (Tab.of []) (encTHand a) (Tab.of []) := by
  obtain ⟨a_Thing, a_Holder, a_Who, a_At, a_Seal⟩ := a
  refine pco_of_run [] (E := ⟨[], []⟩) (m := false) (base := 0) Env.ok_nil G_ok mix 300 6 Try.func20 (by kernel_rfl) rfl (by kernel_rfl) (by kernel_rfl) rfl ?_
  simp [Try.f20]
  all_goals first | omega | (rw [Bool.eq_iff_iff]; simp; omega) | grind
theorem c20_ok : c20.ok Try.prog := mkCon_ok fun a hpre => c20_pc a
/-- loop.example/g03007/laws.eqHand -/
noncomputable def c27 : Con := mkCon 27 false (α := THand × THand) (fun x => (fun (a : THand) (b : THand) => [encTHand a, encTHand b]) x.1 x.2) (fun _ => []) (fun x => (fun (a : THand) (b : THand) => True) x.1 x.2) (fun x => (fun (a : THand) (b : THand) => (dB (decide (a = b)) : D)) x.1 x.2) (fun x => (fun (a : THand) (b : THand) => []) x.1 x.2)
@[simp] theorem c27_f : c27.f = 27 := rfl
@[simp] theorem c27_own : c27.own = false := rfl
theorem c27_inj : ∀ u_ v_ : THand × THand, ((fun x => (fun (a : THand) (b : THand) => [encTHand a, encTHand b]) x.1 x.2) u_).map nz = ((fun x => (fun (a : THand) (b : THand) => [encTHand a, encTHand b]) x.1 x.2) v_).map nz → u_ = v_ := by
  intro u_ v_ h
  obtain ⟨⟨a_Thing, a_Holder, a_Who, a_At, a_Seal⟩, ⟨b_Thing, b_Holder, b_Who, b_At, b_Seal⟩⟩ := u_
  obtain ⟨⟨a_Thing', a_Holder', a_Who', a_At', a_Seal'⟩, ⟨b_Thing', b_Holder', b_Who', b_At', b_Seal'⟩⟩ := v_
  simp [nz_lit, nz1_lit, nz_agg, nz_sl, nz1_sl, encTHand] at h
  first | (simp [h]; done) | (obtain ⟨⟩ := h; simp_all; done) | simp_all
@[simp] theorem c27_fn (a_Thing : Int) (a_Holder : Int) (a_Who : Int) (a_At : Int) (a_Seal : Int) (b_Thing : Int) (b_Holder : Int) (b_Who : Int) (b_At : Int) (b_Seal : Int) : c27.fn [.agg [.lit (.int .i64 a_Thing), .lit (.int .i64 a_Holder), .lit (.int .i64 a_Who), .lit (.int .i64 a_At), .lit (.int .i64 a_Seal)], .agg [.lit (.int .i64 b_Thing), .lit (.int .i64 b_Holder), .lit (.int .i64 b_Who), .lit (.int .i64 b_At), .lit (.int .i64 b_Seal)]] [] = some ((fun (a : THand) (b : THand) => True) ⟨a_Thing, a_Holder, a_Who, a_At, a_Seal⟩ ⟨b_Thing, b_Holder, b_Who, b_At, b_Seal⟩, (fun (a : THand) (b : THand) => (dB (decide (a = b)) : D)) ⟨a_Thing, a_Holder, a_Who, a_At, a_Seal⟩ ⟨b_Thing, b_Holder, b_Who, b_At, b_Seal⟩, (fun (a : THand) (b : THand) => []) ⟨a_Thing, a_Holder, a_Who, a_At, a_Seal⟩ ⟨b_Thing, b_Holder, b_Who, b_At, b_Seal⟩) :=
  mkCon_fn (fun x y h _ => c27_inj x y h) ((⟨a_Thing, a_Holder, a_Who, a_At, a_Seal⟩, ⟨b_Thing, b_Holder, b_Who, b_At, b_Seal⟩) : THand × THand) (by simp [nz, nz1, ML_nil, encTHand]) rfl
theorem c27_pc (a : THand) (b : THand) : PCo Try.prog 27 [encTHand a, encTHand b] (Tab.of []) (dB (decide (a = b))) (Tab.of []) := by
  obtain ⟨a_Thing, a_Holder, a_Who, a_At, a_Seal⟩ := a
  obtain ⟨b_Thing, b_Holder, b_Who, b_At, b_Seal⟩ := b
  refine pco_of_run [] (E := ⟨[], []⟩) (m := false) (base := 0) Env.ok_nil G_ok mix 300 6 Try.func27 (by kernel_rfl) rfl (by kernel_rfl) (by kernel_rfl) rfl ?_
  simp [Try.f27]
  all_goals first | omega | (rw [Bool.eq_iff_iff]; simp; omega) | grind
theorem c27_ok : c27.ok Try.prog := mkCon_ok fun ⟨a, b⟩ hpre => c27_pc a b
/-- loop.example/g03007/laws.szHandS -/
noncomputable def c4 : Con := mkCon 4 false (α := (List THand) × Int) (fun x => (fun (l : List THand) (left : Int) => [encLTHand l, dI left]) x.1 x.2) (fun _ => []) (fun x => (fun (l : List THand) (left : Int) => l.length ≤ maxLen ∧ 0 ≤ left ∧ left ≤ 1099511627776) x.1 x.2) (fun x => (fun (l : List THand) (left : Int) => (dI (if left - l.length < 0 then -1 else left - l.length) : D)) x.1 x.2) (fun x => (fun (l : List THand) (left : Int) => []) x.1 x.2)
@[simp] theorem c4_f : c4.f = 4 := rfl
@[simp] theorem c4_own : c4.own = false := rfl
theorem c4_inj : ∀ u_ v_ : (List THand) × Int, ((fun x => (fun (l : List THand) (left : Int) => [encLTHand l, dI left]) x.1 x.2) u_).map nz = ((fun x => (fun (l : List THand) (left : Int) => [encLTHand l, dI left]) x.1 x.2) v_).map nz → u_ = v_ := by
  intro u_ v_ h
  obtain ⟨l, left⟩ := u_
  obtain ⟨l', left'⟩ := v_
  simp [nz_lit, nz1_lit, nz_agg, nz_sl, nz1_sl, encLTHand] at h
  first | (simp [h]; done) | (obtain ⟨⟩ := h; simp_all; done) | simp_all
@[simp] theorem c4_fn (l : List THand) (left : Int) : c4.fn [.sl false 5 yTHand (ML encTHand l), .lit (.int .i64 left)] [] = some ((fun (l : List THand) (left : Int) => l.length ≤ maxLen ∧ 0 ≤ left ∧ left ≤ 1099511627776) l left, (fun (l : List THand) (left : Int) => (dI (if left - l.length < 0 then -1 else left - l.length) : D)) l left, (fun (l : List THand) (left : Int) => []) l left) :=
  mkCon_fn (fun x y h _ => c4_inj x y h) ((l, left) : (List THand) × Int) (by simp [nz, nz1, ML_nil, encLTHand]) rfl
@[simp] theorem c4_fn1 (s_l : Nat) (z_l : D) (left : Int) : c4.fn [.sl false s_l z_l [], .lit (.int .i64 left)] [] = some ((fun (l : List THand) (left : Int) => l.length ≤ maxLen ∧ 0 ≤ left ∧ left ≤ 1099511627776) [] left, (fun (l : List THand) (left : Int) => (dI (if left - l.length < 0 then -1 else left - l.length) : D)) [] left, (fun (l : List THand) (left : Int) => []) [] left) :=
  mkCon_fn (fun x y h _ => c4_inj x y h) (([], left) : (List THand) × Int) (by simp [nz, nz1, ML_nil, encLTHand]) rfl
theorem c4_pc (l : List THand) (left : Int) (hpre : l.length ≤ maxLen ∧ 0 ≤ left ∧ left ≤ 1099511627776) : PCo Try.prog 4 [encLTHand l, dI left] (Tab.of []) (dI (if left - l.length < 0 then -1 else left - l.length)) (Tab.of []) := by
  refine pco_of_run [] (E := ⟨[], []⟩) (m := false) (base := 0) Env.ok_nil G_ok mix 300 6 Try.func4 (by kernel_rfl) rfl (by kernel_rfl) (by kernel_rfl) rfl ?_
  simp [Try.f4]
  simp [maxLen] at hpre
  all_goals omega
theorem c4_ok : c4.ok Try.prog := mkCon_ok fun ⟨l, left⟩ hpre => c4_pc l left hpre
/-- loop.example/g03007/laws.toHandS -/
noncomputable def c7 : Con := mkCon 7 false (α := (List THand)) (fun x => (fun (l : List THand) => [encLTHand l]) x) (fun _ => []) (fun x => (fun (l : List THand) => l.length ≤ 1099511627776) x) (fun x => (fun (l : List THand) => (.own (0, 1) 5 0 l.length : D)) x) (fun x => (fun (l : List THand) => [((0, 1), .arr false 5 yTHand (ML encTHand l))]) x)
@[simp] theorem c7_f : c7.f = 7 := rfl
@[simp] theorem c7_own : c7.own = false := rfl
theorem c7_inj : ∀ u_ v_ : (List THand), ((fun x => (fun (l : List THand) => [encLTHand l]) x) u_).map nz = ((fun x => (fun (l : List THand) => [encLTHand l]) x) v_).map nz → u_ = v_ := by
  intro u_ v_ h
  obtain l := u_
  obtain l' := v_
  simp [nz_lit, nz1_lit, nz_agg, nz_sl, nz1_sl, encLTHand] at h
  first | (simp [h]; done) | (obtain ⟨⟩ := h; simp_all; done) | simp_all
@[simp] theorem c7_fn (l : List THand) : c7.fn [.sl false 5 yTHand (ML encTHand l)] [] = some ((fun (l : List THand) => l.length ≤ 1099511627776) l, (fun (l : List THand) => (.own (0, 1) 5 0 l.length : D)) l, (fun (l : List THand) => [((0, 1), .arr false 5 yTHand (ML encTHand l))]) l) :=
  mkCon_fn (fun x y h _ => c7_inj x y h) (l : (List THand)) (by simp [nz, nz1, ML_nil, encLTHand]) rfl
@[simp] theorem c7_fn1 (s_l : Nat) (z_l : D) : c7.fn [.sl false s_l z_l []] [] = some ((fun (l : List THand) => l.length ≤ 1099511627776) [], (fun (l : List THand) => (.own (0, 1) 5 0 l.length : D)) [], (fun (l : List THand) => [((0, 1), .arr false 5 yTHand (ML encTHand l))]) []) :=
  mkCon_fn (fun x y h _ => c7_inj x y h) ([] : (List THand)) (by simp [nz, nz1, ML_nil, encLTHand]) rfl
theorem c7_pc (l : List THand) (hpre : l.length ≤ 1099511627776) : PCo Try.prog 7 [encLTHand l] (Tab.of []) (.own (0, 1) 5 0 l.length) (Tab.of [((0, 1), .arr false 5 yTHand (ML encTHand l))]) := by
  refine pco_of_run [] (E := ⟨[c20], []⟩) (m := false) (base := 0) (Env.ok_cons c20_ok Env.ok_nil) G_ok mix 300 6 Try.func7 (by kernel_rfl) rfl (by kernel_rfl) (by kernel_rfl) rfl ?_
  simp [Try.f7]
  refine ⟨by omega, ?_⟩
  refine loop_inv (fun p : Nat => p ≤ l.length) (fun p => [(0, encLTHand l), (3, .own (0, 1) 5 0 l.length), (4, dI p)]) (fun p => [((0, 1), .arr false 5 yTHand (ML encTHand (l.take p ++ List.replicate (l.length - p) ⟨0, 0, 0, 0, 0⟩)))]) 2 (fun p => l.length - p) 0 100 (by simp) (by simp) (by first | (simp; done) | (simp; simp only [ML, List.map_replicate]; rfl)) ?_
  intro p hp
  simp
  refine ⟨fun hlt => ⟨by omega, by omega, Again.mk (p + 1) (by omega) (by simp [fill_step hlt]) (by first | omega | (simp; omega))⟩, fun hge => ?_⟩
  have : p = l.length := by omega
  subst this
  simp
theorem c7_ok : c7.ok Try.prog := mkCon_ok fun l hpre => c7_pc l hpre
/-- loop.example/g03007/laws.eqHandS -/
noncomputable def c10 : Con := mkCon 10 false (α := (List THand) × (List THand)) (fun x => (fun (a : List THand) (b : List THand) => [encLTHand a, encLTHand b]) x.1 x.2) (fun _ => []) (fun x => (fun (a : List THand) (b : List THand) => a.length ≤ 1099511627776 ∧ b.length ≤ 1099511627776) x.1 x.2) (fun x => (fun (a : List THand) (b : List THand) => (dB (decide (a = b)) : D)) x.1 x.2) (fun x => (fun (a : List THand) (b : List THand) => []) x.1 x.2)
@[simp] theorem c10_f : c10.f = 10 := rfl
@[simp] theorem c10_own : c10.own = false := rfl
theorem c10_inj : ∀ u_ v_ : (List THand) × (List THand), ((fun x => (fun (a : List THand) (b : List THand) => [encLTHand a, encLTHand b]) x.1 x.2) u_).map nz = ((fun x => (fun (a : List THand) (b : List THand) => [encLTHand a, encLTHand b]) x.1 x.2) v_).map nz → u_ = v_ := by
  intro u_ v_ h
  obtain ⟨a, b⟩ := u_
  obtain ⟨a', b'⟩ := v_
  simp [nz_lit, nz1_lit, nz_agg, nz_sl, nz1_sl, encLTHand] at h
  first | (simp [h]; done) | (obtain ⟨⟩ := h; simp_all; done) | simp_all
@[simp] theorem c10_fn (a : List THand) (b : List THand) : c10.fn [.sl false 5 yTHand (ML encTHand a), .sl false 5 yTHand (ML encTHand b)] [] = some ((fun (a : List THand) (b : List THand) => a.length ≤ 1099511627776 ∧ b.length ≤ 1099511627776) a b, (fun (a : List THand) (b : List THand) => (dB (decide (a = b)) : D)) a b, (fun (a : List THand) (b : List THand) => []) a b) :=
  mkCon_fn (fun x y h _ => c10_inj x y h) ((a, b) : (List THand) × (List THand)) (by simp [nz, nz1, ML_nil, encLTHand]) rfl
@[simp] theorem c10_fn1 (s_a : Nat) (z_a : D) (b : List THand) : c10.fn [.sl false s_a z_a [], .sl false 5 yTHand (ML encTHand b)] [] = some ((fun (a : List THand) (b : List THand) => a.length ≤ 1099511627776 ∧ b.length ≤ 1099511627776) [] b, (fun (a : List THand) (b : List THand) => (dB (decide (a = b)) : D)) [] b, (fun (a : List THand) (b : List THand) => []) [] b) :=
  mkCon_fn (fun x y h _ => c10_inj x y h) (([], b) : (List THand) × (List THand)) (by simp [nz, nz1, ML_nil, encLTHand]) rfl
@[simp] theorem c10_fn2 (a : List THand) (s_b : Nat) (z_b : D) : c10.fn [.sl false 5 yTHand (ML encTHand a), .sl false s_b z_b []] [] = some ((fun (a : List THand) (b : List THand) => a.length ≤ 1099511627776 ∧ b.length ≤ 1099511627776) a [], (fun (a : List THand) (b : List THand) => (dB (decide (a = b)) : D)) a [], (fun (a : List THand) (b : List THand) => []) a []) :=
  mkCon_fn (fun x y h _ => c10_inj x y h) ((a, []) : (List THand) × (List THand)) (by simp [nz, nz1, ML_nil, encLTHand]) rfl
@[simp] theorem c10_fn3 (s_a : Nat) (z_a : D) (s_b : Nat) (z_b : D) : c10.fn [.sl false s_a z_a [], .sl false s_b z_b []] [] = some ((fun (a : List THand) (b : List THand) => a.length ≤ 1099511627776 ∧ b.length ≤ 1099511627776) [] [], (fun (a : List THand) (b : List THand) => (dB (decide (a = b)) : D)) [] [], (fun (a : List THand) (b : List THand) => []) [] []) :=
  mkCon_fn (fun x y h _ => c10_inj x y h) (([], []) : (List THand) × (List THand)) (by simp [nz, nz1, ML_nil, encLTHand]) rfl
theorem c10_pc (a : List THand) (b : List THand) (hpre : a.length ≤ 1099511627776 ∧ b.length ≤ 1099511627776) : PCo Try.prog 10 [encLTHand a, encLTHand b] (Tab.of []) (dB (decide (a = b))) (Tab.of []) := by
  refine pco_of_run [] (E := ⟨[c27], []⟩) (m := false) (base := 0) (Env.ok_cons c27_ok Env.ok_nil) G_ok mix 300 6 Try.func10 (by kernel_rfl) rfl (by kernel_rfl) (by kernel_rfl) rfl ?_
  simp [Try.f10]
  obtain ⟨pre1, pre2⟩ := hpre
  refine ⟨fun h => ?_, fun h => by intro e; subst e; exact absurd rfl h⟩
  refine loop_inv (fun p : Nat => p ≤ a.length ∧ a.take p = b.take p) (fun p => [(0, encLTHand a), (1, encLTHand b), (5, dI p)]) (fun _ => []) 1 (fun p => a.length - p) 0 100 (by simp) (by simp) (by simp) ?_
  intro p ⟨hp, hi⟩
  simp
  refine ⟨fun hlt => ⟨by omega, fun h2 => ⟨by omega, Again.mk (p + 1) ⟨by omega, take_eq_step hi (by omega) (by omega) h2⟩ (by simp) (by first | omega | (simp; omega))⟩, fun h2 => by intro e; subst e; exact absurd rfl h2⟩, fun hge => ?_⟩
  exact take_eq_full hi (by omega) (by omega)
theorem c10_ok : c10.ok Try.prog := mkCon_ok fun ⟨a, b⟩ hpre => c10_pc a b hpre
abbrev mk_THand : Int → THand := fun n => ⟨n, n + 1, n + 2, n + 3, n + 4⟩
/-- loop.example/g03007/laws.markHandS -/
noncomputable def c12 : Con := mkCon 12 true (α := (List THand) × Int) (fun x => (fun (l : List THand) (k : Int) => ([.own (0, 0) 5 0 l.length, dI k] : List D)) x.1 x.2) (fun x => (fun (l : List THand) (k : Int) => ([((0, 0), .arr false 5 yTHand (ML encTHand l))] : List (Nm × OO))) x.1 x.2) (fun x => (fun (l : List THand) (k : Int) => l.length ≤ 1099511627776 ∧ 0 ≤ k ∧ k ≤ 1152921504606846976) x.1 x.2) (fun x => (fun (l : List THand) (k : Int) => (dI (k + 5 * l.length) : D)) x.1 x.2) (fun x => (fun (l : List THand) (k : Int) => ([((0, 0), .arr false 5 yTHand (ML encTHand (mkL mk_THand 5 k l.length)))] : List (Nm × OO))) x.1 x.2)
@[simp] theorem c12_f : c12.f = 12 := rfl
@[simp] theorem c12_own : c12.own = true := rfl
theorem c12_inj : ∀ u_ v_ : (List THand) × Int, ((fun x => (fun (l : List THand) (k : Int) => ([.own (0, 0) 5 0 l.length, dI k] : List D)) x.1 x.2) u_).map nz = ((fun x => (fun (l : List THand) (k : Int) => ([.own (0, 0) 5 0 l.length, dI k] : List D)) x.1 x.2) v_).map nz → (fun x => (fun (l : List THand) (k : Int) => ([((0, 0), .arr false 5 yTHand (ML encTHand l))] : List (Nm × OO))) x.1 x.2) u_ = (fun x => (fun (l : List THand) (k : Int) => ([((0, 0), .arr false 5 yTHand (ML encTHand l))] : List (Nm × OO))) x.1 x.2) v_ → u_ = v_ := by
  intro u_ v_ h h2_
  obtain ⟨l, k⟩ := u_
  obtain ⟨l', k'⟩ := v_
  simp [nz_lit, nz1_lit, nz_agg, nz_sl, nz1_sl, nz_sx, nz_el, nz1_el, nz_own, nz1_own, nz_ptr, nz_fn, nz_iface] at h h2_
  first | (simp [h, h2_]; done) | (obtain ⟨h3_, h4_⟩ := List.append_inj h2_ h.1; simp_all; done) | simp_all | grind
@[simp] theorem c12_fn (l : List THand) (k : Int) : c12.fn ([.own (0, 0) 5 0 l.length, dI k]) ([((0, 0), .arr false 5 yTHand (ML encTHand l))]) = some (l.length ≤ 1099511627776 ∧ 0 ≤ k ∧ k ≤ 1152921504606846976, dI (k + 5 * l.length), [((0, 0), .arr false 5 yTHand (ML encTHand (mkL mk_THand 5 k l.length)))]) :=
  mkCon_fn c12_inj ((l, k) : (List THand) × Int) rfl rfl
theorem c12_pc (l : List THand) (k : Int) (hpre : l.length ≤ 1099511627776 ∧ 0 ≤ k ∧ k ≤ 1152921504606846976) : PCo Try.prog 12 ([.own (0, 0) 5 0 l.length, dI k]) (Tab.of ([((0, 0), .arr false 5 yTHand (ML encTHand l))])) (dI (k + 5 * l.length)) (Tab.of ([((0, 0), .arr false 5 yTHand (ML encTHand (mkL mk_THand 5 k l.length)))])) := by
  refine pco_of_run [] (E := ⟨[], []⟩) (m := false) (base := 0) Env.ok_nil G_ok mix 300 6 Try.func12 (by kernel_rfl) rfl (by kernel_rfl) (by kernel_rfl) rfl ?_
  simp [Try.f12]
  obtain ⟨pre1, pre2, pre3⟩ := hpre
  refine loop_inv (fun p : Nat => p ≤ l.length) (fun p => [(0, .own (0, 0) 5 0 l.length), (1, dI (k + 5 * p)), (5, dI p)]) (fun p => [((0, 0), .arr false 5 yTHand (ML encTHand (mkL mk_THand 5 k p ++ l.drop p)))]) 2 (fun p => l.length - p) 0 100 (by simp) (by simp) (by simp) ?_
  intro p hp
  simp
  have hs : ∀ x, x = mk_THand (k + 5 * (p : Int)) → p < l.length → mkL mk_THand 5 k p ++ (l.drop p).set 0 x = mkL mk_THand 5 k (p + 1) ++ l.drop (p + 1) := fun x hx hlt => mark_step0 hlt hx
  refine ⟨fun hlt => ?_, fun hge => ?_⟩
  · repeat' (first | omega | refine And.intro ?_ ?_ | intro _)
    all_goals refine Again.mk (p + 1) (by omega) ?_ (by first | omega | (simp; omega))
    all_goals (rw [hs _ (by simp [mark_get0 hlt, mark_get hlt]; first | done | omega) hlt]; simp; omega)
  have : p = l.length := by omega
  subst this
  simp
  trace_state
theorem c12_ok : c12.ok Try.prog := mkCon_ok fun ⟨l, k⟩ hpre => c12_pc l k hpre
/-- loop.example/g03007/laws.heldHandS -/
noncomputable def c14 : Con := mkCon 14 false (α := (List THand) × Int) (fun x => (fun (l : List THand) (k : Int) => [encLTHand l, dI k]) x.1 x.2) (fun _ => []) (fun x => (fun (l : List THand) (k : Int) => l.length ≤ 1099511627776 ∧ 0 ≤ k ∧ k ≤ 1152921504606846976) x.1 x.2) (fun x => (fun (l : List THand) (k : Int) => (dI (if l = mkL mk_THand 5 k l.length then k + 5 * l.length else -1) : D)) x.1 x.2) (fun x => (fun (l : List THand) (k : Int) => []) x.1 x.2)
@[simp] theorem c14_f : c14.f = 14 := rfl
@[simp] theorem c14_own : c14.own = false := rfl
theorem c14_inj : ∀ u_ v_ : (List THand) × Int, ((fun x => (fun (l : List THand) (k : Int) => [encLTHand l, dI k]) x.1 x.2) u_).map nz = ((fun x => (fun (l : List THand) (k : Int) => [encLTHand l, dI k]) x.1 x.2) v_).map nz → u_ = v_ := by
  intro u_ v_ h
  obtain ⟨l, k⟩ := u_
  obtain ⟨l', k'⟩ := v_
  simp [nz_lit, nz1_lit, nz_agg, nz_sl, nz1_sl, encLTHand] at h
  first | (simp [h]; done) | (obtain ⟨⟩ := h; simp_all; done) | simp_all
@[simp] theorem c14_fn (l : List THand) (k : Int) : c14.fn [.sl false 5 yTHand (ML encTHand l), .lit (.int .i64 k)] [] = some ((fun (l : List THand) (k : Int) => l.length ≤ 1099511627776 ∧ 0 ≤ k ∧ k ≤ 1152921504606846976) l k, (fun (l : List THand) (k : Int) => (dI (if l = mkL mk_THand 5 k l.length then k + 5 * l.length else -1) : D)) l k, (fun (l : List THand) (k : Int) => []) l k) :=
  mkCon_fn (fun x y h _ => c14_inj x y h) ((l, k) : (List THand) × Int) (by simp [nz, nz1, ML_nil, encLTHand]) rfl
@[simp] theorem c14_fn1 (s_l : Nat) (z_l : D) (k : Int) : c14.fn [.sl false s_l z_l [], .lit (.int .i64 k)] [] = some ((fun (l : List THand) (k : Int) => l.length ≤ 1099511627776 ∧ 0 ≤ k ∧ k ≤ 1152921504606846976) [] k, (fun (l : List THand) (k : Int) => (dI (if l = mkL mk_THand 5 k l.length then k + 5 * l.length else -1) : D)) [] k, (fun (l : List THand) (k : Int) => []) [] k) :=
  mkCon_fn (fun x y h _ => c14_inj x y h) (([], k) : (List THand) × Int) (by simp [nz, nz1, ML_nil, encLTHand]) rfl
theorem c14_pc (l : List THand) (k : Int) (hpre : l.length ≤ 1099511627776 ∧ 0 ≤ k ∧ k ≤ 1152921504606846976) : PCo Try.prog 14 [encLTHand l, dI k] (Tab.of []) (dI (if l = mkL mk_THand 5 k l.length then k + 5 * l.length else -1)) (Tab.of []) := by
  refine pco_of_run [] (E := ⟨[], []⟩) (m := false) (base := 0) Env.ok_nil G_ok mix 300 6 Try.func14 (by kernel_rfl) rfl (by kernel_rfl) (by kernel_rfl) rfl ?_
  simp [Try.f14]
  obtain ⟨pre1, pre2, pre3⟩ := hpre
  refine loop_inv (fun p : Nat => p ≤ l.length ∧ l.take p = (mkL mk_THand 5 k l.length).take p) (fun p => [(0, encLTHand l), (1, dI (k + 5 * p)), (5, dI p)]) (fun _ => []) 1 (fun p => l.length - p) 0 100 (by simp) (by simp) (by simp) ?_
  intro p ⟨hp, hi⟩
  simp
  refine ⟨fun hlt => ?_, fun hge => ?_⟩
  · have hx := mkL_get (f := mk_THand) (m := 5) (k := k) (d := default) hlt
    by_cases he : l[p]?.getD default = mk_THand (k + 5 * (p : Int))
    · generalize hA : Again _ _ _ _ _ _ _ = A
      have hAA : A := by rw [← hA]; exact Again.mk (p + 1) ⟨by omega, take_eq_step hi (by omega) (by simp; omega) (by rw [hx]; exact he)⟩ (by simp; omega) (by first | omega | (simp; omega))
      clear hA
      simp only [he, mk_THand]
      repeat' (first | exact hAA | omega | refine And.intro ?_ ?_ | intro _)
      all_goals first | (exfalso; exact absurd trivial (by assumption)) | (exfalso; omega)
    · have hne : ¬ l = mkL mk_THand 5 k l.length := fun e => he (by rw [← hx]; exact congrArg (fun z => z[p]?.getD default) e)
      generalize Again _ _ _ _ _ _ _ = A
      repeat' (first | omega | rfl | refine And.intro ?_ ?_ | intro _)
      all_goals first | (exfalso; apply hne; assumption) | (exfalso; apply he; obtain ⟨x, hq⟩ : ∃ x, l[p]?.getD default = x := ⟨_, rfl⟩; simp only [hq] at *; obtain ⟨x1, x2, x3, x4, x5⟩ := x; simp [mk_THand] at *; omega)
  · have h4 := take_eq_full hi hge (by simp; omega)
    rw [if_pos h4]; omega
theorem c14_ok : c14.ok Try.prog := mkCon_ok fun ⟨l, k⟩ hpre => c14_pc l k hpre
@[simp] theorem c46_five (a b c d e : Int) : c46.fn [.sl false 1 (.lit (.int .i64 0)) [dI a, dI b, dI c, dI d, dI e]] [] = some (5 ≤ 1099511627776, dI (mHash [a, b, c, d, e]), []) := c46_fn [a, b, c, d, e]
@[simp] theorem c53_five (a b c d e : Int) : c53.fn [.sl false 1 (.lit (.int .i64 0)) [dI a, dI b, dI c, dI d, dI e]] [] = some (5 ≤ 1099511627776, dI (mHash [a, b, c, d, e]), []) := c53_fn [a, b, c, d, e]
def mHandSeal (b : Int) (x : THand) : Int := mHash [b, x.Thing, x.Holder, x.Who, x.At]
/-- loop.example/g03007/spec.HandSeal -/
noncomputable def c35 : Con := mkCon 35 false (α := Int × THand) (fun x => (fun (b : Int) (x : THand) => [dI b, encTHand x]) x.1 x.2) (fun _ => []) (fun x => (fun (b : Int) (x : THand) => True) x.1 x.2) (fun x => (fun (b : Int) (x : THand) => (dI (mHandSeal b x) : D)) x.1 x.2) (fun x => (fun (b : Int) (x : THand) => []) x.1 x.2)
@[simp] theorem c35_f : c35.f = 35 := rfl
@[simp] theorem c35_own : c35.own = false := rfl
theorem c35_inj : ∀ u_ v_ : Int × THand, ((fun x => (fun (b : Int) (x : THand) => [dI b, encTHand x]) x.1 x.2) u_).map nz = ((fun x => (fun (b : Int) (x : THand) => [dI b, encTHand x]) x.1 x.2) v_).map nz → u_ = v_ := by
  intro u_ v_ h
  obtain ⟨b, ⟨x_Thing, x_Holder, x_Who, x_At, x_Seal⟩⟩ := u_
  obtain ⟨b', ⟨x_Thing', x_Holder', x_Who', x_At', x_Seal'⟩⟩ := v_
  simp [nz_lit, nz1_lit, nz_agg, nz_sl, nz1_sl, encTHand] at h
  first | (simp [h]; done) | (obtain ⟨⟩ := h; simp_all; done) | simp_all
@[simp] theorem c35_fn (b : Int) (x_Thing : Int) (x_Holder : Int) (x_Who : Int) (x_At : Int) (x_Seal : Int) : c35.fn [.lit (.int .i64 b), .agg [.lit (.int .i64 x_Thing), .lit (.int .i64 x_Holder), .lit (.int .i64 x_Who), .lit (.int .i64 x_At), .lit (.int .i64 x_Seal)]] [] = some ((fun (b : Int) (x : THand) => True) b ⟨x_Thing, x_Holder, x_Who, x_At, x_Seal⟩, (fun (b : Int) (x : THand) => (dI (mHandSeal b x) : D)) b ⟨x_Thing, x_Holder, x_Who, x_At, x_Seal⟩, (fun (b : Int) (x : THand) => []) b ⟨x_Thing, x_Holder, x_Who, x_At, x_Seal⟩) :=
  mkCon_fn (fun x y h _ => c35_inj x y h) ((b, ⟨x_Thing, x_Holder, x_Who, x_At, x_Seal⟩) : Int × THand) (by simp [nz, nz1, ML_nil, encTHand]) rfl
theorem c35_pc (b : Int) (x : THand) : PCo Try.prog 35 [dI b, encTHand x] (Tab.of []) (dI (mHandSeal b x)) (Tab.of []) := by
  obtain ⟨x_Thing, x_Holder, x_Who, x_At, x_Seal⟩ := x
  refine pco_of_run [] (E := ⟨[c46], []⟩) (m := false) (base := 0) (Env.ok_cons c46_ok Env.ok_nil) G_ok mix 300 6 Try.func35 (by kernel_rfl) rfl (by kernel_rfl) (by kernel_rfl) rfl ?_
  simp [Try.f35]
  rfl
theorem c35_ok : c35.ok Try.prog := mkCon_ok fun ⟨b, x⟩ hpre => c35_pc b x
/-- loop.example/g03007/impl.HandSeal -/
noncomputable def c44 : Con := mkCon 44 false (α := Int × THand) (fun x => (fun (b : Int) (x : THand) => [dI b, encTHand x]) x.1 x.2) (fun _ => []) (fun x => (fun (b : Int) (x : THand) => True) x.1 x.2) (fun x => (fun (b : Int) (x : THand) => (dI (mHandSeal b x) : D)) x.1 x.2) (fun x => (fun (b : Int) (x : THand) => []) x.1 x.2)
@[simp] theorem c44_f : c44.f = 44 := rfl
@[simp] theorem c44_own : c44.own = false := rfl
theorem c44_inj : ∀ u_ v_ : Int × THand, ((fun x => (fun (b : Int) (x : THand) => [dI b, encTHand x]) x.1 x.2) u_).map nz = ((fun x => (fun (b : Int) (x : THand) => [dI b, encTHand x]) x.1 x.2) v_).map nz → u_ = v_ := by
  intro u_ v_ h
  obtain ⟨b, ⟨x_Thing, x_Holder, x_Who, x_At, x_Seal⟩⟩ := u_
  obtain ⟨b', ⟨x_Thing', x_Holder', x_Who', x_At', x_Seal'⟩⟩ := v_
  simp [nz_lit, nz1_lit, nz_agg, nz_sl, nz1_sl, encTHand] at h
  first | (simp [h]; done) | (obtain ⟨⟩ := h; simp_all; done) | simp_all
@[simp] theorem c44_fn (b : Int) (x_Thing : Int) (x_Holder : Int) (x_Who : Int) (x_At : Int) (x_Seal : Int) : c44.fn [.lit (.int .i64 b), .agg [.lit (.int .i64 x_Thing), .lit (.int .i64 x_Holder), .lit (.int .i64 x_Who), .lit (.int .i64 x_At), .lit (.int .i64 x_Seal)]] [] = some ((fun (b : Int) (x : THand) => True) b ⟨x_Thing, x_Holder, x_Who, x_At, x_Seal⟩, (fun (b : Int) (x : THand) => (dI (mHandSeal b x) : D)) b ⟨x_Thing, x_Holder, x_Who, x_At, x_Seal⟩, (fun (b : Int) (x : THand) => []) b ⟨x_Thing, x_Holder, x_Who, x_At, x_Seal⟩) :=
  mkCon_fn (fun x y h _ => c44_inj x y h) ((b, ⟨x_Thing, x_Holder, x_Who, x_At, x_Seal⟩) : Int × THand) (by simp [nz, nz1, ML_nil, encTHand]) rfl
theorem c44_pc (b : Int) (x : THand) : PCo Try.prog 44 [dI b, encTHand x] (Tab.of []) (dI (mHandSeal b x)) (Tab.of []) := by
  obtain ⟨x_Thing, x_Holder, x_Who, x_At, x_Seal⟩ := x
  refine pco_of_run [] (E := ⟨[c53], []⟩) (m := false) (base := 0) (Env.ok_cons c53_ok Env.ok_nil) G_ok mix 300 6 Try.func44 (by kernel_rfl) rfl (by kernel_rfl) (by kernel_rfl) rfl ?_
  simp [Try.f44]
  rfl
theorem c44_ok : c44.ok Try.prog := mkCon_ok fun ⟨b, x⟩ hpre => c44_pc b x
/-- a thing's hands, linked: the last one first -/
def linkR : List THand → D
  | [] => .lit (.pointer none)
  | x :: t => .el (.agg [.lit (.int .i64 x.Thing), .lit (.int .i64 x.Holder), .lit (.int .i64 x.Who), .lit (.int .i64 x.At), .lit (.int .i64 x.Seal), linkR t])
theorem linkR_nil : linkR [] = .lit (.pointer none) := rfl
theorem linkR_cons (x : THand) (t : List THand) : linkR (x :: t) = .el (.agg [.lit (.int .i64 x.Thing), .lit (.int .i64 x.Holder), .lit (.int .i64 x.Who), .lit (.int .i64 x.At), .lit (.int .i64 x.Seal), linkR t]) := rfl
@[simp] theorem linkR_inj : ∀ (a b : List THand), linkR a = linkR b ↔ a = b
  | [], [] => by simp
  | [], y :: u => by simp [linkR]
  | x :: t, [] => by simp [linkR]
  | x :: t, y :: u => by
    have := linkR_inj t u
    obtain ⟨a, b, c, d, e⟩ := x
    obtain ⟨a', b', c', d', e'⟩ := y
    simp [linkR, this, and_assoc]
@[simp high] theorem pureD_link : ∀ (l : List THand), pureD (linkR l) = true
  | [] => rfl
  | x :: t => by simp [linkR, pureD_link t]
@[simp high] theorem okD_link : ∀ (l : List THand), okD (linkR l) = true
  | [] => rfl
  | x :: t => rfl
@[simp high] theorem oneD_link : ∀ (l : List THand), oneD (linkR l) = true
  | [] => rfl
  | x :: t => rfl
@[simp high] theorem cellsD_link : ∀ (l : List THand), cellsD (linkR l) = [linkR l]
  | [] => rfl
  | x :: t => rfl
@[simp high] theorem isAgg_link : ∀ (l : List THand), (linkR l).isAgg = false
  | [] => rfl
  | x :: t => rfl
@[simp high] theorem partD_link (ti : TI) (l : List THand) : partD ti (linkR l) 0 = if ti.kind.isAgg = false then some (linkR l) else none := by
  by_cases h : ti.kind.isAgg = false
  · rw [if_pos h]; cases l <;> simp only [linkR, partD, h, oneD, Value.oneCell', and_self, if_true]
  · rw [if_neg h]; cases l <;> (simp only [linkR, partD]; rw [if_neg]; exact fun h2 => h h2.2.1)
@[simp high] theorem strip_link : ∀ (l : List THand), strip (linkR l) = linkR l
  | [] => rfl
  | x :: t => rfl
@[simp high] theorem scond_link (g : Bool) : ∀ (l : List THand), scond g (linkR l) = True
  | [] => rfl
  | x :: t => rfl
@[simp high] theorem nz_link : ∀ (l : List THand), nz (linkR l) = linkR l
  | [] => rfl
  | x :: t => rfl
@[simp high] theorem names_link : ∀ (l : List THand), namesD (linkR l) = [] := fun l => pure_name (pureD_link l)
@[simp high] theorem ren_link (ρ : Nm → Nm) (l : List THand) : renD ρ (linkR l) = linkR l := pure_ren (pureD_link l)
@[simp high] theorem lend_link (T : Tab) (k : Nat) : ∀ (l : List THand), lendD T (k + 1) (linkR l) = linkR l
  | [] => rfl
  | x :: t => by
    simp only [linkR, lendD]
    exact if_pos (pureD_link (x :: t))
@[simp high] theorem lendOk_link (T : Tab) (k : Nat) : ∀ (l : List THand), lendOk T (k + 1) (linkR l) = True
  | [] => by simp only [linkR, lendOk]
  | x :: t => by
    simp only [linkR, lendOk]
    exact if_pos (pureD_link (x :: t))
@[simp high] theorem pair_link (a b : List THand) : pairD (linkR a) (linkR b) = [] := by
  induction a generalizing b with
  | nil => cases b <;> rfl
  | cons x t ih => cases b with
    | nil => rfl
    | cons y u => simp [linkR, pairD, pairDs, ih]
@[simp high] theorem le_link (T : Tab) (Δ : List (Nm × Nm)) (a : List THand) : leD T Δ (linkR a) (linkR a) = True := by
  induction a with
  | nil => simp [linkR, leD]
  | cons x t ih => simp [linkR, leD, leDs, ih]
abbrev Gh := List (Int × List THand)
@[simp] def kHd (x : THand) : Int := x.Thing
abbrev bkH (l : List THand) : Gh := grpL kHd l
def linksG (g : Gh) : List D := g.map fun p => linkR p.2.reverse
theorem look_link (g : Gh) (k : Int) : (lookK (keysG g) (linksG g) [k]).getD (.lit (.pointer none)) = linkR (getG g k).reverse := by
  induction g with
  | nil => simp [lookK, keysG, posK, getG, linkR]
  | cons p t ih =>
    obtain ⟨q, r⟩ := p
    by_cases h : k = q
    · subst h; simp [lookK, keysG, linksG, posK, getG]
    · simp only [lookK, keysG, linksG, List.map_cons, posK, List.cons.injEq, and_true, if_neg h, getG] at ih ⊢
      rw [← ih]
      cases posK [k] (List.map (fun p => [p.1]) t) <;> simp
theorem links_add (g : Gh) (k : Int) (x : THand) : updK (keysG g) (linksG g) [k] (linkR (x :: (getG g k).reverse)) = linksG (addG g k x) := by
  induction g with
  | nil => simp [updK, keysG, linksG, posK, addG, getG]
  | cons p t ih =>
    obtain ⟨q, r⟩ := p
    by_cases h : k = q
    · subst h; simp [updK, keysG, linksG, posK, addG, getG]
    · simp only [updK, keysG, linksG, List.map_cons, posK, List.cons.injEq, and_true, if_neg h, addG, getG] at ih ⊢
      rw [← ih]
      cases posK [k] (List.map (fun p => [p.1]) t) <;> simp
theorem links_inj : ∀ (g g' : Gh), keysG g = keysG g' → linksG g = linksG g' → g = g'
  | [], [], _, _ => rfl
  | [], _ :: _, h, _ => by simp [keysG] at h
  | _ :: _, [], h, _ => by simp [keysG] at h
  | (a, r) :: t, (b, q) :: u, h, h2 => by
    simp only [keysG, linksG, List.map_cons, List.cons.injEq, and_true, linkR_inj, List.reverse_inj] at h h2
    obtain ⟨h3, h4⟩ := h
    obtain ⟨h5, h6⟩ := h2
    rw [h3, h5, links_inj t u h4 h6]
@[simp] theorem linksG_inj (g g' : Gh) : (keysG g = keysG g' ∧ linksG g = linksG g') ↔ g = g' := ⟨fun h => links_inj g g' h.1 h.2, fun h => by rw [h]; exact ⟨rfl, rfl⟩⟩
@[simp] theorem linksG_nil : linksG [] = [] := rfl
/-- (loop.example/g03007/impl.handsByThing).note -/
noncomputable def c50 : Con := mkCon 50 true (α := Gh × THand) (fun x => (fun (g : Gh) (x : THand) => ([.mp (0, 0), encTHand x] : List D)) x.1 x.2) (fun x => (fun (g : Gh) (x : THand) => ([((0, 0), .map 0 (keysG g) (.lit (.pointer none)) (linksG g))] : List (Nm × OO))) x.1 x.2) (fun x => (fun (g : Gh) (x : THand) => True) x.1 x.2) (fun x => (fun (g : Gh) (x : THand) => (.tup [] : D)) x.1 x.2) (fun x => (fun (g : Gh) (x : THand) => ([((0, 0), .map 0 (keysG (addG g x.Thing x)) (.lit (.pointer none)) (linksG (addG g x.Thing x)))] : List (Nm × OO))) x.1 x.2)
@[simp] theorem c50_f : c50.f = 50 := rfl
@[simp] theorem c50_own : c50.own = true := rfl
theorem c50_inj : ∀ u_ v_ : Gh × THand, ((fun x => (fun (g : Gh) (x : THand) => ([.mp (0, 0), encTHand x] : List D)) x.1 x.2) u_).map nz = ((fun x => (fun (g : Gh) (x : THand) => ([.mp (0, 0), encTHand x] : List D)) x.1 x.2) v_).map nz → (fun x => (fun (g : Gh) (x : THand) => ([((0, 0), .map 0 (keysG g) (.lit (.pointer none)) (linksG g))] : List (Nm × OO))) x.1 x.2) u_ = (fun x => (fun (g : Gh) (x : THand) => ([((0, 0), .map 0 (keysG g) (.lit (.pointer none)) (linksG g))] : List (Nm × OO))) x.1 x.2) v_ → u_ = v_ := by
  intro u_ v_ h h2_
  obtain ⟨g, ⟨x_Thing, x_Holder, x_Who, x_At, x_Seal⟩⟩ := u_
  obtain ⟨g', ⟨x_Thing', x_Holder', x_Who', x_At', x_Seal'⟩⟩ := v_
  simp [nz_lit, nz1_lit, nz_agg, nz_sl, nz1_sl, nz_sx, nz_el, nz1_el, nz_own, nz1_own, nz_ptr, nz_fn, nz_iface] at h h2_
  first | (simp [h, h2_]; done) | (obtain ⟨h3_, h4_⟩ := List.append_inj h2_ h.1; simp_all; done) | simp_all | grind
@[simp] theorem c50_fn (g : Gh) (x_Thing : Int) (x_Holder : Int) (x_Who : Int) (x_At : Int) (x_Seal : Int) : c50.fn ([.mp (0, 0), .agg [.lit (.int .i64 x_Thing), .lit (.int .i64 x_Holder), .lit (.int .i64 x_Who), .lit (.int .i64 x_At), .lit (.int .i64 x_Seal)]]) ([((0, 0), .map 0 (keysG g) (.lit (.pointer none)) (linksG g))]) = some (True, .tup [], [((0, 0), .map 0 (keysG (addG g (⟨x_Thing, x_Holder, x_Who, x_At, x_Seal⟩ : THand).Thing (⟨x_Thing, x_Holder, x_Who, x_At, x_Seal⟩ : THand))) (.lit (.pointer none)) (linksG (addG g (⟨x_Thing, x_Holder, x_Who, x_At, x_Seal⟩ : THand).Thing (⟨x_Thing, x_Holder, x_Who, x_At, x_Seal⟩ : THand))))]) :=
  mkCon_fn c50_inj ((g, ⟨x_Thing, x_Holder, x_Who, x_At, x_Seal⟩) : Gh × THand) rfl rfl
theorem c50_pc (g : Gh) (x : THand) : PCo Try.prog 50 ([.mp (0, 0), encTHand x]) (Tab.of ([((0, 0), .map 0 (keysG g) (.lit (.pointer none)) (linksG g))])) (.tup []) (Tab.of ([((0, 0), .map 0 (keysG (addG g x.Thing x)) (.lit (.pointer none)) (linksG (addG g x.Thing x)))])) := by
  refine pco_of_run [] (E := ⟨[], []⟩) (m := false) (base := 0) Env.ok_nil G_ok mix 300 6 Try.func50 (by kernel_rfl) rfl (by kernel_rfl) (by kernel_rfl) rfl ?_
  have hl := look_link g x.Thing
  have hx := links_add g x.Thing x
  cases hr : (getG g x.Thing).reverse with
  | nil =>
    rw [hr] at hl hx
    simp only [linkR_nil] at hl
    simp only [linkR_cons, linkR_nil] at hx
    simp [Try.f50, hl, hx]
    exact keys_add ..
  | cons y t =>
    rw [hr] at hl hx
    simp only [linkR_cons] at hl hx
    simp [Try.f50, hl, hx]
    exact keys_add ..
theorem c50_ok : c50.ok Try.prog := mkCon_ok fun ⟨g, x⟩ hpre => c50_pc g x
/-- the last hand, and those before it -/
def linkL (q : THand × List THand) : D := .el (.agg [.lit (.int .i64 q.1.Thing), .lit (.int .i64 q.1.Holder), .lit (.int .i64 q.1.Who), .lit (.int .i64 q.1.At), .lit (.int .i64 q.1.Seal), linkR q.2])
/-- loop.example/g03007/impl.lastHands -/
noncomputable def c42 : Con := mkCon 42 false (α := (List THand)) (fun x => (fun (l : List THand) => [encLTHand l]) x) (fun _ => []) (fun x => (fun (l : List THand) => l.length ≤ 1099511627776) x) (fun x => (fun (l : List THand) => (.fm 0 (keysG (bkH l)) (linkL (default, [])) (linksG (bkH l)) : D)) x) (fun x => (fun (l : List THand) => []) x)
@[simp] theorem c42_f : c42.f = 42 := rfl
@[simp] theorem c42_own : c42.own = false := rfl
theorem c42_inj : ∀ u_ v_ : (List THand), ((fun x => (fun (l : List THand) => [encLTHand l]) x) u_).map nz = ((fun x => (fun (l : List THand) => [encLTHand l]) x) v_).map nz → u_ = v_ := by
  intro u_ v_ h
  obtain l := u_
  obtain l' := v_
  simp [nz_lit, nz1_lit, nz_agg, nz_sl, nz1_sl, encLTHand] at h
  first | (simp [h]; done) | (obtain ⟨⟩ := h; simp_all; done) | simp_all
@[simp] theorem c42_fn (l : List THand) : c42.fn [.sl false 5 yTHand (ML encTHand l)] [] = some ((fun (l : List THand) => l.length ≤ 1099511627776) l, (fun (l : List THand) => (.fm 0 (keysG (bkH l)) (linkL (default, [])) (linksG (bkH l)) : D)) l, (fun (l : List THand) => []) l) :=
  mkCon_fn (fun x y h _ => c42_inj x y h) (l : (List THand)) (by simp [nz, nz1, ML_nil, encLTHand]) rfl
@[simp] theorem c42_fn1 (s_l : Nat) (z_l : D) : c42.fn [.sl false s_l z_l []] [] = some ((fun (l : List THand) => l.length ≤ 1099511627776) [], (fun (l : List THand) => (.fm 0 (keysG (bkH l)) (linkL (default, [])) (linksG (bkH l)) : D)) [], (fun (l : List THand) => []) []) :=
  mkCon_fn (fun x y h _ => c42_inj x y h) ([] : (List THand)) (by simp [nz, nz1, ML_nil, encLTHand]) rfl
theorem c42_pc (l : List THand) (hpre : l.length ≤ 1099511627776) : PCo Try.prog 42 [encLTHand l] (Tab.of []) (.fm 0 (keysG (bkH l)) (linkL (default, [])) (linksG (bkH l))) (Tab.of []) := by
  refine pco_of_run [] (E := ⟨[c50, c50], []⟩) (m := false) (base := 0) (Env.ok_cons c50_ok (Env.ok_cons c50_ok Env.ok_nil)) G_ok mix 300 6 Try.func42 (by kernel_rfl) rfl (by kernel_rfl) (by kernel_rfl) rfl ?_
  simp [Try.f42]
  refine loop_inv (fun p : Nat => p ≤ l.length) (fun p => [(3, .mp (0, 1)), (7, encLTHand l), (8, dI l.length), (9, dI p)]) (fun p => [((0, 1), .map 0 (keysG (bkH (l.take p))) (.lit (.pointer none)) (linksG (bkH (l.take p))))]) 2 (fun p => l.length - p) 0 400 (by simp) (by simp) (by simp) ?_
  intro p hp
  simp
  refine ⟨fun hlt => ?_, fun hge => ?_⟩
  · have hs := grpL_take (key := kHd) (d := default) hlt
    repeat' (first | omega | refine And.intro ?_ ?_ | intro _)
    refine Again.mk (p + 1) (by omega) (by simp [hs]) (by first | omega | (simp; omega))
  · rw [List.take_of_length_le hge]
theorem c42_ok : c42.ok Try.prog := mkCon_ok fun l hpre => c42_pc l hpre

end Go.Proofs.Ytlnllkffifeggaa
