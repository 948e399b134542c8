/- Contracts of the functions that the laws run. -/
import Derived.Test.Ytnghehfdclhfdaagrp
import Derived.Test.YtnghehfdclhfdaahelpA
import Derived.Test.Ytnghehfdclhfdaach03
import Derived.Test.YtnghehfdclhfdaaEngB
namespace Go.Proofs.Ytnghehfdclhfdaa
open Go Go.Eng
set_option linter.unusedSimpArgs false
set_option linter.unusedVariables false
set_option maxRecDepth 10000
set_option maxHeartbeats 1000000
/-- loop.example/g03007/laws.toHand -/
noncomputable def c60 : Con := mkCon 60 false (α := THand) (fun x => (fun (a : THand) => [encTHand a]) x) (fun _ => []) (fun x => (fun (a : THand) => True) x) (fun x => (fun (a : THand) => (encTHand a : D)) x) (fun x => (fun (a : THand) => []) x)
@[simp] theorem c60_f : c60.f = 60 := rfl
@[simp] theorem c60_own : c60.own = false := rfl
theorem c60_inj : ∀ u_ v_ : THand, ((fun x => (fun (a : THand) => [encTHand a]) x) u_).map nz = ((fun x => (fun (a : THand) => [encTHand a]) x) v_).map nz → u_ = v_ := by
  intro u_ v_ h
  obtain ⟨a_Thing, a_Holder, a_Who, a_At, a_Seal⟩ := u_
  obtain ⟨a_Thing', a_Holder', a_Who', a_At', a_Seal'⟩ := v_
  simp [nz_lit, nz1_lit, nz_agg, nz_sl, nz1_sl, encTHand] at h
  first | (simp [h]; done) | (obtain ⟨⟩ := h; simp_all; done) | simp_all
@[simp] theorem c60_fn (a_Thing : Int) (a_Holder : Int) (a_Who : Int) (a_At : Int) (a_Seal : Int) : c60.fn [.agg [.lit (.int .i64 a_Thing), .lit (.int .i64 a_Holder), .lit (.int .i64 a_Who), .lit (.int .i64 a_At), .lit (.int .i64 a_Seal)]] [] = some ((fun (a : THand) => True) ⟨a_Thing, a_Holder, a_Who, a_At, a_Seal⟩, (fun (a : THand) => (encTHand a : D)) ⟨a_Thing, a_Holder, a_Who, a_At, a_Seal⟩, (fun (a : THand) => []) ⟨a_Thing, a_Holder, a_Who, a_At, a_Seal⟩) :=
  mkCon_fn (fun x y h _ => c60_inj x y h) (⟨a_Thing, a_Holder, a_Who, a_At, a_Seal⟩ : THand) (by simp [nz, nz1, ML_nil, encTHand]) rfl
theorem c60_pc (a : THand) : PCo Try.prog 60 [encTHand a] (Tab.of []) (encTHand a) (Tab.of []) := by
  obtain ⟨a_Thing, a_Holder, a_Who, a_At, a_Seal⟩ := a
  refine pco_of_run [] (E := ⟨[], [], []⟩) (m := false) (base := 0) Env.ok_nil G_ok mix 300 6 Try.func60 (by kernel_rfl) rfl (by kernel_rfl) (by kernel_rfl) rfl ?_
  simp [Try.f60]
  all_goals first | omega | (rw [Bool.eq_iff_iff]; simp; omega) | grind
theorem c60_ok : c60.ok Try.prog := mkCon_ok fun a hpre => c60_pc a
/-- loop.example/g03007/laws.eqHand -/
noncomputable def c64 : Con := mkCon 64 false (α := THand × THand) (fun x => (fun (a : THand) (b : THand) => [encTHand a, encTHand b]) x.1 x.2) (fun _ => []) (fun x => (fun (a : THand) (b : THand) => True) x.1 x.2) (fun x => (fun (a : THand) (b : THand) => (dB (decide (a = b)) : D)) x.1 x.2) (fun x => (fun (a : THand) (b : THand) => []) x.1 x.2)
@[simp] theorem c64_f : c64.f = 64 := rfl
@[simp] theorem c64_own : c64.own = false := rfl
theorem c64_inj : ∀ u_ v_ : THand × THand, ((fun x => (fun (a : THand) (b : THand) => [encTHand a, encTHand b]) x.1 x.2) u_).map nz = ((fun x => (fun (a : THand) (b : THand) => [encTHand a, encTHand b]) x.1 x.2) v_).map nz → u_ = v_ := by
  intro u_ v_ h
  obtain ⟨⟨a_Thing, a_Holder, a_Who, a_At, a_Seal⟩, ⟨b_Thing, b_Holder, b_Who, b_At, b_Seal⟩⟩ := u_
  obtain ⟨⟨a_Thing', a_Holder', a_Who', a_At', a_Seal'⟩, ⟨b_Thing', b_Holder', b_Who', b_At', b_Seal'⟩⟩ := v_
  simp [nz_lit, nz1_lit, nz_agg, nz_sl, nz1_sl, encTHand] at h
  first | (simp [h]; done) | (obtain ⟨⟩ := h; simp_all; done) | simp_all
@[simp] theorem c64_fn (a_Thing : Int) (a_Holder : Int) (a_Who : Int) (a_At : Int) (a_Seal : Int) (b_Thing : Int) (b_Holder : Int) (b_Who : Int) (b_At : Int) (b_Seal : Int) : c64.fn [.agg [.lit (.int .i64 a_Thing), .lit (.int .i64 a_Holder), .lit (.int .i64 a_Who), .lit (.int .i64 a_At), .lit (.int .i64 a_Seal)], .agg [.lit (.int .i64 b_Thing), .lit (.int .i64 b_Holder), .lit (.int .i64 b_Who), .lit (.int .i64 b_At), .lit (.int .i64 b_Seal)]] [] = some ((fun (a : THand) (b : THand) => True) ⟨a_Thing, a_Holder, a_Who, a_At, a_Seal⟩ ⟨b_Thing, b_Holder, b_Who, b_At, b_Seal⟩, (fun (a : THand) (b : THand) => (dB (decide (a = b)) : D)) ⟨a_Thing, a_Holder, a_Who, a_At, a_Seal⟩ ⟨b_Thing, b_Holder, b_Who, b_At, b_Seal⟩, (fun (a : THand) (b : THand) => []) ⟨a_Thing, a_Holder, a_Who, a_At, a_Seal⟩ ⟨b_Thing, b_Holder, b_Who, b_At, b_Seal⟩) :=
  mkCon_fn (fun x y h _ => c64_inj x y h) ((⟨a_Thing, a_Holder, a_Who, a_At, a_Seal⟩, ⟨b_Thing, b_Holder, b_Who, b_At, b_Seal⟩) : THand × THand) (by simp [nz, nz1, ML_nil, encTHand]) rfl
theorem c64_pc (a : THand) (b : THand) : PCo Try.prog 64 [encTHand a, encTHand b] (Tab.of []) (dB (decide (a = b))) (Tab.of []) := by
  obtain ⟨a_Thing, a_Holder, a_Who, a_At, a_Seal⟩ := a
  obtain ⟨b_Thing, b_Holder, b_Who, b_At, b_Seal⟩ := b
  refine pco_of_run [] (E := ⟨[], [], []⟩) (m := false) (base := 0) Env.ok_nil G_ok mix 300 6 Try.func64 (by kernel_rfl) rfl (by kernel_rfl) (by kernel_rfl) rfl ?_
  simp [Try.f64]
  all_goals first | omega | (rw [Bool.eq_iff_iff]; simp; omega) | grind
theorem c64_ok : c64.ok Try.prog := mkCon_ok fun ⟨a, b⟩ hpre => c64_pc a b
/-- loop.example/g03007/laws.szHandS -/
noncomputable def c28 : Con := mkCon 28 false (α := (List THand) × Int) (fun x => (fun (l : List THand) (left : Int) => [encLTHand l, dI left]) x.1 x.2) (fun _ => []) (fun x => (fun (l : List THand) (left : Int) => l.length ≤ maxLen ∧ 0 ≤ left ∧ left ≤ 1099511627776) x.1 x.2) (fun x => (fun (l : List THand) (left : Int) => (dI (if left - l.length < 0 then -1 else left - l.length) : D)) x.1 x.2) (fun x => (fun (l : List THand) (left : Int) => []) x.1 x.2)
@[simp] theorem c28_f : c28.f = 28 := rfl
@[simp] theorem c28_own : c28.own = false := rfl
theorem c28_inj : ∀ u_ v_ : (List THand) × Int, ((fun x => (fun (l : List THand) (left : Int) => [encLTHand l, dI left]) x.1 x.2) u_).map nz = ((fun x => (fun (l : List THand) (left : Int) => [encLTHand l, dI left]) x.1 x.2) v_).map nz → u_ = v_ := by
  intro u_ v_ h
  obtain ⟨l, left⟩ := u_
  obtain ⟨l', left'⟩ := v_
  simp [nz_lit, nz1_lit, nz_agg, nz_sl, nz1_sl, encLTHand] at h
  first | (simp [h]; done) | (obtain ⟨⟩ := h; simp_all; done) | simp_all
@[simp] theorem c28_fn (l : List THand) (left : Int) : c28.fn [.sl false 5 yTHand (ML encTHand l), .lit (.int .i64 left)] [] = some ((fun (l : List THand) (left : Int) => l.length ≤ maxLen ∧ 0 ≤ left ∧ left ≤ 1099511627776) l left, (fun (l : List THand) (left : Int) => (dI (if left - l.length < 0 then -1 else left - l.length) : D)) l left, (fun (l : List THand) (left : Int) => []) l left) :=
  mkCon_fn (fun x y h _ => c28_inj x y h) ((l, left) : (List THand) × Int) (by simp [nz, nz1, ML_nil, encLTHand]) rfl
@[simp] theorem c28_fn1 (s_l : Nat) (z_l : D) (left : Int) : c28.fn [.sl false s_l z_l [], .lit (.int .i64 left)] [] = some ((fun (l : List THand) (left : Int) => l.length ≤ maxLen ∧ 0 ≤ left ∧ left ≤ 1099511627776) [] left, (fun (l : List THand) (left : Int) => (dI (if left - l.length < 0 then -1 else left - l.length) : D)) [] left, (fun (l : List THand) (left : Int) => []) [] left) :=
  mkCon_fn (fun x y h _ => c28_inj x y h) (([], left) : (List THand) × Int) (by simp [nz, nz1, ML_nil, encLTHand]) rfl
theorem c28_pc (l : List THand) (left : Int) (hpre : l.length ≤ maxLen ∧ 0 ≤ left ∧ left ≤ 1099511627776) : PCo Try.prog 28 [encLTHand l, dI left] (Tab.of []) (dI (if left - l.length < 0 then -1 else left - l.length)) (Tab.of []) := by
  refine pco_of_run [] (E := ⟨[], [], []⟩) (m := false) (base := 0) Env.ok_nil G_ok mix 300 6 Try.func28 (by kernel_rfl) rfl (by kernel_rfl) (by kernel_rfl) rfl ?_
  simp [Try.f28]
  simp [maxLen] at hpre
  all_goals omega
theorem c28_ok : c28.ok Try.prog := mkCon_ok fun ⟨l, left⟩ hpre => c28_pc l left hpre
/-- loop.example/g03007/laws.toHandS -/
noncomputable def c31 : Con := mkCon 31 false (α := (List THand)) (fun x => (fun (l : List THand) => [encLTHand l]) x) (fun _ => []) (fun x => (fun (l : List THand) => l.length ≤ 1099511627776) x) (fun x => (fun (l : List THand) => (.own (0, 1) 5 0 l.length : D)) x) (fun x => (fun (l : List THand) => [((0, 1), .arr false 5 yTHand (ML encTHand l))]) x)
@[simp] theorem c31_f : c31.f = 31 := rfl
@[simp] theorem c31_own : c31.own = false := rfl
theorem c31_inj : ∀ u_ v_ : (List THand), ((fun x => (fun (l : List THand) => [encLTHand l]) x) u_).map nz = ((fun x => (fun (l : List THand) => [encLTHand l]) x) v_).map nz → u_ = v_ := by
  intro u_ v_ h
  obtain l := u_
  obtain l' := v_
  simp [nz_lit, nz1_lit, nz_agg, nz_sl, nz1_sl, encLTHand] at h
  first | (simp [h]; done) | (obtain ⟨⟩ := h; simp_all; done) | simp_all
@[simp] theorem c31_fn (l : List THand) : c31.fn [.sl false 5 yTHand (ML encTHand l)] [] = some ((fun (l : List THand) => l.length ≤ 1099511627776) l, (fun (l : List THand) => (.own (0, 1) 5 0 l.length : D)) l, (fun (l : List THand) => [((0, 1), .arr false 5 yTHand (ML encTHand l))]) l) :=
  mkCon_fn (fun x y h _ => c31_inj x y h) (l : (List THand)) (by simp [nz, nz1, ML_nil, encLTHand]) rfl
@[simp] theorem c31_fn1 (s_l : Nat) (z_l : D) : c31.fn [.sl false s_l z_l []] [] = some ((fun (l : List THand) => l.length ≤ 1099511627776) [], (fun (l : List THand) => (.own (0, 1) 5 0 l.length : D)) [], (fun (l : List THand) => [((0, 1), .arr false 5 yTHand (ML encTHand l))]) []) :=
  mkCon_fn (fun x y h _ => c31_inj x y h) ([] : (List THand)) (by simp [nz, nz1, ML_nil, encLTHand]) rfl
theorem c31_pc (l : List THand) (hpre : l.length ≤ 1099511627776) : PCo Try.prog 31 [encLTHand l] (Tab.of []) (.own (0, 1) 5 0 l.length) (Tab.of [((0, 1), .arr false 5 yTHand (ML encTHand l))]) := by
  refine pco_of_run [] (E := ⟨[c60], [], []⟩) (m := false) (base := 0) (Env.ok_cons c60_ok Env.ok_nil) G_ok mix 300 6 Try.func31 (by kernel_rfl) rfl (by kernel_rfl) (by kernel_rfl) rfl ?_
  simp [Try.f31]
  refine ⟨by omega, ?_⟩
  refine loop_inv (fun p : Nat => p ≤ l.length) (fun p => [(0, encLTHand l), (3, .own (0, 1) 5 0 l.length), (4, dI p)]) (fun p => [((0, 1), .arr false 5 yTHand (ML encTHand (l.take p ++ List.replicate (l.length - p) ⟨0, 0, 0, 0, 0⟩)))]) 2 (fun p => l.length - p) 0 100 (by simp) (by simp) (by first | (simp; done) | (simp; simp only [ML, List.map_replicate]; rfl)) ?_
  intro p hp
  simp
  refine ⟨fun hlt => ⟨by omega, by omega, Again.mk (p + 1) (by omega) (by simp [fill_step hlt]) (by first | omega | (simp; omega))⟩, fun hge => ?_⟩
  have : p = l.length := by omega
  subst this
  simp
theorem c31_ok : c31.ok Try.prog := mkCon_ok fun l hpre => c31_pc l hpre
/-- loop.example/g03007/laws.eqHandS -/
noncomputable def c34 : Con := mkCon 34 false (α := (List THand) × (List THand)) (fun x => (fun (a : List THand) (b : List THand) => [encLTHand a, encLTHand b]) x.1 x.2) (fun _ => []) (fun x => (fun (a : List THand) (b : List THand) => a.length ≤ 1099511627776 ∧ b.length ≤ 1099511627776) x.1 x.2) (fun x => (fun (a : List THand) (b : List THand) => (dB (decide (a = b)) : D)) x.1 x.2) (fun x => (fun (a : List THand) (b : List THand) => []) x.1 x.2)
@[simp] theorem c34_f : c34.f = 34 := rfl
@[simp] theorem c34_own : c34.own = false := rfl
theorem c34_inj : ∀ u_ v_ : (List THand) × (List THand), ((fun x => (fun (a : List THand) (b : List THand) => [encLTHand a, encLTHand b]) x.1 x.2) u_).map nz = ((fun x => (fun (a : List THand) (b : List THand) => [encLTHand a, encLTHand b]) x.1 x.2) v_).map nz → u_ = v_ := by
  intro u_ v_ h
  obtain ⟨a, b⟩ := u_
  obtain ⟨a', b'⟩ := v_
  simp [nz_lit, nz1_lit, nz_agg, nz_sl, nz1_sl, encLTHand] at h
  first | (simp [h]; done) | (obtain ⟨⟩ := h; simp_all; done) | simp_all
@[simp] theorem c34_fn (a : List THand) (b : List THand) : c34.fn [.sl false 5 yTHand (ML encTHand a), .sl false 5 yTHand (ML encTHand b)] [] = some ((fun (a : List THand) (b : List THand) => a.length ≤ 1099511627776 ∧ b.length ≤ 1099511627776) a b, (fun (a : List THand) (b : List THand) => (dB (decide (a = b)) : D)) a b, (fun (a : List THand) (b : List THand) => []) a b) :=
  mkCon_fn (fun x y h _ => c34_inj x y h) ((a, b) : (List THand) × (List THand)) (by simp [nz, nz1, ML_nil, encLTHand]) rfl
@[simp] theorem c34_fn1 (s_a : Nat) (z_a : D) (b : List THand) : c34.fn [.sl false s_a z_a [], .sl false 5 yTHand (ML encTHand b)] [] = some ((fun (a : List THand) (b : List THand) => a.length ≤ 1099511627776 ∧ b.length ≤ 1099511627776) [] b, (fun (a : List THand) (b : List THand) => (dB (decide (a = b)) : D)) [] b, (fun (a : List THand) (b : List THand) => []) [] b) :=
  mkCon_fn (fun x y h _ => c34_inj x y h) (([], b) : (List THand) × (List THand)) (by simp [nz, nz1, ML_nil, encLTHand]) rfl
@[simp] theorem c34_fn2 (a : List THand) (s_b : Nat) (z_b : D) : c34.fn [.sl false 5 yTHand (ML encTHand a), .sl false s_b z_b []] [] = some ((fun (a : List THand) (b : List THand) => a.length ≤ 1099511627776 ∧ b.length ≤ 1099511627776) a [], (fun (a : List THand) (b : List THand) => (dB (decide (a = b)) : D)) a [], (fun (a : List THand) (b : List THand) => []) a []) :=
  mkCon_fn (fun x y h _ => c34_inj x y h) ((a, []) : (List THand) × (List THand)) (by simp [nz, nz1, ML_nil, encLTHand]) rfl
@[simp] theorem c34_fn3 (s_a : Nat) (z_a : D) (s_b : Nat) (z_b : D) : c34.fn [.sl false s_a z_a [], .sl false s_b z_b []] [] = some ((fun (a : List THand) (b : List THand) => a.length ≤ 1099511627776 ∧ b.length ≤ 1099511627776) [] [], (fun (a : List THand) (b : List THand) => (dB (decide (a = b)) : D)) [] [], (fun (a : List THand) (b : List THand) => []) [] []) :=
  mkCon_fn (fun x y h _ => c34_inj x y h) (([], []) : (List THand) × (List THand)) (by simp [nz, nz1, ML_nil, encLTHand]) rfl
theorem c34_pc (a : List THand) (b : List THand) (hpre : a.length ≤ 1099511627776 ∧ b.length ≤ 1099511627776) : PCo Try.prog 34 [encLTHand a, encLTHand b] (Tab.of []) (dB (decide (a = b))) (Tab.of []) := by
  refine pco_of_run [] (E := ⟨[c64], [], []⟩) (m := false) (base := 0) (Env.ok_cons c64_ok Env.ok_nil) G_ok mix 300 6 Try.func34 (by kernel_rfl) rfl (by kernel_rfl) (by kernel_rfl) rfl ?_
  simp [Try.f34]
  obtain ⟨pre1, pre2⟩ := hpre
  refine ⟨fun h => ?_, fun h => by intro e; subst e; exact absurd rfl h⟩
  refine loop_inv (fun p : Nat => p ≤ a.length ∧ a.take p = b.take p) (fun p => [(0, encLTHand a), (1, encLTHand b), (5, dI p)]) (fun _ => []) 1 (fun p => a.length - p) 0 100 (by simp) (by simp) (by simp) ?_
  intro p ⟨hp, hi⟩
  simp
  refine ⟨fun hlt => ⟨by omega, fun h2 => ⟨by omega, Again.mk (p + 1) ⟨by omega, take_eq_step hi (by omega) (by omega) h2⟩ (by simp) (by first | omega | (simp; omega))⟩, fun h2 => by intro e; subst e; exact absurd rfl h2⟩, fun hge => ?_⟩
  exact take_eq_full hi (by omega) (by omega)
theorem c34_ok : c34.ok Try.prog := mkCon_ok fun ⟨a, b⟩ hpre => c34_pc a b hpre
abbrev mk_THand : Int → THand := fun n => ⟨n, n + 1, n + 2, n + 3, n + 4⟩
/-- loop.example/g03007/laws.markHandS -/
noncomputable def c36 : Con := mkCon 36 true (α := (List THand) × Int) (fun x => (fun (l : List THand) (k : Int) => ([.own (0, 0) 5 0 l.length, dI k] : List D)) x.1 x.2) (fun x => (fun (l : List THand) (k : Int) => ([((0, 0), .arr false 5 yTHand (ML encTHand l))] : List (Nm × OO))) x.1 x.2) (fun x => (fun (l : List THand) (k : Int) => l.length ≤ 1099511627776 ∧ 0 ≤ k ∧ k ≤ 1152921504606846976) x.1 x.2) (fun x => (fun (l : List THand) (k : Int) => (dI (k + 5 * l.length) : D)) x.1 x.2) (fun x => (fun (l : List THand) (k : Int) => ([((0, 0), .arr false 5 yTHand (ML encTHand (mkL mk_THand 5 k l.length)))] : List (Nm × OO))) x.1 x.2)
@[simp] theorem c36_f : c36.f = 36 := rfl
@[simp] theorem c36_own : c36.own = true := rfl
theorem c36_inj : ∀ u_ v_ : (List THand) × Int, ((fun x => (fun (l : List THand) (k : Int) => ([.own (0, 0) 5 0 l.length, dI k] : List D)) x.1 x.2) u_).map nz = ((fun x => (fun (l : List THand) (k : Int) => ([.own (0, 0) 5 0 l.length, dI k] : List D)) x.1 x.2) v_).map nz → (fun x => (fun (l : List THand) (k : Int) => ([((0, 0), .arr false 5 yTHand (ML encTHand l))] : List (Nm × OO))) x.1 x.2) u_ = (fun x => (fun (l : List THand) (k : Int) => ([((0, 0), .arr false 5 yTHand (ML encTHand l))] : List (Nm × OO))) x.1 x.2) v_ → u_ = v_ := by
  intro u_ v_ h h2_
  obtain ⟨l, k⟩ := u_
  obtain ⟨l', k'⟩ := v_
  simp [nz_lit, nz1_lit, nz_agg, nz_sl, nz1_sl, nz_sx, nz_el, nz1_el, nz_own, nz1_own, nz_ptr, nz_fn, nz_iface] at h h2_
  first | (simp [h, h2_]; done) | (obtain ⟨h3_, h4_⟩ := List.append_inj h2_ h.1; simp_all; done) | simp_all | grind
@[simp] theorem c36_fn (l : List THand) (k : Int) : c36.fn ([.own (0, 0) 5 0 l.length, dI k]) ([((0, 0), .arr false 5 yTHand (ML encTHand l))]) = some (l.length ≤ 1099511627776 ∧ 0 ≤ k ∧ k ≤ 1152921504606846976, dI (k + 5 * l.length), [((0, 0), .arr false 5 yTHand (ML encTHand (mkL mk_THand 5 k l.length)))]) :=
  mkCon_fn c36_inj ((l, k) : (List THand) × Int) rfl rfl
theorem c36_pc (l : List THand) (k : Int) (hpre : l.length ≤ 1099511627776 ∧ 0 ≤ k ∧ k ≤ 1152921504606846976) : PCo Try.prog 36 ([.own (0, 0) 5 0 l.length, dI k]) (Tab.of ([((0, 0), .arr false 5 yTHand (ML encTHand l))])) (dI (k + 5 * l.length)) (Tab.of ([((0, 0), .arr false 5 yTHand (ML encTHand (mkL mk_THand 5 k l.length)))])) := by
  refine pco_of_run [] (E := ⟨[], [], []⟩) (m := false) (base := 0) Env.ok_nil G_ok mix 300 6 Try.func36 (by kernel_rfl) rfl (by kernel_rfl) (by kernel_rfl) rfl ?_
  simp [Try.f36]
  obtain ⟨pre1, pre2, pre3⟩ := hpre
  refine loop_inv (fun p : Nat => p ≤ l.length) (fun p => [(0, .own (0, 0) 5 0 l.length), (1, dI (k + 5 * p)), (5, dI p)]) (fun p => [((0, 0), .arr false 5 yTHand (ML encTHand (mkL mk_THand 5 k p ++ l.drop p)))]) 2 (fun p => l.length - p) 0 100 (by simp) (by simp) (by simp) ?_
  intro p hp
  simp
  have hs : ∀ x, x = mk_THand (k + 5 * (p : Int)) → p < l.length → mkL mk_THand 5 k p ++ (l.drop p).set 0 x = mkL mk_THand 5 k (p + 1) ++ l.drop (p + 1) := fun x hx hlt => mark_step0 hlt hx
  refine ⟨fun hlt => ?_, fun hge => ?_⟩
  · repeat' (first | omega | refine And.intro ?_ ?_ | intro _)
    all_goals refine Again.mk (p + 1) (by omega) ?_ (by first | omega | (simp; omega))
    all_goals (rw [hs _ (by simp [mark_get0 hlt, mark_get hlt]; first | done | omega) hlt]; simp; omega)
  have : p = l.length := by omega
  subst this
  simp
  trace_state
theorem c36_ok : c36.ok Try.prog := mkCon_ok fun ⟨l, k⟩ hpre => c36_pc l k hpre
/-- loop.example/g03007/laws.heldHandS -/
noncomputable def c38 : Con := mkCon 38 false (α := (List THand) × Int) (fun x => (fun (l : List THand) (k : Int) => [encLTHand l, dI k]) x.1 x.2) (fun _ => []) (fun x => (fun (l : List THand) (k : Int) => l.length ≤ 1099511627776 ∧ 0 ≤ k ∧ k ≤ 1152921504606846976) x.1 x.2) (fun x => (fun (l : List THand) (k : Int) => (dI (if l = mkL mk_THand 5 k l.length then k + 5 * l.length else -1) : D)) x.1 x.2) (fun x => (fun (l : List THand) (k : Int) => []) x.1 x.2)
@[simp] theorem c38_f : c38.f = 38 := rfl
@[simp] theorem c38_own : c38.own = false := rfl
theorem c38_inj : ∀ u_ v_ : (List THand) × Int, ((fun x => (fun (l : List THand) (k : Int) => [encLTHand l, dI k]) x.1 x.2) u_).map nz = ((fun x => (fun (l : List THand) (k : Int) => [encLTHand l, dI k]) x.1 x.2) v_).map nz → u_ = v_ := by
  intro u_ v_ h
  obtain ⟨l, k⟩ := u_
  obtain ⟨l', k'⟩ := v_
  simp [nz_lit, nz1_lit, nz_agg, nz_sl, nz1_sl, encLTHand] at h
  first | (simp [h]; done) | (obtain ⟨⟩ := h; simp_all; done) | simp_all
@[simp] theorem c38_fn (l : List THand) (k : Int) : c38.fn [.sl false 5 yTHand (ML encTHand l), .lit (.int .i64 k)] [] = some ((fun (l : List THand) (k : Int) => l.length ≤ 1099511627776 ∧ 0 ≤ k ∧ k ≤ 1152921504606846976) l k, (fun (l : List THand) (k : Int) => (dI (if l = mkL mk_THand 5 k l.length then k + 5 * l.length else -1) : D)) l k, (fun (l : List THand) (k : Int) => []) l k) :=
  mkCon_fn (fun x y h _ => c38_inj x y h) ((l, k) : (List THand) × Int) (by simp [nz, nz1, ML_nil, encLTHand]) rfl
@[simp] theorem c38_fn1 (s_l : Nat) (z_l : D) (k : Int) : c38.fn [.sl false s_l z_l [], .lit (.int .i64 k)] [] = some ((fun (l : List THand) (k : Int) => l.length ≤ 1099511627776 ∧ 0 ≤ k ∧ k ≤ 1152921504606846976) [] k, (fun (l : List THand) (k : Int) => (dI (if l = mkL mk_THand 5 k l.length then k + 5 * l.length else -1) : D)) [] k, (fun (l : List THand) (k : Int) => []) [] k) :=
  mkCon_fn (fun x y h _ => c38_inj x y h) (([], k) : (List THand) × Int) (by simp [nz, nz1, ML_nil, encLTHand]) rfl
theorem c38_pc (l : List THand) (k : Int) (hpre : l.length ≤ 1099511627776 ∧ 0 ≤ k ∧ k ≤ 1152921504606846976) : PCo Try.prog 38 [encLTHand l, dI k] (Tab.of []) (dI (if l = mkL mk_THand 5 k l.length then k + 5 * l.length else -1)) (Tab.of []) := by
  refine pco_of_run [] (E := ⟨[], [], []⟩) (m := false) (base := 0) Env.ok_nil G_ok mix 300 6 Try.func38 (by kernel_rfl) rfl (by kernel_rfl) (by kernel_rfl) rfl ?_
  simp [Try.f38]
  obtain ⟨pre1, pre2, pre3⟩ := hpre
  refine loop_inv (fun p : Nat => p ≤ l.length ∧ l.take p = (mkL mk_THand 5 k l.length).take p) (fun p => [(0, encLTHand l), (1, dI (k + 5 * p)), (5, dI p)]) (fun _ => []) 1 (fun p => l.length - p) 0 100 (by simp) (by simp) (by simp) ?_
  intro p ⟨hp, hi⟩
  simp
  refine ⟨fun hlt => ?_, fun hge => ?_⟩
  · have hx := mkL_get (f := mk_THand) (m := 5) (k := k) (d := default) hlt
    by_cases he : l[p]?.getD default = mk_THand (k + 5 * (p : Int))
    · generalize hA : Again _ _ _ _ _ _ _ = A
      have hAA : A := by rw [← hA]; exact Again.mk (p + 1) ⟨by omega, take_eq_step hi (by omega) (by simp; omega) (by rw [hx]; exact he)⟩ (by simp; omega) (by first | omega | (simp; omega))
      clear hA
      simp only [he, mk_THand]
      repeat' (first | exact hAA | omega | refine And.intro ?_ ?_ | intro _)
      all_goals first | (exfalso; exact absurd trivial (by assumption)) | (exfalso; omega)
    · have hne : ¬ l = mkL mk_THand 5 k l.length := fun e => he (by rw [← hx]; exact congrArg (fun z => z[p]?.getD default) e)
      generalize Again _ _ _ _ _ _ _ = A
      repeat' (first | omega | rfl | refine And.intro ?_ ?_ | intro _)
      all_goals first | (exfalso; apply hne; assumption) | (exfalso; apply he; obtain ⟨x, hq⟩ : ∃ x, l[p]?.getD default = x := ⟨_, rfl⟩; simp only [hq] at *; obtain ⟨x1, x2, x3, x4, x5⟩ := x; simp [mk_THand] at *; omega)
  · have h4 := take_eq_full hi hge (by simp; omega)
    rw [if_pos h4]; omega
theorem c38_ok : c38.ok Try.prog := mkCon_ok fun ⟨l, k⟩ hpre => c38_pc l k hpre
@[simp] theorem c138_five (a b c d e : Int) : c138.fn [.sl false 1 (.lit (.int .i64 0)) [dI a, dI b, dI c, dI d, dI e]] [] = some (5 ≤ 1099511627776, dI (mHash [a, b, c, d, e]), []) := c138_fn [a, b, c, d, e]
@[simp] theorem c111_five (a b c d e : Int) : c111.fn [.sl false 1 (.lit (.int .i64 0)) [dI a, dI b, dI c, dI d, dI e]] [] = some (5 ≤ 1099511627776, dI (mHash [a, b, c, d, e]), []) := c111_fn [a, b, c, d, e]
def mHandSeal (b : Int) (x : THand) : Int := mHash [b, x.Thing, x.Holder, x.Who, x.At]
/-- loop.example/g03007/spec.HandSeal -/
noncomputable def c114 : Con := mkCon 114 false (α := Int × THand) (fun x => (fun (b : Int) (x : THand) => [dI b, encTHand x]) x.1 x.2) (fun _ => []) (fun x => (fun (b : Int) (x : THand) => True) x.1 x.2) (fun x => (fun (b : Int) (x : THand) => (dI (mHandSeal b x) : D)) x.1 x.2) (fun x => (fun (b : Int) (x : THand) => []) x.1 x.2)
@[simp] theorem c114_f : c114.f = 114 := rfl
@[simp] theorem c114_own : c114.own = false := rfl
theorem c114_inj : ∀ u_ v_ : Int × THand, ((fun x => (fun (b : Int) (x : THand) => [dI b, encTHand x]) x.1 x.2) u_).map nz = ((fun x => (fun (b : Int) (x : THand) => [dI b, encTHand x]) x.1 x.2) v_).map nz → u_ = v_ := by
  intro u_ v_ h
  obtain ⟨b, ⟨x_Thing, x_Holder, x_Who, x_At, x_Seal⟩⟩ := u_
  obtain ⟨b', ⟨x_Thing', x_Holder', x_Who', x_At', x_Seal'⟩⟩ := v_
  simp [nz_lit, nz1_lit, nz_agg, nz_sl, nz1_sl, encTHand] at h
  first | (simp [h]; done) | (obtain ⟨⟩ := h; simp_all; done) | simp_all
@[simp] theorem c114_fn (b : Int) (x_Thing : Int) (x_Holder : Int) (x_Who : Int) (x_At : Int) (x_Seal : Int) : c114.fn [.lit (.int .i64 b), .agg [.lit (.int .i64 x_Thing), .lit (.int .i64 x_Holder), .lit (.int .i64 x_Who), .lit (.int .i64 x_At), .lit (.int .i64 x_Seal)]] [] = some ((fun (b : Int) (x : THand) => True) b ⟨x_Thing, x_Holder, x_Who, x_At, x_Seal⟩, (fun (b : Int) (x : THand) => (dI (mHandSeal b x) : D)) b ⟨x_Thing, x_Holder, x_Who, x_At, x_Seal⟩, (fun (b : Int) (x : THand) => []) b ⟨x_Thing, x_Holder, x_Who, x_At, x_Seal⟩) :=
  mkCon_fn (fun x y h _ => c114_inj x y h) ((b, ⟨x_Thing, x_Holder, x_Who, x_At, x_Seal⟩) : Int × THand) (by simp [nz, nz1, ML_nil, encTHand]) rfl
theorem c114_pc (b : Int) (x : THand) : PCo Try.prog 114 [dI b, encTHand x] (Tab.of []) (dI (mHandSeal b x)) (Tab.of []) := by
  obtain ⟨x_Thing, x_Holder, x_Who, x_At, x_Seal⟩ := x
  refine pco_of_run [] (E := ⟨[c138], [], []⟩) (m := false) (base := 0) (Env.ok_cons c138_ok Env.ok_nil) G_ok mix 300 6 Try.func114 (by kernel_rfl) rfl (by kernel_rfl) (by kernel_rfl) rfl ?_
  simp [Try.f114]
  rfl
theorem c114_ok : c114.ok Try.prog := mkCon_ok fun ⟨b, x⟩ hpre => c114_pc b x
/-- loop.example/g03007/impl.HandSeal -/
noncomputable def c121 : Con := mkCon 121 false (α := Int × THand) (fun x => (fun (b : Int) (x : THand) => [dI b, encTHand x]) x.1 x.2) (fun _ => []) (fun x => (fun (b : Int) (x : THand) => True) x.1 x.2) (fun x => (fun (b : Int) (x : THand) => (dI (mHandSeal b x) : D)) x.1 x.2) (fun x => (fun (b : Int) (x : THand) => []) x.1 x.2)
@[simp] theorem c121_f : c121.f = 121 := rfl
@[simp] theorem c121_own : c121.own = false := rfl
theorem c121_inj : ∀ u_ v_ : Int × THand, ((fun x => (fun (b : Int) (x : THand) => [dI b, encTHand x]) x.1 x.2) u_).map nz = ((fun x => (fun (b : Int) (x : THand) => [dI b, encTHand x]) x.1 x.2) v_).map nz → u_ = v_ := by
  intro u_ v_ h
  obtain ⟨b, ⟨x_Thing, x_Holder, x_Who, x_At, x_Seal⟩⟩ := u_
  obtain ⟨b', ⟨x_Thing', x_Holder', x_Who', x_At', x_Seal'⟩⟩ := v_
  simp [nz_lit, nz1_lit, nz_agg, nz_sl, nz1_sl, encTHand] at h
  first | (simp [h]; done) | (obtain ⟨⟩ := h; simp_all; done) | simp_all
@[simp] theorem c121_fn (b : Int) (x_Thing : Int) (x_Holder : Int) (x_Who : Int) (x_At : Int) (x_Seal : Int) : c121.fn [.lit (.int .i64 b), .agg [.lit (.int .i64 x_Thing), .lit (.int .i64 x_Holder), .lit (.int .i64 x_Who), .lit (.int .i64 x_At), .lit (.int .i64 x_Seal)]] [] = some ((fun (b : Int) (x : THand) => True) b ⟨x_Thing, x_Holder, x_Who, x_At, x_Seal⟩, (fun (b : Int) (x : THand) => (dI (mHandSeal b x) : D)) b ⟨x_Thing, x_Holder, x_Who, x_At, x_Seal⟩, (fun (b : Int) (x : THand) => []) b ⟨x_Thing, x_Holder, x_Who, x_At, x_Seal⟩) :=
  mkCon_fn (fun x y h _ => c121_inj x y h) ((b, ⟨x_Thing, x_Holder, x_Who, x_At, x_Seal⟩) : Int × THand) (by simp [nz, nz1, ML_nil, encTHand]) rfl
theorem c121_pc (b : Int) (x : THand) : PCo Try.prog 121 [dI b, encTHand x] (Tab.of []) (dI (mHandSeal b x)) (Tab.of []) := by
  obtain ⟨x_Thing, x_Holder, x_Who, x_At, x_Seal⟩ := x
  refine pco_of_run [] (E := ⟨[c111], [], []⟩) (m := false) (base := 0) (Env.ok_cons c111_ok Env.ok_nil) G_ok mix 300 6 Try.func121 (by kernel_rfl) rfl (by kernel_rfl) (by kernel_rfl) rfl ?_
  simp [Try.f121]
  rfl
theorem c121_ok : c121.ok Try.prog := mkCon_ok fun ⟨b, x⟩ hpre => c121_pc b x
/-- a thing's hands, linked: the last one first -/
def linkR : List THand → D
  | [] => .lit (.pointer none)
  | x :: t => .el (.agg [.lit (.int .i64 x.Thing), .lit (.int .i64 x.Holder), .lit (.int .i64 x.Who), .lit (.int .i64 x.At), .lit (.int .i64 x.Seal), linkR t])
theorem linkR_nil : linkR [] = .lit (.pointer none) := rfl
theorem linkR_cons (x : THand) (t : List THand) : linkR (x :: t) = .el (.agg [.lit (.int .i64 x.Thing), .lit (.int .i64 x.Holder), .lit (.int .i64 x.Who), .lit (.int .i64 x.At), .lit (.int .i64 x.Seal), linkR t]) := rfl
@[simp] theorem linkR_inj : ∀ (a b : List THand), linkR a = linkR b ↔ a = b
  | [], [] => by simp
  | [], y :: u => by simp [linkR]
  | x :: t, [] => by simp [linkR]
  | x :: t, y :: u => by
    have := linkR_inj t u
    obtain ⟨a, b, c, d, e⟩ := x
    obtain ⟨a', b', c', d', e'⟩ := y
    simp [linkR, this, and_assoc]
@[simp high] theorem pureD_link : ∀ (l : List THand), pureD (linkR l) = true
  | [] => rfl
  | x :: t => by simp [linkR, pureD_link t]
@[simp high] theorem okD_link : ∀ (l : List THand), okD (linkR l) = true
  | [] => rfl
  | x :: t => rfl
@[simp high] theorem oneD_link : ∀ (l : List THand), oneD (linkR l) = true
  | [] => rfl
  | x :: t => rfl
@[simp high] theorem cellsD_link : ∀ (l : List THand), cellsD (linkR l) = [linkR l]
  | [] => rfl
  | x :: t => rfl
@[simp high] theorem isAgg_link : ∀ (l : List THand), (linkR l).isAgg = false
  | [] => rfl
  | x :: t => rfl
@[simp high] theorem partD_link (ti : TI) (l : List THand) : partD ti (linkR l) 0 = if ti.kind.isAgg = false then some (linkR l) else none := by
  by_cases h : ti.kind.isAgg = false
  · rw [if_pos h]; cases l <;> simp only [linkR, partD, h, oneD, Value.oneCell', and_self, if_true]
  · rw [if_neg h]; cases l <;> (simp only [linkR, partD]; rw [if_neg]; exact fun h2 => h h2.2.1)
@[simp high] theorem strip_link : ∀ (l : List THand), strip (linkR l) = linkR l
  | [] => rfl
  | x :: t => rfl
@[simp high] theorem scond_link (g : Bool) : ∀ (l : List THand), scond g (linkR l) = True
  | [] => rfl
  | x :: t => rfl
@[simp high] theorem nz_link : ∀ (l : List THand), nz (linkR l) = linkR l
  | [] => rfl
  | x :: t => rfl
@[simp high] theorem names_link : ∀ (l : List THand), namesD (linkR l) = [] := fun l => pure_name (pureD_link l)
@[simp high] theorem ren_link (ρ : Nm → Nm) (l : List THand) : renD ρ (linkR l) = linkR l := pure_ren (pureD_link l)
@[simp high] theorem lend_link (T : Tab) (k : Nat) : ∀ (l : List THand), lendD T (k + 1) (linkR l) = linkR l
  | [] => rfl
  | x :: t => by
    simp only [linkR, lendD]
    exact if_pos (pureD_link (x :: t))
@[simp high] theorem lendOk_link (T : Tab) (k : Nat) : ∀ (l : List THand), lendOk T (k + 1) (linkR l) = True
  | [] => by simp only [linkR, lendOk]
  | x :: t => by
    simp only [linkR, lendOk]
    exact if_pos (pureD_link (x :: t))
@[simp high] theorem pair_link (a b : List THand) : pairD (linkR a) (linkR b) = [] := by
  induction a generalizing b with
  | nil => cases b <;> rfl
  | cons x t ih => cases b with
    | nil => rfl
    | cons y u => simp [linkR, pairD, pairDs, ih]
@[simp high] theorem le_link (T : Tab) (Δ : List (Nm × Nm)) (a : List THand) : leD T Δ (linkR a) (linkR a) = True := by
  induction a with
  | nil => simp [linkR, leD]
  | cons x t ih => simp [linkR, leD, leDs, ih]
abbrev Gh := List (Int × List THand)
@[simp] def kHd (x : THand) : Int := x.Thing
abbrev bkH (l : List THand) : Gh := grpL kHd l
def linksG (g : Gh) : List D := g.map fun p => linkR p.2.reverse
theorem look_link (g : Gh) (k : Int) : (lookK (keysG g) (linksG g) [k]).getD (.lit (.pointer none)) = linkR (getG g k).reverse := by
  induction g with
  | nil => simp [lookK, keysG, posK, getG, linkR]
  | cons p t ih =>
    obtain ⟨q, r⟩ := p
    by_cases h : k = q
    · subst h; simp [lookK, keysG, linksG, posK, getG]
    · simp only [lookK, keysG, linksG, List.map_cons, posK, List.cons.injEq, and_true, if_neg h, getG] at ih ⊢
      rw [← ih]
      cases posK [k] (List.map (fun p => [p.1]) t) <;> simp
theorem links_add (g : Gh) (k : Int) (x : THand) : updK (keysG g) (linksG g) [k] (linkR (x :: (getG g k).reverse)) = linksG (addG g k x) := by
  induction g with
  | nil => simp [updK, keysG, linksG, posK, addG, getG]
  | cons p t ih =>
    obtain ⟨q, r⟩ := p
    by_cases h : k = q
    · subst h; simp [updK, keysG, linksG, posK, addG, getG]
    · simp only [updK, keysG, linksG, List.map_cons, posK, List.cons.injEq, and_true, if_neg h, addG, getG] at ih ⊢
      rw [← ih]
      cases posK [k] (List.map (fun p => [p.1]) t) <;> simp
theorem links_inj : ∀ (g g' : Gh), keysG g = keysG g' → linksG g = linksG g' → g = g'
  | [], [], _, _ => rfl
  | [], _ :: _, h, _ => by simp [keysG] at h
  | _ :: _, [], h, _ => by simp [keysG] at h
  | (a, r) :: t, (b, q) :: u, h, h2 => by
    simp only [keysG, linksG, List.map_cons, List.cons.injEq, and_true, linkR_inj, List.reverse_inj] at h h2
    obtain ⟨h3, h4⟩ := h
    obtain ⟨h5, h6⟩ := h2
    rw [h3, h5, links_inj t u h4 h6]
@[simp] theorem linksG_inj (g g' : Gh) : (keysG g = keysG g' ∧ linksG g = linksG g') ↔ g = g' := ⟨fun h => links_inj g g' h.1 h.2, fun h => by rw [h]; exact ⟨rfl, rfl⟩⟩
@[simp] theorem linksG_nil : linksG [] = [] := rfl
/-- (loop.example/g03007/impl.handsByThing).note -/
noncomputable def c147 : Con := mkCon 147 true (α := Gh × THand) (fun x => (fun (g : Gh) (x : THand) => ([.mp (0, 0), encTHand x] : List D)) x.1 x.2) (fun x => (fun (g : Gh) (x : THand) => ([((0, 0), .map 0 (keysG g) (.lit (.pointer none)) (linksG g))] : List (Nm × OO))) x.1 x.2) (fun x => (fun (g : Gh) (x : THand) => True) x.1 x.2) (fun x => (fun (g : Gh) (x : THand) => (.tup [] : D)) x.1 x.2) (fun x => (fun (g : Gh) (x : THand) => ([((0, 0), .map 0 (keysG (addG g x.Thing x)) (.lit (.pointer none)) (linksG (addG g x.Thing x)))] : List (Nm × OO))) x.1 x.2)
@[simp] theorem c147_f : c147.f = 147 := rfl
@[simp] theorem c147_own : c147.own = true := rfl
theorem c147_inj : ∀ u_ v_ : Gh × THand, ((fun x => (fun (g : Gh) (x : THand) => ([.mp (0, 0), encTHand x] : List D)) x.1 x.2) u_).map nz = ((fun x => (fun (g : Gh) (x : THand) => ([.mp (0, 0), encTHand x] : List D)) x.1 x.2) v_).map nz → (fun x => (fun (g : Gh) (x : THand) => ([((0, 0), .map 0 (keysG g) (.lit (.pointer none)) (linksG g))] : List (Nm × OO))) x.1 x.2) u_ = (fun x => (fun (g : Gh) (x : THand) => ([((0, 0), .map 0 (keysG g) (.lit (.pointer none)) (linksG g))] : List (Nm × OO))) x.1 x.2) v_ → u_ = v_ := by
  intro u_ v_ h h2_
  obtain ⟨g, ⟨x_Thing, x_Holder, x_Who, x_At, x_Seal⟩⟩ := u_
  obtain ⟨g', ⟨x_Thing', x_Holder', x_Who', x_At', x_Seal'⟩⟩ := v_
  simp [nz_lit, nz1_lit, nz_agg, nz_sl, nz1_sl, nz_sx, nz_el, nz1_el, nz_own, nz1_own, nz_ptr, nz_fn, nz_iface] at h h2_
  first | (simp [h, h2_]; done) | (obtain ⟨h3_, h4_⟩ := List.append_inj h2_ h.1; simp_all; done) | simp_all | grind
@[simp] theorem c147_fn (g : Gh) (x_Thing : Int) (x_Holder : Int) (x_Who : Int) (x_At : Int) (x_Seal : Int) : c147.fn ([.mp (0, 0), .agg [.lit (.int .i64 x_Thing), .lit (.int .i64 x_Holder), .lit (.int .i64 x_Who), .lit (.int .i64 x_At), .lit (.int .i64 x_Seal)]]) ([((0, 0), .map 0 (keysG g) (.lit (.pointer none)) (linksG g))]) = some (True, .tup [], [((0, 0), .map 0 (keysG (addG g (⟨x_Thing, x_Holder, x_Who, x_At, x_Seal⟩ : THand).Thing (⟨x_Thing, x_Holder, x_Who, x_At, x_Seal⟩ : THand))) (.lit (.pointer none)) (linksG (addG g (⟨x_Thing, x_Holder, x_Who, x_At, x_Seal⟩ : THand).Thing (⟨x_Thing, x_Holder, x_Who, x_At, x_Seal⟩ : THand))))]) :=
  mkCon_fn c147_inj ((g, ⟨x_Thing, x_Holder, x_Who, x_At, x_Seal⟩) : Gh × THand) rfl rfl
theorem c147_pc (g : Gh) (x : THand) : PCo Try.prog 147 ([.mp (0, 0), encTHand x]) (Tab.of ([((0, 0), .map 0 (keysG g) (.lit (.pointer none)) (linksG g))])) (.tup []) (Tab.of ([((0, 0), .map 0 (keysG (addG g x.Thing x)) (.lit (.pointer none)) (linksG (addG g x.Thing x)))])) := by
  refine pco_of_run [] (E := ⟨[], [], []⟩) (m := false) (base := 0) Env.ok_nil G_ok mix 300 6 Try.func147 (by kernel_rfl) rfl (by kernel_rfl) (by kernel_rfl) rfl ?_
  have hl := look_link g x.Thing
  have hx := links_add g x.Thing x
  cases hr : (getG g x.Thing).reverse with
  | nil =>
    rw [hr] at hl hx
    simp only [linkR_nil] at hl
    simp only [linkR_cons, linkR_nil] at hx
    simp [Try.f147, hl, hx]
    exact keys_add ..
  | cons y t =>
    rw [hr] at hl hx
    simp only [linkR_cons] at hl hx
    simp [Try.f147, hl, hx]
    exact keys_add ..
theorem c147_ok : c147.ok Try.prog := mkCon_ok fun ⟨g, x⟩ hpre => c147_pc g x
/-- the last hand, and those before it -/
def linkL (q : THand × List THand) : D := .el (.agg [.lit (.int .i64 q.1.Thing), .lit (.int .i64 q.1.Holder), .lit (.int .i64 q.1.Who), .lit (.int .i64 q.1.At), .lit (.int .i64 q.1.Seal), linkR q.2])
/-- loop.example/g03007/impl.lastHands -/
noncomputable def c119 : Con := mkCon 119 false (α := (List THand)) (fun x => (fun (l : List THand) => [encLTHand l]) x) (fun _ => []) (fun x => (fun (l : List THand) => l.length ≤ 1099511627776) x) (fun x => (fun (l : List THand) => (.fm 0 (keysG (bkH l)) (linkL (default, [])) (linksG (bkH l)) : D)) x) (fun x => (fun (l : List THand) => []) x)
@[simp] theorem c119_f : c119.f = 119 := rfl
@[simp] theorem c119_own : c119.own = false := rfl
theorem c119_inj : ∀ u_ v_ : (List THand), ((fun x => (fun (l : List THand) => [encLTHand l]) x) u_).map nz = ((fun x => (fun (l : List THand) => [encLTHand l]) x) v_).map nz → u_ = v_ := by
  intro u_ v_ h
  obtain l := u_
  obtain l' := v_
  simp [nz_lit, nz1_lit, nz_agg, nz_sl, nz1_sl, encLTHand] at h
  first | (simp [h]; done) | (obtain ⟨⟩ := h; simp_all; done) | simp_all
@[simp] theorem c119_fn (l : List THand) : c119.fn [.sl false 5 yTHand (ML encTHand l)] [] = some ((fun (l : List THand) => l.length ≤ 1099511627776) l, (fun (l : List THand) => (.fm 0 (keysG (bkH l)) (linkL (default, [])) (linksG (bkH l)) : D)) l, (fun (l : List THand) => []) l) :=
  mkCon_fn (fun x y h _ => c119_inj x y h) (l : (List THand)) (by simp [nz, nz1, ML_nil, encLTHand]) rfl
@[simp] theorem c119_fn1 (s_l : Nat) (z_l : D) : c119.fn [.sl false s_l z_l []] [] = some ((fun (l : List THand) => l.length ≤ 1099511627776) [], (fun (l : List THand) => (.fm 0 (keysG (bkH l)) (linkL (default, [])) (linksG (bkH l)) : D)) [], (fun (l : List THand) => []) []) :=
  mkCon_fn (fun x y h _ => c119_inj x y h) ([] : (List THand)) (by simp [nz, nz1, ML_nil, encLTHand]) rfl
theorem c119_pc (l : List THand) (hpre : l.length ≤ 1099511627776) : PCo Try.prog 119 [encLTHand l] (Tab.of []) (.fm 0 (keysG (bkH l)) (linkL (default, [])) (linksG (bkH l))) (Tab.of []) := by
  refine pco_of_run [] (E := ⟨[c147, c147], [], []⟩) (m := false) (base := 0) (Env.ok_cons c147_ok (Env.ok_cons c147_ok Env.ok_nil)) G_ok mix 300 6 Try.func119 (by kernel_rfl) rfl (by kernel_rfl) (by kernel_rfl) rfl ?_
  simp [Try.f119]
  refine loop_inv (fun p : Nat => p ≤ l.length) (fun p => [(3, .mp (0, 1)), (7, encLTHand l), (8, dI l.length), (9, dI p)]) (fun p => [((0, 1), .map 0 (keysG (bkH (l.take p))) (.lit (.pointer none)) (linksG (bkH (l.take p))))]) 2 (fun p => l.length - p) 0 400 (by simp) (by simp) (by simp) ?_
  intro p hp
  simp
  refine ⟨fun hlt => ?_, fun hge => ?_⟩
  · have hs := grpL_take (key := kHd) (d := default) hlt
    repeat' (first | omega | refine And.intro ?_ ?_ | intro _)
    refine Again.mk (p + 1) (by omega) (by simp [hs]) (by first | omega | (simp; omega))
  · rw [List.take_of_length_le hge]
theorem c119_ok : c119.ok Try.prog := mkCon_ok fun l hpre => c119_pc l hpre

end Go.Proofs.Ytnghehfdclhfdaa
