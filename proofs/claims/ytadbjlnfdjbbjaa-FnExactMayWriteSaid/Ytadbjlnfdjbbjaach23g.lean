/- Contracts of the functions that the laws run. -/
import Derived.Test.Ytadbjlnfdjbbjaagrp
import Derived.Test.YtadbjlnfdjbbjaahelpA
import Derived.Test.YtadbjlnfdjbbjaaEngB
namespace Go.Proofs.Ytadbjlnfdjbbjaa
open Go Go.Eng
set_option linter.unusedSimpArgs false
set_option linter.unusedVariables false
set_option maxRecDepth 10000
set_option maxHeartbeats 1000000
/-- loop.example/g03007/laws.toLetter -/
noncomputable def c123 : Con := mkCon 123 false (α := TLetter) (fun x => (fun (a : TLetter) => [encTLetter a]) x) (fun _ => []) (fun x => (fun (a : TLetter) => True) x) (fun x => (fun (a : TLetter) => (encTLetter a : D)) x) (fun x => (fun (a : TLetter) => []) x)
@[simp] theorem c123_f : c123.f = 123 := rfl
@[simp] theorem c123_own : c123.own = false := rfl
theorem c123_inj : ∀ u_ v_ : TLetter, ((fun x => (fun (a : TLetter) => [encTLetter a]) x) u_).map nz = ((fun x => (fun (a : TLetter) => [encTLetter a]) x) v_).map nz → u_ = v_ := by
  intro u_ v_ h
  obtain ⟨a_Report, a_Thing, a_At⟩ := u_
  obtain ⟨a_Report', a_Thing', a_At'⟩ := v_
  simp [nz_lit, nz1_lit, nz_agg, nz_sl, nz1_sl, encTLetter] at h
  first | (simp [h]; done) | (obtain ⟨⟩ := h; simp_all; done) | simp_all
@[simp] theorem c123_fn (a_Report : Int) (a_Thing : Int) (a_At : Int) : c123.fn [.agg [.lit (.int .i64 a_Report), .lit (.int .i64 a_Thing), .lit (.int .i64 a_At)]] [] = some ((fun (a : TLetter) => True) ⟨a_Report, a_Thing, a_At⟩, (fun (a : TLetter) => (encTLetter a : D)) ⟨a_Report, a_Thing, a_At⟩, (fun (a : TLetter) => []) ⟨a_Report, a_Thing, a_At⟩) :=
  mkCon_fn (fun x y h _ => c123_inj x y h) (⟨a_Report, a_Thing, a_At⟩ : TLetter) (by simp [nz, nz1, ML_nil, encTLetter]) rfl
theorem c123_pc (a : TLetter) : PCo Try.prog 123 [encTLetter a] (Tab.of []) (encTLetter a) (Tab.of []) := by
  obtain ⟨a_Report, a_Thing, a_At⟩ := a
  refine pco_of_run [] (E := ⟨[], []⟩) (m := false) (base := 0) Env.ok_nil G_ok mix 300 6 Try.func123 (by kernel_rfl) rfl (by kernel_rfl) (by kernel_rfl) rfl ?_
  simp [Try.f123]
  all_goals first | omega | (rw [Bool.eq_iff_iff]; simp; omega) | grind
theorem c123_ok : c123.ok Try.prog := mkCon_ok fun a hpre => c123_pc a
/-- loop.example/g03007/laws.eqLetter -/
noncomputable def c127 : Con := mkCon 127 false (α := TLetter × TLetter) (fun x => (fun (a : TLetter) (b : TLetter) => [encTLetter a, encTLetter b]) x.1 x.2) (fun _ => []) (fun x => (fun (a : TLetter) (b : TLetter) => True) x.1 x.2) (fun x => (fun (a : TLetter) (b : TLetter) => (dB (decide (a = b)) : D)) x.1 x.2) (fun x => (fun (a : TLetter) (b : TLetter) => []) x.1 x.2)
@[simp] theorem c127_f : c127.f = 127 := rfl
@[simp] theorem c127_own : c127.own = false := rfl
theorem c127_inj : ∀ u_ v_ : TLetter × TLetter, ((fun x => (fun (a : TLetter) (b : TLetter) => [encTLetter a, encTLetter b]) x.1 x.2) u_).map nz = ((fun x => (fun (a : TLetter) (b : TLetter) => [encTLetter a, encTLetter b]) x.1 x.2) v_).map nz → u_ = v_ := by
  intro u_ v_ h
  obtain ⟨⟨a_Report, a_Thing, a_At⟩, ⟨b_Report, b_Thing, b_At⟩⟩ := u_
  obtain ⟨⟨a_Report', a_Thing', a_At'⟩, ⟨b_Report', b_Thing', b_At'⟩⟩ := v_
  simp [nz_lit, nz1_lit, nz_agg, nz_sl, nz1_sl, encTLetter] at h
  first | (simp [h]; done) | (obtain ⟨⟩ := h; simp_all; done) | simp_all
@[simp] theorem c127_fn (a_Report : Int) (a_Thing : Int) (a_At : Int) (b_Report : Int) (b_Thing : Int) (b_At : Int) : c127.fn [.agg [.lit (.int .i64 a_Report), .lit (.int .i64 a_Thing), .lit (.int .i64 a_At)], .agg [.lit (.int .i64 b_Report), .lit (.int .i64 b_Thing), .lit (.int .i64 b_At)]] [] = some ((fun (a : TLetter) (b : TLetter) => True) ⟨a_Report, a_Thing, a_At⟩ ⟨b_Report, b_Thing, b_At⟩, (fun (a : TLetter) (b : TLetter) => (dB (decide (a = b)) : D)) ⟨a_Report, a_Thing, a_At⟩ ⟨b_Report, b_Thing, b_At⟩, (fun (a : TLetter) (b : TLetter) => []) ⟨a_Report, a_Thing, a_At⟩ ⟨b_Report, b_Thing, b_At⟩) :=
  mkCon_fn (fun x y h _ => c127_inj x y h) ((⟨a_Report, a_Thing, a_At⟩, ⟨b_Report, b_Thing, b_At⟩) : TLetter × TLetter) (by simp [nz, nz1, ML_nil, encTLetter]) rfl
theorem c127_pc (a : TLetter) (b : TLetter) : PCo Try.prog 127 [encTLetter a, encTLetter b] (Tab.of []) (dB (decide (a = b))) (Tab.of []) := by
  obtain ⟨a_Report, a_Thing, a_At⟩ := a
  obtain ⟨b_Report, b_Thing, b_At⟩ := b
  refine pco_of_run [] (E := ⟨[], []⟩) (m := false) (base := 0) Env.ok_nil G_ok mix 300 6 Try.func127 (by kernel_rfl) rfl (by kernel_rfl) (by kernel_rfl) rfl ?_
  simp [Try.f127]
  all_goals first | omega | (rw [Bool.eq_iff_iff]; simp; omega) | grind
theorem c127_ok : c127.ok Try.prog := mkCon_ok fun ⟨a, b⟩ hpre => c127_pc a b
/-- loop.example/g03007/laws.szLetterS -/
noncomputable def c65 : Con := mkCon 65 false (α := (List TLetter) × Int) (fun x => (fun (l : List TLetter) (left : Int) => [encLTLetter l, dI left]) x.1 x.2) (fun _ => []) (fun x => (fun (l : List TLetter) (left : Int) => l.length ≤ maxLen ∧ 0 ≤ left ∧ left ≤ 1099511627776) x.1 x.2) (fun x => (fun (l : List TLetter) (left : Int) => (dI (if left - l.length < 0 then -1 else left - l.length) : D)) x.1 x.2) (fun x => (fun (l : List TLetter) (left : Int) => []) x.1 x.2)
@[simp] theorem c65_f : c65.f = 65 := rfl
@[simp] theorem c65_own : c65.own = false := rfl
theorem c65_inj : ∀ u_ v_ : (List TLetter) × Int, ((fun x => (fun (l : List TLetter) (left : Int) => [encLTLetter l, dI left]) x.1 x.2) u_).map nz = ((fun x => (fun (l : List TLetter) (left : Int) => [encLTLetter l, dI left]) x.1 x.2) v_).map nz → u_ = v_ := by
  intro u_ v_ h
  obtain ⟨l, left⟩ := u_
  obtain ⟨l', left'⟩ := v_
  simp [nz_lit, nz1_lit, nz_agg, nz_sl, nz1_sl, encLTLetter] at h
  first | (simp [h]; done) | (obtain ⟨⟩ := h; simp_all; done) | simp_all
@[simp] theorem c65_fn (l : List TLetter) (left : Int) : c65.fn [.sl false 3 yTLetter (ML encTLetter l), .lit (.int .i64 left)] [] = some ((fun (l : List TLetter) (left : Int) => l.length ≤ maxLen ∧ 0 ≤ left ∧ left ≤ 1099511627776) l left, (fun (l : List TLetter) (left : Int) => (dI (if left - l.length < 0 then -1 else left - l.length) : D)) l left, (fun (l : List TLetter) (left : Int) => []) l left) :=
  mkCon_fn (fun x y h _ => c65_inj x y h) ((l, left) : (List TLetter) × Int) (by simp [nz, nz1, ML_nil, encLTLetter]) rfl
@[simp] theorem c65_fn1 (s_l : Nat) (z_l : D) (left : Int) : c65.fn [.sl false s_l z_l [], .lit (.int .i64 left)] [] = some ((fun (l : List TLetter) (left : Int) => l.length ≤ maxLen ∧ 0 ≤ left ∧ left ≤ 1099511627776) [] left, (fun (l : List TLetter) (left : Int) => (dI (if left - l.length < 0 then -1 else left - l.length) : D)) [] left, (fun (l : List TLetter) (left : Int) => []) [] left) :=
  mkCon_fn (fun x y h _ => c65_inj x y h) (([], left) : (List TLetter) × Int) (by simp [nz, nz1, ML_nil, encLTLetter]) rfl
theorem c65_pc (l : List TLetter) (left : Int) (hpre : l.length ≤ maxLen ∧ 0 ≤ left ∧ left ≤ 1099511627776) : PCo Try.prog 65 [encLTLetter l, dI left] (Tab.of []) (dI (if left - l.length < 0 then -1 else left - l.length)) (Tab.of []) := by
  refine pco_of_run [] (E := ⟨[], []⟩) (m := false) (base := 0) Env.ok_nil G_ok mix 300 6 Try.func65 (by kernel_rfl) rfl (by kernel_rfl) (by kernel_rfl) rfl ?_
  simp [Try.f65]
  simp [maxLen] at hpre
  all_goals omega
theorem c65_ok : c65.ok Try.prog := mkCon_ok fun ⟨l, left⟩ hpre => c65_pc l left hpre
/-- loop.example/g03007/laws.toLetterS -/
noncomputable def c67 : Con := mkCon 67 false (α := (List TLetter)) (fun x => (fun (l : List TLetter) => [encLTLetter l]) x) (fun _ => []) (fun x => (fun (l : List TLetter) => l.length ≤ 1099511627776) x) (fun x => (fun (l : List TLetter) => (.own (0, 1) 3 0 l.length : D)) x) (fun x => (fun (l : List TLetter) => [((0, 1), .arr false 3 yTLetter (ML encTLetter l))]) x)
@[simp] theorem c67_f : c67.f = 67 := rfl
@[simp] theorem c67_own : c67.own = false := rfl
theorem c67_inj : ∀ u_ v_ : (List TLetter), ((fun x => (fun (l : List TLetter) => [encLTLetter l]) x) u_).map nz = ((fun x => (fun (l : List TLetter) => [encLTLetter l]) x) v_).map nz → u_ = v_ := by
  intro u_ v_ h
  obtain l := u_
  obtain l' := v_
  simp [nz_lit, nz1_lit, nz_agg, nz_sl, nz1_sl, encLTLetter] at h
  first | (simp [h]; done) | (obtain ⟨⟩ := h; simp_all; done) | simp_all
@[simp] theorem c67_fn (l : List TLetter) : c67.fn [.sl false 3 yTLetter (ML encTLetter l)] [] = some ((fun (l : List TLetter) => l.length ≤ 1099511627776) l, (fun (l : List TLetter) => (.own (0, 1) 3 0 l.length : D)) l, (fun (l : List TLetter) => [((0, 1), .arr false 3 yTLetter (ML encTLetter l))]) l) :=
  mkCon_fn (fun x y h _ => c67_inj x y h) (l : (List TLetter)) (by simp [nz, nz1, ML_nil, encLTLetter]) rfl
@[simp] theorem c67_fn1 (s_l : Nat) (z_l : D) : c67.fn [.sl false s_l z_l []] [] = some ((fun (l : List TLetter) => l.length ≤ 1099511627776) [], (fun (l : List TLetter) => (.own (0, 1) 3 0 l.length : D)) [], (fun (l : List TLetter) => [((0, 1), .arr false 3 yTLetter (ML encTLetter l))]) []) :=
  mkCon_fn (fun x y h _ => c67_inj x y h) ([] : (List TLetter)) (by simp [nz, nz1, ML_nil, encLTLetter]) rfl
theorem c67_pc (l : List TLetter) (hpre : l.length ≤ 1099511627776) : PCo Try.prog 67 [encLTLetter l] (Tab.of []) (.own (0, 1) 3 0 l.length) (Tab.of [((0, 1), .arr false 3 yTLetter (ML encTLetter l))]) := by
  refine pco_of_run [] (E := ⟨[c123], []⟩) (m := false) (base := 0) (Env.ok_cons c123_ok Env.ok_nil) G_ok mix 300 6 Try.func67 (by kernel_rfl) rfl (by kernel_rfl) (by kernel_rfl) rfl ?_
  simp [Try.f67]
  refine ⟨by omega, ?_⟩
  refine loop_inv (fun p : Nat => p ≤ l.length) (fun p => [(0, encLTLetter l), (3, .own (0, 1) 3 0 l.length), (4, dI p)]) (fun p => [((0, 1), .arr false 3 yTLetter (ML encTLetter (l.take p ++ List.replicate (l.length - p) ⟨0, 0, 0⟩)))]) 2 (fun p => l.length - p) 0 100 (by simp) (by simp) (by first | (simp; done) | (simp; simp only [ML, List.map_replicate]; rfl)) ?_
  intro p hp
  simp
  refine ⟨fun hlt => ⟨by omega, by omega, Again.mk (p + 1) (by omega) (by simp [fill_step hlt]) (by first | omega | (simp; omega))⟩, fun hge => ?_⟩
  have : p = l.length := by omega
  subst this
  simp
theorem c67_ok : c67.ok Try.prog := mkCon_ok fun l hpre => c67_pc l hpre
/-- loop.example/g03007/laws.eqLetterS -/
noncomputable def c69 : Con := mkCon 69 false (α := (List TLetter) × (List TLetter)) (fun x => (fun (a : List TLetter) (b : List TLetter) => [encLTLetter a, encLTLetter b]) x.1 x.2) (fun _ => []) (fun x => (fun (a : List TLetter) (b : List TLetter) => a.length ≤ 1099511627776 ∧ b.length ≤ 1099511627776) x.1 x.2) (fun x => (fun (a : List TLetter) (b : List TLetter) => (dB (decide (a = b)) : D)) x.1 x.2) (fun x => (fun (a : List TLetter) (b : List TLetter) => []) x.1 x.2)
@[simp] theorem c69_f : c69.f = 69 := rfl
@[simp] theorem c69_own : c69.own = false := rfl
theorem c69_inj : ∀ u_ v_ : (List TLetter) × (List TLetter), ((fun x => (fun (a : List TLetter) (b : List TLetter) => [encLTLetter a, encLTLetter b]) x.1 x.2) u_).map nz = ((fun x => (fun (a : List TLetter) (b : List TLetter) => [encLTLetter a, encLTLetter b]) x.1 x.2) v_).map nz → u_ = v_ := by
  intro u_ v_ h
  obtain ⟨a, b⟩ := u_
  obtain ⟨a', b'⟩ := v_
  simp [nz_lit, nz1_lit, nz_agg, nz_sl, nz1_sl, encLTLetter] at h
  first | (simp [h]; done) | (obtain ⟨⟩ := h; simp_all; done) | simp_all
@[simp] theorem c69_fn (a : List TLetter) (b : List TLetter) : c69.fn [.sl false 3 yTLetter (ML encTLetter a), .sl false 3 yTLetter (ML encTLetter b)] [] = some ((fun (a : List TLetter) (b : List TLetter) => a.length ≤ 1099511627776 ∧ b.length ≤ 1099511627776) a b, (fun (a : List TLetter) (b : List TLetter) => (dB (decide (a = b)) : D)) a b, (fun (a : List TLetter) (b : List TLetter) => []) a b) :=
  mkCon_fn (fun x y h _ => c69_inj x y h) ((a, b) : (List TLetter) × (List TLetter)) (by simp [nz, nz1, ML_nil, encLTLetter]) rfl
@[simp] theorem c69_fn1 (s_a : Nat) (z_a : D) (b : List TLetter) : c69.fn [.sl false s_a z_a [], .sl false 3 yTLetter (ML encTLetter b)] [] = some ((fun (a : List TLetter) (b : List TLetter) => a.length ≤ 1099511627776 ∧ b.length ≤ 1099511627776) [] b, (fun (a : List TLetter) (b : List TLetter) => (dB (decide (a = b)) : D)) [] b, (fun (a : List TLetter) (b : List TLetter) => []) [] b) :=
  mkCon_fn (fun x y h _ => c69_inj x y h) (([], b) : (List TLetter) × (List TLetter)) (by simp [nz, nz1, ML_nil, encLTLetter]) rfl
@[simp] theorem c69_fn2 (a : List TLetter) (s_b : Nat) (z_b : D) : c69.fn [.sl false 3 yTLetter (ML encTLetter a), .sl false s_b z_b []] [] = some ((fun (a : List TLetter) (b : List TLetter) => a.length ≤ 1099511627776 ∧ b.length ≤ 1099511627776) a [], (fun (a : List TLetter) (b : List TLetter) => (dB (decide (a = b)) : D)) a [], (fun (a : List TLetter) (b : List TLetter) => []) a []) :=
  mkCon_fn (fun x y h _ => c69_inj x y h) ((a, []) : (List TLetter) × (List TLetter)) (by simp [nz, nz1, ML_nil, encLTLetter]) rfl
@[simp] theorem c69_fn3 (s_a : Nat) (z_a : D) (s_b : Nat) (z_b : D) : c69.fn [.sl false s_a z_a [], .sl false s_b z_b []] [] = some ((fun (a : List TLetter) (b : List TLetter) => a.length ≤ 1099511627776 ∧ b.length ≤ 1099511627776) [] [], (fun (a : List TLetter) (b : List TLetter) => (dB (decide (a = b)) : D)) [] [], (fun (a : List TLetter) (b : List TLetter) => []) [] []) :=
  mkCon_fn (fun x y h _ => c69_inj x y h) (([], []) : (List TLetter) × (List TLetter)) (by simp [nz, nz1, ML_nil, encLTLetter]) rfl
theorem c69_pc (a : List TLetter) (b : List TLetter) (hpre : a.length ≤ 1099511627776 ∧ b.length ≤ 1099511627776) : PCo Try.prog 69 [encLTLetter a, encLTLetter b] (Tab.of []) (dB (decide (a = b))) (Tab.of []) := by
  refine pco_of_run [] (E := ⟨[c127], []⟩) (m := false) (base := 0) (Env.ok_cons c127_ok Env.ok_nil) G_ok mix 300 6 Try.func69 (by kernel_rfl) rfl (by kernel_rfl) (by kernel_rfl) rfl ?_
  simp [Try.f69]
  obtain ⟨pre1, pre2⟩ := hpre
  refine ⟨fun h => ?_, fun h => by intro e; subst e; exact absurd rfl h⟩
  refine loop_inv (fun p : Nat => p ≤ a.length ∧ a.take p = b.take p) (fun p => [(0, encLTLetter a), (1, encLTLetter b), (5, dI p)]) (fun _ => []) 1 (fun p => a.length - p) 0 100 (by simp) (by simp) (by simp) ?_
  intro p ⟨hp, hi⟩
  simp
  refine ⟨fun hlt => ⟨by omega, fun h2 => ⟨by omega, Again.mk (p + 1) ⟨by omega, take_eq_step hi (by omega) (by omega) h2⟩ (by simp) (by first | omega | (simp; omega))⟩, fun h2 => by intro e; subst e; exact absurd rfl h2⟩, fun hge => ?_⟩
  exact take_eq_full hi (by omega) (by omega)
theorem c69_ok : c69.ok Try.prog := mkCon_ok fun ⟨a, b⟩ hpre => c69_pc a b hpre
abbrev mk_TLetter : Int → TLetter := fun n => ⟨n, n + 1, n + 2⟩
/-- loop.example/g03007/laws.markLetterS -/
noncomputable def c76 : Con := mkCon 76 true (α := (List TLetter) × Int) (fun x => (fun (l : List TLetter) (k : Int) => ([.own (0, 0) 3 0 l.length, dI k] : List D)) x.1 x.2) (fun x => (fun (l : List TLetter) (k : Int) => ([((0, 0), .arr false 3 yTLetter (ML encTLetter l))] : List (Nm × OO))) x.1 x.2) (fun x => (fun (l : List TLetter) (k : Int) => l.length ≤ 1099511627776 ∧ 0 ≤ k ∧ k ≤ 1152921504606846976) x.1 x.2) (fun x => (fun (l : List TLetter) (k : Int) => (dI (k + 3 * l.length) : D)) x.1 x.2) (fun x => (fun (l : List TLetter) (k : Int) => ([((0, 0), .arr false 3 yTLetter (ML encTLetter (mkL mk_TLetter 3 k l.length)))] : List (Nm × OO))) x.1 x.2)
@[simp] theorem c76_f : c76.f = 76 := rfl
@[simp] theorem c76_own : c76.own = true := rfl
theorem c76_inj : ∀ u_ v_ : (List TLetter) × Int, ((fun x => (fun (l : List TLetter) (k : Int) => ([.own (0, 0) 3 0 l.length, dI k] : List D)) x.1 x.2) u_).map nz = ((fun x => (fun (l : List TLetter) (k : Int) => ([.own (0, 0) 3 0 l.length, dI k] : List D)) x.1 x.2) v_).map nz → (fun x => (fun (l : List TLetter) (k : Int) => ([((0, 0), .arr false 3 yTLetter (ML encTLetter l))] : List (Nm × OO))) x.1 x.2) u_ = (fun x => (fun (l : List TLetter) (k : Int) => ([((0, 0), .arr false 3 yTLetter (ML encTLetter l))] : List (Nm × OO))) x.1 x.2) v_ → u_ = v_ := by
  intro u_ v_ h h2_
  obtain ⟨l, k⟩ := u_
  obtain ⟨l', k'⟩ := v_
  simp [nz_lit, nz1_lit, nz_agg, nz_sl, nz1_sl, nz_sx, nz_el, nz1_el, nz_own, nz1_own, nz_ptr, nz_fn, nz_iface] at h h2_
  first | (simp [h, h2_]; done) | (obtain ⟨h3_, h4_⟩ := List.append_inj h2_ h.1; simp_all; done) | simp_all | grind
@[simp] theorem c76_fn (l : List TLetter) (k : Int) : c76.fn ([.own (0, 0) 3 0 l.length, dI k]) ([((0, 0), .arr false 3 yTLetter (ML encTLetter l))]) = some (l.length ≤ 1099511627776 ∧ 0 ≤ k ∧ k ≤ 1152921504606846976, dI (k + 3 * l.length), [((0, 0), .arr false 3 yTLetter (ML encTLetter (mkL mk_TLetter 3 k l.length)))]) :=
  mkCon_fn c76_inj ((l, k) : (List TLetter) × Int) rfl rfl
theorem c76_pc (l : List TLetter) (k : Int) (hpre : l.length ≤ 1099511627776 ∧ 0 ≤ k ∧ k ≤ 1152921504606846976) : PCo Try.prog 76 ([.own (0, 0) 3 0 l.length, dI k]) (Tab.of ([((0, 0), .arr false 3 yTLetter (ML encTLetter l))])) (dI (k + 3 * l.length)) (Tab.of ([((0, 0), .arr false 3 yTLetter (ML encTLetter (mkL mk_TLetter 3 k l.length)))])) := by
  refine pco_of_run [] (E := ⟨[], []⟩) (m := false) (base := 0) Env.ok_nil G_ok mix 300 6 Try.func76 (by kernel_rfl) rfl (by kernel_rfl) (by kernel_rfl) rfl ?_
  simp [Try.f76]
  obtain ⟨pre1, pre2, pre3⟩ := hpre
  refine loop_inv (fun p : Nat => p ≤ l.length) (fun p => [(0, .own (0, 0) 3 0 l.length), (1, dI (k + 3 * p)), (5, dI p)]) (fun p => [((0, 0), .arr false 3 yTLetter (ML encTLetter (mkL mk_TLetter 3 k p ++ l.drop p)))]) 2 (fun p => l.length - p) 0 100 (by simp) (by simp) (by simp) ?_
  intro p hp
  simp
  have hs : ∀ x, x = mk_TLetter (k + 3 * (p : Int)) → p < l.length → mkL mk_TLetter 3 k p ++ (l.drop p).set 0 x = mkL mk_TLetter 3 k (p + 1) ++ l.drop (p + 1) := fun x hx hlt => mark_step0 hlt hx
  refine ⟨fun hlt => ?_, fun hge => ?_⟩
  · repeat' (first | omega | refine And.intro ?_ ?_ | intro _)
    all_goals refine Again.mk (p + 1) (by omega) ?_ (by first | omega | (simp; omega))
    all_goals (rw [hs _ (by simp [mark_get0 hlt, mark_get hlt]; first | done | omega) hlt]; simp; omega)
  have : p = l.length := by omega
  subst this
  simp
  trace_state
theorem c76_ok : c76.ok Try.prog := mkCon_ok fun ⟨l, k⟩ hpre => c76_pc l k hpre
/-- loop.example/g03007/laws.heldLetterS -/
noncomputable def c77 : Con := mkCon 77 false (α := (List TLetter) × Int) (fun x => (fun (l : List TLetter) (k : Int) => [encLTLetter l, dI k]) x.1 x.2) (fun _ => []) (fun x => (fun (l : List TLetter) (k : Int) => l.length ≤ 1099511627776 ∧ 0 ≤ k ∧ k ≤ 1152921504606846976) x.1 x.2) (fun x => (fun (l : List TLetter) (k : Int) => (dI (if l = mkL mk_TLetter 3 k l.length then k + 3 * l.length else -1) : D)) x.1 x.2) (fun x => (fun (l : List TLetter) (k : Int) => []) x.1 x.2)
@[simp] theorem c77_f : c77.f = 77 := rfl
@[simp] theorem c77_own : c77.own = false := rfl
theorem c77_inj : ∀ u_ v_ : (List TLetter) × Int, ((fun x => (fun (l : List TLetter) (k : Int) => [encLTLetter l, dI k]) x.1 x.2) u_).map nz = ((fun x => (fun (l : List TLetter) (k : Int) => [encLTLetter l, dI k]) x.1 x.2) v_).map nz → u_ = v_ := by
  intro u_ v_ h
  obtain ⟨l, k⟩ := u_
  obtain ⟨l', k'⟩ := v_
  simp [nz_lit, nz1_lit, nz_agg, nz_sl, nz1_sl, encLTLetter] at h
  first | (simp [h]; done) | (obtain ⟨⟩ := h; simp_all; done) | simp_all
@[simp] theorem c77_fn (l : List TLetter) (k : Int) : c77.fn [.sl false 3 yTLetter (ML encTLetter l), .lit (.int .i64 k)] [] = some ((fun (l : List TLetter) (k : Int) => l.length ≤ 1099511627776 ∧ 0 ≤ k ∧ k ≤ 1152921504606846976) l k, (fun (l : List TLetter) (k : Int) => (dI (if l = mkL mk_TLetter 3 k l.length then k + 3 * l.length else -1) : D)) l k, (fun (l : List TLetter) (k : Int) => []) l k) :=
  mkCon_fn (fun x y h _ => c77_inj x y h) ((l, k) : (List TLetter) × Int) (by simp [nz, nz1, ML_nil, encLTLetter]) rfl
@[simp] theorem c77_fn1 (s_l : Nat) (z_l : D) (k : Int) : c77.fn [.sl false s_l z_l [], .lit (.int .i64 k)] [] = some ((fun (l : List TLetter) (k : Int) => l.length ≤ 1099511627776 ∧ 0 ≤ k ∧ k ≤ 1152921504606846976) [] k, (fun (l : List TLetter) (k : Int) => (dI (if l = mkL mk_TLetter 3 k l.length then k + 3 * l.length else -1) : D)) [] k, (fun (l : List TLetter) (k : Int) => []) [] k) :=
  mkCon_fn (fun x y h _ => c77_inj x y h) (([], k) : (List TLetter) × Int) (by simp [nz, nz1, ML_nil, encLTLetter]) rfl
theorem c77_pc (l : List TLetter) (k : Int) (hpre : l.length ≤ 1099511627776 ∧ 0 ≤ k ∧ k ≤ 1152921504606846976) : PCo Try.prog 77 [encLTLetter l, dI k] (Tab.of []) (dI (if l = mkL mk_TLetter 3 k l.length then k + 3 * l.length else -1)) (Tab.of []) := by
  refine pco_of_run [] (E := ⟨[], []⟩) (m := false) (base := 0) Env.ok_nil G_ok mix 300 6 Try.func77 (by kernel_rfl) rfl (by kernel_rfl) (by kernel_rfl) rfl ?_
  simp [Try.f77]
  obtain ⟨pre1, pre2, pre3⟩ := hpre
  refine loop_inv (fun p : Nat => p ≤ l.length ∧ l.take p = (mkL mk_TLetter 3 k l.length).take p) (fun p => [(0, encLTLetter l), (1, dI (k + 3 * p)), (5, dI p)]) (fun _ => []) 1 (fun p => l.length - p) 0 100 (by simp) (by simp) (by simp) ?_
  intro p ⟨hp, hi⟩
  simp
  refine ⟨fun hlt => ?_, fun hge => ?_⟩
  · have hx := mkL_get (f := mk_TLetter) (m := 3) (k := k) (d := default) hlt
    by_cases he : l[p]?.getD default = mk_TLetter (k + 3 * (p : Int))
    · generalize hA : Again _ _ _ _ _ _ _ = A
      have hAA : A := by rw [← hA]; exact Again.mk (p + 1) ⟨by omega, take_eq_step hi (by omega) (by simp; omega) (by rw [hx]; exact he)⟩ (by simp; omega) (by first | omega | (simp; omega))
      clear hA
      simp only [he, mk_TLetter]
      repeat' (first | exact hAA | omega | refine And.intro ?_ ?_ | intro _)
      all_goals first | (exfalso; exact absurd trivial (by assumption)) | (exfalso; omega)
    · have hne : ¬ l = mkL mk_TLetter 3 k l.length := fun e => he (by rw [← hx]; exact congrArg (fun z => z[p]?.getD default) e)
      generalize Again _ _ _ _ _ _ _ = A
      repeat' (first | omega | rfl | refine And.intro ?_ ?_ | intro _)
      all_goals first | (exfalso; apply hne; assumption) | (exfalso; apply he; obtain ⟨x, hq⟩ : ∃ x, l[p]?.getD default = x := ⟨_, rfl⟩; simp only [hq] at *; obtain ⟨x1, x2, x3⟩ := x; simp [mk_TLetter] at *; omega)
  · have h4 := take_eq_full hi hge (by simp; omega)
    rw [if_pos h4]; omega
theorem c77_ok : c77.ok Try.prog := mkCon_ok fun ⟨l, k⟩ hpre => c77_pc l k hpre
abbrev Gl := List (Int × List TLetter)
@[simp] def kRe (x : TLetter) : Int := x.Report
abbrev bkL (l : List TLetter) : Gl := grpL kRe l
@[simp] theorem grpL_injL (g g' : Gl) : (keysG g = keysG g' ∧ rowsG encTLetter g = rowsG encTLetter g') ↔ g = g' := ⟨fun h => grp_inj inj_TLetter g g' h.1 h.2, fun h => by rw [h]; exact ⟨rfl, rfl⟩⟩
@[simp] theorem grpL_inj2L (g g' : Gl) : (keysG g = keysG g' ∧ rowsD 3 yTLetter (rowsG encTLetter g) = rowsD 3 yTLetter (rowsG encTLetter g')) ↔ g = g' := ⟨fun h => grp_inj inj_TLetter g g' h.1 (rowsD_inj _ _ h.2), fun h => by rw [h]; exact ⟨rfl, rfl⟩⟩
@[simp] theorem rowsL_flat (g : Gl) : (rowsG encTLetter g).all flatDs = true := rows_flat (fun _ => rfl) g
@[simp] theorem lookL (g : Gl) (k : Int) : (lookK (keysG g) (rowsD 3 yTLetter (rowsG encTLetter g)) [k]).getD (.sl false 3 yTLetter []) = .sl false 3 yTLetter (ML encTLetter (getG g k)) := look_G _ _ _ g k
/-- (loop.example/g03007/impl.lettersByReport).note -/
noncomputable def c126 : Con := mkCon 126 true (α := Gl × TLetter) (fun x => (fun (g : Gl) (x : TLetter) => ([.mp (0, 0), encTLetter x] : List D)) x.1 x.2) (fun x => (fun (g : Gl) (x : TLetter) => ([((0, 0), .rmap 0 (keysG g) 3 yTLetter (rowsG encTLetter g) none)] : List (Nm × OO))) x.1 x.2) (fun x => (fun (g : Gl) (x : TLetter) => (getG g x.Report).length ≤ 1073741823) x.1 x.2) (fun x => (fun (g : Gl) (x : TLetter) => (.tup [] : D)) x.1 x.2) (fun x => (fun (g : Gl) (x : TLetter) => ([((0, 0), .rmap 0 (keysG (addG g x.Report x)) 3 yTLetter (rowsG encTLetter (addG g x.Report x)) none)] : List (Nm × OO))) x.1 x.2)
@[simp] theorem c126_f : c126.f = 126 := rfl
@[simp] theorem c126_own : c126.own = true := rfl
theorem c126_inj : ∀ u_ v_ : Gl × TLetter, ((fun x => (fun (g : Gl) (x : TLetter) => ([.mp (0, 0), encTLetter x] : List D)) x.1 x.2) u_).map nz = ((fun x => (fun (g : Gl) (x : TLetter) => ([.mp (0, 0), encTLetter x] : List D)) x.1 x.2) v_).map nz → (fun x => (fun (g : Gl) (x : TLetter) => ([((0, 0), .rmap 0 (keysG g) 3 yTLetter (rowsG encTLetter g) none)] : List (Nm × OO))) x.1 x.2) u_ = (fun x => (fun (g : Gl) (x : TLetter) => ([((0, 0), .rmap 0 (keysG g) 3 yTLetter (rowsG encTLetter g) none)] : List (Nm × OO))) x.1 x.2) v_ → u_ = v_ := by
  intro u_ v_ h h2_
  obtain ⟨g, ⟨x_Report, x_Thing, x_At⟩⟩ := u_
  obtain ⟨g', ⟨x_Report', x_Thing', x_At'⟩⟩ := v_
  simp [nz_lit, nz1_lit, nz_agg, nz_sl, nz1_sl, nz_sx, nz_el, nz1_el, nz_own, nz1_own, nz_ptr, nz_fn, nz_iface] at h h2_
  first | (simp [h, h2_]; done) | (obtain ⟨h3_, h4_⟩ := List.append_inj h2_ h.1; simp_all; done) | simp_all | grind
@[simp] theorem c126_fn (g : Gl) (x_Report : Int) (x_Thing : Int) (x_At : Int) : c126.fn ([.mp (0, 0), .agg [.lit (.int .i64 x_Report), .lit (.int .i64 x_Thing), .lit (.int .i64 x_At)]]) ([((0, 0), .rmap 0 (keysG g) 3 yTLetter (rowsG encTLetter g) none)]) = some ((getG g (⟨x_Report, x_Thing, x_At⟩ : TLetter).Report).length ≤ 1073741823, .tup [], [((0, 0), .rmap 0 (keysG (addG g (⟨x_Report, x_Thing, x_At⟩ : TLetter).Report (⟨x_Report, x_Thing, x_At⟩ : TLetter))) 3 yTLetter (rowsG encTLetter (addG g (⟨x_Report, x_Thing, x_At⟩ : TLetter).Report (⟨x_Report, x_Thing, x_At⟩ : TLetter))) none)]) :=
  mkCon_fn c126_inj ((g, ⟨x_Report, x_Thing, x_At⟩) : Gl × TLetter) rfl rfl
theorem c126_pc (g : Gl) (x : TLetter) (hpre : (getG g x.Report).length ≤ 1073741823) : PCo Try.prog 126 ([.mp (0, 0), encTLetter x]) (Tab.of ([((0, 0), .rmap 0 (keysG g) 3 yTLetter (rowsG encTLetter g) none)])) (.tup []) (Tab.of ([((0, 0), .rmap 0 (keysG (addG g x.Report x)) 3 yTLetter (rowsG encTLetter (addG g x.Report x)) none)])) := by
  refine pco_of_run [1001] (E := ⟨[], []⟩) (m := false) (base := 0) Env.ok_nil G_ok mix 300 6 Try.func126 (by kernel_rfl) rfl (by kernel_rfl) (by kernel_rfl) rfl ?_
  obtain ⟨a, b, c⟩ := x
  simp only at hpre ⊢
  cases hp : posK [a] (keysG g) with
  | none =>
    have hn := posK_none_G hp
    simp [Try.f126, hp]
    exact ⟨keys_add .., rows_add _ _ _ _ _ (by rw [hn]; rfl)⟩
  | some j =>
    have hn := rows_at2 (enc := encTLetter) hp
    have hn2 := rows_at (enc := encTLetter) hp
    simp [Try.f126, hp, -rowsG_at, -rowsG_at2, hn, hn2]
    exact ⟨by omega, keys_add .., rows_add _ _ _ _ _ rfl⟩
theorem c126_ok : c126.ok Try.prog := mkCon_ok fun ⟨g, x⟩ hpre => c126_pc g x hpre
theorem getL_len (l : List TLetter) (k : Int) : (getG (bkL l) k).length ≤ l.length := by rw [getG_grp]; exact List.length_filter_le _ _
/-- loop.example/g03007/impl.groupLetters -/
noncomputable def c128 : Con := mkCon 128 false (α := (List TLetter)) (fun x => (fun (l : List TLetter) => [encLTLetter l]) x) (fun _ => []) (fun x => (fun (l : List TLetter) => l.length ≤ 1073741823) x) (fun x => (fun (l : List TLetter) => (.fm 0 (keysG (bkL l)) (.sl false 3 yTLetter []) (rowsD 3 yTLetter (rowsG encTLetter (bkL l))) : D)) x) (fun x => (fun (l : List TLetter) => []) x)
@[simp] theorem c128_f : c128.f = 128 := rfl
@[simp] theorem c128_own : c128.own = false := rfl
theorem c128_inj : ∀ u_ v_ : (List TLetter), ((fun x => (fun (l : List TLetter) => [encLTLetter l]) x) u_).map nz = ((fun x => (fun (l : List TLetter) => [encLTLetter l]) x) v_).map nz → u_ = v_ := by
  intro u_ v_ h
  obtain l := u_
  obtain l' := v_
  simp [nz_lit, nz1_lit, nz_agg, nz_sl, nz1_sl, encLTLetter] at h
  first | (simp [h]; done) | (obtain ⟨⟩ := h; simp_all; done) | simp_all
@[simp] theorem c128_fn (l : List TLetter) : c128.fn [.sl false 3 yTLetter (ML encTLetter l)] [] = some ((fun (l : List TLetter) => l.length ≤ 1073741823) l, (fun (l : List TLetter) => (.fm 0 (keysG (bkL l)) (.sl false 3 yTLetter []) (rowsD 3 yTLetter (rowsG encTLetter (bkL l))) : D)) l, (fun (l : List TLetter) => []) l) :=
  mkCon_fn (fun x y h _ => c128_inj x y h) (l : (List TLetter)) (by simp [nz, nz1, ML_nil, encLTLetter]) rfl
@[simp] theorem c128_fn1 (s_l : Nat) (z_l : D) : c128.fn [.sl false s_l z_l []] [] = some ((fun (l : List TLetter) => l.length ≤ 1073741823) [], (fun (l : List TLetter) => (.fm 0 (keysG (bkL l)) (.sl false 3 yTLetter []) (rowsD 3 yTLetter (rowsG encTLetter (bkL l))) : D)) [], (fun (l : List TLetter) => []) []) :=
  mkCon_fn (fun x y h _ => c128_inj x y h) ([] : (List TLetter)) (by simp [nz, nz1, ML_nil, encLTLetter]) rfl
theorem c128_pc (l : List TLetter) (hpre : l.length ≤ 1073741823) : PCo Try.prog 128 [encLTLetter l] (Tab.of []) (.fm 0 (keysG (bkL l)) (.sl false 3 yTLetter []) (rowsD 3 yTLetter (rowsG encTLetter (bkL l)))) (Tab.of []) := by
  refine pco_of_run [] (E := ⟨[c126, c126], []⟩) (m := false) (base := 0) (Env.ok_cons c126_ok (Env.ok_cons c126_ok Env.ok_nil)) G_ok mix 300 6 Try.func128 (by kernel_rfl) rfl (by kernel_rfl) (by kernel_rfl) rfl ?_
  simp [Try.f128]
  refine loop_inv (fun p : Nat => p ≤ l.length) (fun p => [(3, .mp (0, 1)), (7, encLTLetter l), (8, dI l.length), (9, dI p)]) (fun p => [((0, 1), .rmap 0 (keysG (bkL (l.take p))) 3 yTLetter (rowsG encTLetter (bkL (l.take p))) none)]) 2 (fun p => l.length - p) 0 400 (by simp) (by simp) (by simp) ?_
  intro p hp
  simp
  refine ⟨fun hlt => ?_, fun hge => ?_⟩
  · have hs := grpL_take (key := kRe) (d := default) hlt
    have hb := getL_len (l.take p) (l[p]?.getD default).Report
    have hb2 : (l.take p).length ≤ p := by simp; omega
    repeat' (first | omega | refine And.intro ?_ ?_ | intro _)
    refine Again.mk (p + 1) (by omega) (by simp [hs]) (by first | omega | (simp; omega))
  · rw [List.take_of_length_le hge]
theorem c128_ok : c128.ok Try.prog := mkCon_ok fun l hpre => c128_pc l hpre
def reIs (k : Int) (x : TLetter) : Bool := decide (kRe x = k)
theorem bkL_get (l : List TLetter) (k : Int) : getG (bkL l) k = l.filter (reIs k) := by rw [bkL, getG_grp]; rfl
def mRow (l : List TLetter) (k : Int) : List TLetter := l.filter (reIs k)
theorem mRow_len (l : List TLetter) (k : Int) : (mRow l k).length ≤ l.length := List.length_filter_le _ _
theorem mRow_at {l : List TLetter} {k : Int} {p : Nat} (h : p < l.length) : mRow (l.take (p + 1)) k = mRow (l.take p) k ++ if (l[p]?.getD default).Report = k then [l[p]?.getD default] else [] := by
  rw [mRow, take_at (d := default) h, List.filter_append]
  congr 1
  by_cases h : (l[p]?.getD default).Report = k <;> simp [List.filter, reIs, h]
def endAt (r : List TLetter) : Int := match r.getLast? with | none => -1 | some x => x.At
/-- loop.example/g03007/impl.CountLetters -/
noncomputable def c79 : Con := mkCon 79 false (α := (List TLetter) × Int) (fun x => (fun (l : List TLetter) (k : Int) => [encLTLetter l, dI k]) x.1 x.2) (fun _ => []) (fun x => (fun (l : List TLetter) (k : Int) => l.length ≤ 1073741823) x.1 x.2) (fun x => (fun (l : List TLetter) (k : Int) => (dI (mRow l k).length : D)) x.1 x.2) (fun x => (fun (l : List TLetter) (k : Int) => []) x.1 x.2)
@[simp] theorem c79_f : c79.f = 79 := rfl
@[simp] theorem c79_own : c79.own = false := rfl
theorem c79_inj : ∀ u_ v_ : (List TLetter) × Int, ((fun x => (fun (l : List TLetter) (k : Int) => [encLTLetter l, dI k]) x.1 x.2) u_).map nz = ((fun x => (fun (l : List TLetter) (k : Int) => [encLTLetter l, dI k]) x.1 x.2) v_).map nz → u_ = v_ := by
  intro u_ v_ h
  obtain ⟨l, k⟩ := u_
  obtain ⟨l', k'⟩ := v_
  simp [nz_lit, nz1_lit, nz_agg, nz_sl, nz1_sl, encLTLetter] at h
  first | (simp [h]; done) | (obtain ⟨⟩ := h; simp_all; done) | simp_all
@[simp] theorem c79_fn (l : List TLetter) (k : Int) : c79.fn [.sl false 3 yTLetter (ML encTLetter l), .lit (.int .i64 k)] [] = some ((fun (l : List TLetter) (k : Int) => l.length ≤ 1073741823) l k, (fun (l : List TLetter) (k : Int) => (dI (mRow l k).length : D)) l k, (fun (l : List TLetter) (k : Int) => []) l k) :=
  mkCon_fn (fun x y h _ => c79_inj x y h) ((l, k) : (List TLetter) × Int) (by simp [nz, nz1, ML_nil, encLTLetter]) rfl
@[simp] theorem c79_fn1 (s_l : Nat) (z_l : D) (k : Int) : c79.fn [.sl false s_l z_l [], .lit (.int .i64 k)] [] = some ((fun (l : List TLetter) (k : Int) => l.length ≤ 1073741823) [] k, (fun (l : List TLetter) (k : Int) => (dI (mRow l k).length : D)) [] k, (fun (l : List TLetter) (k : Int) => []) [] k) :=
  mkCon_fn (fun x y h _ => c79_inj x y h) (([], k) : (List TLetter) × Int) (by simp [nz, nz1, ML_nil, encLTLetter]) rfl
theorem c79_pc (l : List TLetter) (k : Int) (hpre : l.length ≤ 1073741823) : PCo Try.prog 79 [encLTLetter l, dI k] (Tab.of []) (dI (mRow l k).length) (Tab.of []) := by
  refine pco_of_run [] (E := ⟨[c128], []⟩) (m := false) (base := 0) (Env.ok_cons c128_ok Env.ok_nil) G_ok mix 300 6 Try.func79 (by kernel_rfl) rfl (by kernel_rfl) (by kernel_rfl) rfl ?_
  simp [Try.f79]
  rw [← show getG (bkL l) k = mRow l k from bkL_get l k]
  exact ⟨hpre, rfl⟩
theorem c79_ok : c79.ok Try.prog := mkCon_ok fun ⟨l, k⟩ hpre => c79_pc l k hpre
/-- loop.example/g03007/spec.CountLetters -/
noncomputable def c78 : Con := mkCon 78 false (α := (List TLetter) × Int) (fun x => (fun (l : List TLetter) (k : Int) => [encLTLetter l, dI k]) x.1 x.2) (fun _ => []) (fun x => (fun (l : List TLetter) (k : Int) => l.length ≤ 1073741823) x.1 x.2) (fun x => (fun (l : List TLetter) (k : Int) => (dI (mRow l k).length : D)) x.1 x.2) (fun x => (fun (l : List TLetter) (k : Int) => []) x.1 x.2)
@[simp] theorem c78_f : c78.f = 78 := rfl
@[simp] theorem c78_own : c78.own = false := rfl
theorem c78_inj : ∀ u_ v_ : (List TLetter) × Int, ((fun x => (fun (l : List TLetter) (k : Int) => [encLTLetter l, dI k]) x.1 x.2) u_).map nz = ((fun x => (fun (l : List TLetter) (k : Int) => [encLTLetter l, dI k]) x.1 x.2) v_).map nz → u_ = v_ := by
  intro u_ v_ h
  obtain ⟨l, k⟩ := u_
  obtain ⟨l', k'⟩ := v_
  simp [nz_lit, nz1_lit, nz_agg, nz_sl, nz1_sl, encLTLetter] at h
  first | (simp [h]; done) | (obtain ⟨⟩ := h; simp_all; done) | simp_all
@[simp] theorem c78_fn (l : List TLetter) (k : Int) : c78.fn [.sl false 3 yTLetter (ML encTLetter l), .lit (.int .i64 k)] [] = some ((fun (l : List TLetter) (k : Int) => l.length ≤ 1073741823) l k, (fun (l : List TLetter) (k : Int) => (dI (mRow l k).length : D)) l k, (fun (l : List TLetter) (k : Int) => []) l k) :=
  mkCon_fn (fun x y h _ => c78_inj x y h) ((l, k) : (List TLetter) × Int) (by simp [nz, nz1, ML_nil, encLTLetter]) rfl
@[simp] theorem c78_fn1 (s_l : Nat) (z_l : D) (k : Int) : c78.fn [.sl false s_l z_l [], .lit (.int .i64 k)] [] = some ((fun (l : List TLetter) (k : Int) => l.length ≤ 1073741823) [] k, (fun (l : List TLetter) (k : Int) => (dI (mRow l k).length : D)) [] k, (fun (l : List TLetter) (k : Int) => []) [] k) :=
  mkCon_fn (fun x y h _ => c78_inj x y h) (([], k) : (List TLetter) × Int) (by simp [nz, nz1, ML_nil, encLTLetter]) rfl
theorem c78_pc (l : List TLetter) (k : Int) (hpre : l.length ≤ 1073741823) : PCo Try.prog 78 [encLTLetter l, dI k] (Tab.of []) (dI (mRow l k).length) (Tab.of []) := by
  refine pco_of_run [] (E := ⟨[], []⟩) (m := false) (base := 0) Env.ok_nil G_ok mix 300 6 Try.func78 (by kernel_rfl) rfl (by kernel_rfl) (by kernel_rfl) rfl ?_
  simp [Try.f78]
  refine loop_inv (fun p : Nat => p ≤ l.length) (fun p => [(0, encLTLetter l), (1, dI k), (5, dI (mRow (l.take p) k).length), (6, dI p)]) (fun _ => []) 1 (fun p => l.length - p) 0 400 (by simp) (by simp) (by simp [mRow]) ?_
  intro p hp
  simp
  have hb := mRow_len (l.take p) k
  have hb2 : (l.take p).length ≤ p := by simp; omega
  refine ⟨fun hlt => ?_, fun hge => ?_⟩
  · have hs := mRow_at (k := k) hlt
    repeat' (first | omega | refine And.intro ?_ ?_ | intro _)
    all_goals (rename_i hw; refine Again.mk (p + 1) (by omega) (by simp [hs, hw]) (by first | omega | (simp; omega)))
  · rw [List.take_of_length_le hge]
theorem c78_ok : c78.ok Try.prog := mkCon_ok fun ⟨l, k⟩ hpre => c78_pc l k hpre
/-- loop.example/g03007/laws.FnExactCountLetters -/
theorem law19 (l : List TLetter) (wl : wfLTLetter l) (k : Int) (wk : inR .i64 k) : PCo Try.prog 19 [encLTLetter l, dI k] (Tab.of []) (dB true) (Tab.of []) := by
  refine pco_of_run [] (E := ⟨[c65, c67, c69, c78, c79], []⟩) (m := false) (base := 0) (Env.ok_cons c65_ok (Env.ok_cons c67_ok (Env.ok_cons c69_ok (Env.ok_cons c78_ok (Env.ok_cons c79_ok Env.ok_nil))))) G_ok mix 400 6 Try.func19 (by kernel_rfl) rfl (by kernel_rfl) (by kernel_rfl) rfl ?_
  simp (config := {maxSteps := 3000000}) [Try.f19]
  have h_l : l.length ≤ maxLen := wl.1
  repeat' (first | omega | assumption | refine And.intro ?_ ?_ | intro _)
  all_goals first | omega | grind | (split at * <;> omega)
theorem law19_pc (D0 : D) (h0 : Sh G 9 68 D0) (D1 : D) (h1 : Sh G 9 3 D1) : PC Try.prog 19 [D0, D1] (dB true) [] := by
  obtain ⟨l, rfl, wl⟩ := sh68 (n := 6) h0
  obtain ⟨k, rfl, wk⟩ := sh3 (n := 8) h1
  exact law19 l wl k wk
/-- loop.example/g03007/impl.LastLetter -/
noncomputable def c71 : Con := mkCon 71 false (α := (List TLetter) × Int) (fun x => (fun (l : List TLetter) (k : Int) => [encLTLetter l, dI k]) x.1 x.2) (fun _ => []) (fun x => (fun (l : List TLetter) (k : Int) => l.length ≤ 1073741823) x.1 x.2) (fun x => (fun (l : List TLetter) (k : Int) => (dI (endAt (mRow l k)) : D)) x.1 x.2) (fun x => (fun (l : List TLetter) (k : Int) => []) x.1 x.2)
@[simp] theorem c71_f : c71.f = 71 := rfl
@[simp] theorem c71_own : c71.own = false := rfl
theorem c71_inj : ∀ u_ v_ : (List TLetter) × Int, ((fun x => (fun (l : List TLetter) (k : Int) => [encLTLetter l, dI k]) x.1 x.2) u_).map nz = ((fun x => (fun (l : List TLetter) (k : Int) => [encLTLetter l, dI k]) x.1 x.2) v_).map nz → u_ = v_ := by
  intro u_ v_ h
  obtain ⟨l, k⟩ := u_
  obtain ⟨l', k'⟩ := v_
  simp [nz_lit, nz1_lit, nz_agg, nz_sl, nz1_sl, encLTLetter] at h
  first | (simp [h]; done) | (obtain ⟨⟩ := h; simp_all; done) | simp_all
@[simp] theorem c71_fn (l : List TLetter) (k : Int) : c71.fn [.sl false 3 yTLetter (ML encTLetter l), .lit (.int .i64 k)] [] = some ((fun (l : List TLetter) (k : Int) => l.length ≤ 1073741823) l k, (fun (l : List TLetter) (k : Int) => (dI (endAt (mRow l k)) : D)) l k, (fun (l : List TLetter) (k : Int) => []) l k) :=
  mkCon_fn (fun x y h _ => c71_inj x y h) ((l, k) : (List TLetter) × Int) (by simp [nz, nz1, ML_nil, encLTLetter]) rfl
@[simp] theorem c71_fn1 (s_l : Nat) (z_l : D) (k : Int) : c71.fn [.sl false s_l z_l [], .lit (.int .i64 k)] [] = some ((fun (l : List TLetter) (k : Int) => l.length ≤ 1073741823) [] k, (fun (l : List TLetter) (k : Int) => (dI (endAt (mRow l k)) : D)) [] k, (fun (l : List TLetter) (k : Int) => []) [] k) :=
  mkCon_fn (fun x y h _ => c71_inj x y h) (([], k) : (List TLetter) × Int) (by simp [nz, nz1, ML_nil, encLTLetter]) rfl
theorem c71_pc (l : List TLetter) (k : Int) (hpre : l.length ≤ 1073741823) : PCo Try.prog 71 [encLTLetter l, dI k] (Tab.of []) (dI (endAt (mRow l k))) (Tab.of []) := by
  refine pco_of_run [] (E := ⟨[c128], []⟩) (m := false) (base := 0) (Env.ok_cons c128_ok Env.ok_nil) G_ok mix 300 6 Try.func71 (by kernel_rfl) rfl (by kernel_rfl) (by kernel_rfl) rfl ?_
  simp [Try.f71]
  rw [← show getG (bkL l) k = mRow l k from bkL_get l k]
  have hb := getL_len l k
  generalize getG (bkL l) k = r at hb ⊢
  refine ⟨hpre, fun h => by subst h; rfl, fun h => ?_⟩
  have h2 : r.length - 1 < r.length := by have := List.length_pos_iff.2 h; omega
  refine ⟨⟨by omega, by omega⟩, ?_⟩
  rw [endAt, List.getLast?_eq_getElem?]; simp [h2]
theorem c71_ok : c71.ok Try.prog := mkCon_ok fun ⟨l, k⟩ hpre => c71_pc l k hpre
/-- loop.example/g03007/spec.LastLetter -/
noncomputable def c70 : Con := mkCon 70 false (α := (List TLetter) × Int) (fun x => (fun (l : List TLetter) (k : Int) => [encLTLetter l, dI k]) x.1 x.2) (fun _ => []) (fun x => (fun (l : List TLetter) (k : Int) => l.length ≤ 1073741823) x.1 x.2) (fun x => (fun (l : List TLetter) (k : Int) => (dI (endAt (mRow l k)) : D)) x.1 x.2) (fun x => (fun (l : List TLetter) (k : Int) => []) x.1 x.2)
@[simp] theorem c70_f : c70.f = 70 := rfl
@[simp] theorem c70_own : c70.own = false := rfl
theorem c70_inj : ∀ u_ v_ : (List TLetter) × Int, ((fun x => (fun (l : List TLetter) (k : Int) => [encLTLetter l, dI k]) x.1 x.2) u_).map nz = ((fun x => (fun (l : List TLetter) (k : Int) => [encLTLetter l, dI k]) x.1 x.2) v_).map nz → u_ = v_ := by
  intro u_ v_ h
  obtain ⟨l, k⟩ := u_
  obtain ⟨l', k'⟩ := v_
  simp [nz_lit, nz1_lit, nz_agg, nz_sl, nz1_sl, encLTLetter] at h
  first | (simp [h]; done) | (obtain ⟨⟩ := h; simp_all; done) | simp_all
@[simp] theorem c70_fn (l : List TLetter) (k : Int) : c70.fn [.sl false 3 yTLetter (ML encTLetter l), .lit (.int .i64 k)] [] = some ((fun (l : List TLetter) (k : Int) => l.length ≤ 1073741823) l k, (fun (l : List TLetter) (k : Int) => (dI (endAt (mRow l k)) : D)) l k, (fun (l : List TLetter) (k : Int) => []) l k) :=
  mkCon_fn (fun x y h _ => c70_inj x y h) ((l, k) : (List TLetter) × Int) (by simp [nz, nz1, ML_nil, encLTLetter]) rfl
@[simp] theorem c70_fn1 (s_l : Nat) (z_l : D) (k : Int) : c70.fn [.sl false s_l z_l [], .lit (.int .i64 k)] [] = some ((fun (l : List TLetter) (k : Int) => l.length ≤ 1073741823) [] k, (fun (l : List TLetter) (k : Int) => (dI (endAt (mRow l k)) : D)) [] k, (fun (l : List TLetter) (k : Int) => []) [] k) :=
  mkCon_fn (fun x y h _ => c70_inj x y h) (([], k) : (List TLetter) × Int) (by simp [nz, nz1, ML_nil, encLTLetter]) rfl
theorem c70_pc (l : List TLetter) (k : Int) (hpre : l.length ≤ 1073741823) : PCo Try.prog 70 [encLTLetter l, dI k] (Tab.of []) (dI (endAt (mRow l k))) (Tab.of []) := by
  refine pco_of_run [] (E := ⟨[], []⟩) (m := false) (base := 0) Env.ok_nil G_ok mix 300 6 Try.func70 (by kernel_rfl) rfl (by kernel_rfl) (by kernel_rfl) rfl ?_
  simp [Try.f70]
  refine loop_inv (fun p : Nat => p ≤ l.length) (fun p => [(0, encLTLetter l), (1, dI k), (5, dI (endAt (mRow (l.take p) k))), (6, dI p)]) (fun _ => []) 1 (fun p => l.length - p) 0 400 (by simp) (by simp) (by simp [mRow, endAt]) ?_
  intro p hp
  simp
  refine ⟨fun hlt => ?_, fun hge => ?_⟩
  · have hs := mRow_at (k := k) hlt
    repeat' (first | omega | refine And.intro ?_ ?_ | intro _)
    all_goals (rename_i hw; refine Again.mk (p + 1) (by omega) (by simp [hs, hw, endAt]) (by first | omega | (simp; omega)))
  · rw [List.take_of_length_le hge]
theorem c70_ok : c70.ok Try.prog := mkCon_ok fun ⟨l, k⟩ hpre => c70_pc l k hpre
/-- loop.example/g03007/laws.FnExactLastLetter -/
theorem law16 (l : List TLetter) (wl : wfLTLetter l) (k : Int) (wk : inR .i64 k) : PCo Try.prog 16 [encLTLetter l, dI k] (Tab.of []) (dB true) (Tab.of []) := by
  refine pco_of_run [] (E := ⟨[c65, c67, c69, c70, c71], []⟩) (m := false) (base := 0) (Env.ok_cons c65_ok (Env.ok_cons c67_ok (Env.ok_cons c69_ok (Env.ok_cons c70_ok (Env.ok_cons c71_ok Env.ok_nil))))) G_ok mix 400 6 Try.func16 (by kernel_rfl) rfl (by kernel_rfl) (by kernel_rfl) rfl ?_
  simp (config := {maxSteps := 3000000}) [Try.f16]
  have h_l : l.length ≤ maxLen := wl.1
  repeat' (first | omega | assumption | refine And.intro ?_ ?_ | intro _)
  all_goals first | omega | grind | (split at * <;> omega)
theorem law16_pc (D0 : D) (h0 : Sh G 9 68 D0) (D1 : D) (h1 : Sh G 9 3 D1) : PC Try.prog 16 [D0, D1] (dB true) [] := by
  obtain ⟨l, rfl, wl⟩ := sh68 (n := 6) h0
  obtain ⟨k, rfl, wk⟩ := sh3 (n := 8) h1
  exact law16 l wl k wk

end Go.Proofs.Ytadbjlnfdjbbjaa
