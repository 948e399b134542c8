/- Contracts of the functions that the laws run. -/
import Derived.Test.Ytkccphdoolpmaaach29c
import Derived.Test.YtkccphdoolpmaaaEngB
namespace Go.Proofs.Ytkccphdoolpmaaa
open Go Go.Eng
set_option linter.unusedSimpArgs false
set_option linter.unusedVariables false
set_option maxRecDepth 10000
set_option maxHeartbeats 1000000
/-- loop.example/g03007/laws.toShare -/
noncomputable def c125 : Con := mkCon 125 false (α := TShare) (fun x => (fun (a : TShare) => [encTShare a]) x) (fun _ => []) (fun x => (fun (a : TShare) => True) x) (fun x => (fun (a : TShare) => (encTShare a : D)) x) (fun x => (fun (a : TShare) => []) x)
@[simp] theorem c125_f : c125.f = 125 := rfl
@[simp] theorem c125_own : c125.own = false := rfl
theorem c125_inj : ∀ u_ v_ : TShare, ((fun x => (fun (a : TShare) => [encTShare a]) x) u_).map nz = ((fun x => (fun (a : TShare) => [encTShare a]) x) v_).map nz → u_ = v_ := by
  intro u_ v_ h
  obtain ⟨a_Who, a_Cents⟩ := u_
  obtain ⟨a_Who', a_Cents'⟩ := v_
  simp [nz_lit, nz1_lit, nz_agg, nz_sl, nz1_sl, encTShare] at h
  first | (simp [h]; done) | (obtain ⟨⟩ := h; simp_all; done) | simp_all
@[simp] theorem c125_fn (a_Who : Int) (a_Cents : Int) : c125.fn [.agg [.lit (.int .i64 a_Who), .lit (.int .i64 a_Cents)]] [] = some ((fun (a : TShare) => True) ⟨a_Who, a_Cents⟩, (fun (a : TShare) => (encTShare a : D)) ⟨a_Who, a_Cents⟩, (fun (a : TShare) => []) ⟨a_Who, a_Cents⟩) :=
  mkCon_fn (fun x y h _ => c125_inj x y h) (⟨a_Who, a_Cents⟩ : TShare) (by simp [nz, nz1, ML_nil, encTShare]) rfl
theorem c125_pc (a : TShare) : PCo Try.prog 125 [encTShare a] (Tab.of []) (encTShare a) (Tab.of []) := by
  obtain ⟨a_Who, a_Cents⟩ := a
  refine pco_of_run [] (E := ⟨[], []⟩) (m := false) (base := 0) Env.ok_nil G_ok mix 300 6 Try.func125 (by kernel_rfl) rfl (by kernel_rfl) (by kernel_rfl) rfl ?_
  simp [Try.f125]
  all_goals first | omega | (rw [Bool.eq_iff_iff]; simp; omega) | grind
theorem c125_ok : c125.ok Try.prog := mkCon_ok fun a hpre => c125_pc a
/-- loop.example/g03007/laws.eqShare -/
noncomputable def c120 : Con := mkCon 120 false (α := TShare × TShare) (fun x => (fun (a : TShare) (b : TShare) => [encTShare a, encTShare b]) x.1 x.2) (fun _ => []) (fun x => (fun (a : TShare) (b : TShare) => True) x.1 x.2) (fun x => (fun (a : TShare) (b : TShare) => (dB (decide (a = b)) : D)) x.1 x.2) (fun x => (fun (a : TShare) (b : TShare) => []) x.1 x.2)
@[simp] theorem c120_f : c120.f = 120 := rfl
@[simp] theorem c120_own : c120.own = false := rfl
theorem c120_inj : ∀ u_ v_ : TShare × TShare, ((fun x => (fun (a : TShare) (b : TShare) => [encTShare a, encTShare b]) x.1 x.2) u_).map nz = ((fun x => (fun (a : TShare) (b : TShare) => [encTShare a, encTShare b]) x.1 x.2) v_).map nz → u_ = v_ := by
  intro u_ v_ h
  obtain ⟨⟨a_Who, a_Cents⟩, ⟨b_Who, b_Cents⟩⟩ := u_
  obtain ⟨⟨a_Who', a_Cents'⟩, ⟨b_Who', b_Cents'⟩⟩ := v_
  simp [nz_lit, nz1_lit, nz_agg, nz_sl, nz1_sl, encTShare] at h
  first | (simp [h]; done) | (obtain ⟨⟩ := h; simp_all; done) | simp_all
@[simp] theorem c120_fn (a_Who : Int) (a_Cents : Int) (b_Who : Int) (b_Cents : Int) : c120.fn [.agg [.lit (.int .i64 a_Who), .lit (.int .i64 a_Cents)], .agg [.lit (.int .i64 b_Who), .lit (.int .i64 b_Cents)]] [] = some ((fun (a : TShare) (b : TShare) => True) ⟨a_Who, a_Cents⟩ ⟨b_Who, b_Cents⟩, (fun (a : TShare) (b : TShare) => (dB (decide (a = b)) : D)) ⟨a_Who, a_Cents⟩ ⟨b_Who, b_Cents⟩, (fun (a : TShare) (b : TShare) => []) ⟨a_Who, a_Cents⟩ ⟨b_Who, b_Cents⟩) :=
  mkCon_fn (fun x y h _ => c120_inj x y h) ((⟨a_Who, a_Cents⟩, ⟨b_Who, b_Cents⟩) : TShare × TShare) (by simp [nz, nz1, ML_nil, encTShare]) rfl
theorem c120_pc (a : TShare) (b : TShare) : PCo Try.prog 120 [encTShare a, encTShare b] (Tab.of []) (dB (decide (a = b))) (Tab.of []) := by
  obtain ⟨a_Who, a_Cents⟩ := a
  obtain ⟨b_Who, b_Cents⟩ := b
  refine pco_of_run [] (E := ⟨[], []⟩) (m := false) (base := 0) Env.ok_nil G_ok mix 300 6 Try.func120 (by kernel_rfl) rfl (by kernel_rfl) (by kernel_rfl) rfl ?_
  simp [Try.f120]
  all_goals first | omega | (rw [Bool.eq_iff_iff]; simp; omega) | grind
theorem c120_ok : c120.ok Try.prog := mkCon_ok fun ⟨a, b⟩ hpre => c120_pc a b
/-- loop.example/g03007/laws.szShareS -/
noncomputable def c74 : Con := mkCon 74 false (α := (List TShare) × Int) (fun x => (fun (l : List TShare) (left : Int) => [encLTShare l, dI left]) x.1 x.2) (fun _ => []) (fun x => (fun (l : List TShare) (left : Int) => l.length ≤ maxLen ∧ 0 ≤ left ∧ left ≤ 1099511627776) x.1 x.2) (fun x => (fun (l : List TShare) (left : Int) => (dI (if left - l.length < 0 then -1 else left - l.length) : D)) x.1 x.2) (fun x => (fun (l : List TShare) (left : Int) => []) x.1 x.2)
@[simp] theorem c74_f : c74.f = 74 := rfl
@[simp] theorem c74_own : c74.own = false := rfl
theorem c74_inj : ∀ u_ v_ : (List TShare) × Int, ((fun x => (fun (l : List TShare) (left : Int) => [encLTShare l, dI left]) x.1 x.2) u_).map nz = ((fun x => (fun (l : List TShare) (left : Int) => [encLTShare l, dI left]) x.1 x.2) v_).map nz → u_ = v_ := by
  intro u_ v_ h
  obtain ⟨l, left⟩ := u_
  obtain ⟨l', left'⟩ := v_
  simp [nz_lit, nz1_lit, nz_agg, nz_sl, nz1_sl, encLTShare] at h
  first | (simp [h]; done) | (obtain ⟨⟩ := h; simp_all; done) | simp_all
@[simp] theorem c74_fn (l : List TShare) (left : Int) : c74.fn [.sl false 2 yTShare (ML encTShare l), .lit (.int .i64 left)] [] = some ((fun (l : List TShare) (left : Int) => l.length ≤ maxLen ∧ 0 ≤ left ∧ left ≤ 1099511627776) l left, (fun (l : List TShare) (left : Int) => (dI (if left - l.length < 0 then -1 else left - l.length) : D)) l left, (fun (l : List TShare) (left : Int) => []) l left) :=
  mkCon_fn (fun x y h _ => c74_inj x y h) ((l, left) : (List TShare) × Int) (by simp [nz, nz1, ML_nil, encLTShare]) rfl
@[simp] theorem c74_fn1 (s_l : Nat) (z_l : D) (left : Int) : c74.fn [.sl false s_l z_l [], .lit (.int .i64 left)] [] = some ((fun (l : List TShare) (left : Int) => l.length ≤ maxLen ∧ 0 ≤ left ∧ left ≤ 1099511627776) [] left, (fun (l : List TShare) (left : Int) => (dI (if left - l.length < 0 then -1 else left - l.length) : D)) [] left, (fun (l : List TShare) (left : Int) => []) [] left) :=
  mkCon_fn (fun x y h _ => c74_inj x y h) (([], left) : (List TShare) × Int) (by simp [nz, nz1, ML_nil, encLTShare]) rfl
theorem c74_pc (l : List TShare) (left : Int) (hpre : l.length ≤ maxLen ∧ 0 ≤ left ∧ left ≤ 1099511627776) : PCo Try.prog 74 [encLTShare l, dI left] (Tab.of []) (dI (if left - l.length < 0 then -1 else left - l.length)) (Tab.of []) := by
  refine pco_of_run [] (E := ⟨[], []⟩) (m := false) (base := 0) Env.ok_nil G_ok mix 300 6 Try.func74 (by kernel_rfl) rfl (by kernel_rfl) (by kernel_rfl) rfl ?_
  simp [Try.f74]
  simp [maxLen] at hpre
  all_goals omega
theorem c74_ok : c74.ok Try.prog := mkCon_ok fun ⟨l, left⟩ hpre => c74_pc l left hpre
/-- loop.example/g03007/laws.toShareS -/
noncomputable def c76 : Con := mkCon 76 false (α := (List TShare)) (fun x => (fun (l : List TShare) => [encLTShare l]) x) (fun _ => []) (fun x => (fun (l : List TShare) => l.length ≤ 1099511627776) x) (fun x => (fun (l : List TShare) => (.own (0, 1) 2 0 l.length : D)) x) (fun x => (fun (l : List TShare) => [((0, 1), .arr false 2 yTShare (ML encTShare l))]) x)
@[simp] theorem c76_f : c76.f = 76 := rfl
@[simp] theorem c76_own : c76.own = false := rfl
theorem c76_inj : ∀ u_ v_ : (List TShare), ((fun x => (fun (l : List TShare) => [encLTShare l]) x) u_).map nz = ((fun x => (fun (l : List TShare) => [encLTShare l]) x) v_).map nz → u_ = v_ := by
  intro u_ v_ h
  obtain l := u_
  obtain l' := v_
  simp [nz_lit, nz1_lit, nz_agg, nz_sl, nz1_sl, encLTShare] at h
  first | (simp [h]; done) | (obtain ⟨⟩ := h; simp_all; done) | simp_all
@[simp] theorem c76_fn (l : List TShare) : c76.fn [.sl false 2 yTShare (ML encTShare l)] [] = some ((fun (l : List TShare) => l.length ≤ 1099511627776) l, (fun (l : List TShare) => (.own (0, 1) 2 0 l.length : D)) l, (fun (l : List TShare) => [((0, 1), .arr false 2 yTShare (ML encTShare l))]) l) :=
  mkCon_fn (fun x y h _ => c76_inj x y h) (l : (List TShare)) (by simp [nz, nz1, ML_nil, encLTShare]) rfl
@[simp] theorem c76_fn1 (s_l : Nat) (z_l : D) : c76.fn [.sl false s_l z_l []] [] = some ((fun (l : List TShare) => l.length ≤ 1099511627776) [], (fun (l : List TShare) => (.own (0, 1) 2 0 l.length : D)) [], (fun (l : List TShare) => [((0, 1), .arr false 2 yTShare (ML encTShare l))]) []) :=
  mkCon_fn (fun x y h _ => c76_inj x y h) ([] : (List TShare)) (by simp [nz, nz1, ML_nil, encLTShare]) rfl
theorem c76_pc (l : List TShare) (hpre : l.length ≤ 1099511627776) : PCo Try.prog 76 [encLTShare l] (Tab.of []) (.own (0, 1) 2 0 l.length) (Tab.of [((0, 1), .arr false 2 yTShare (ML encTShare l))]) := by
  refine pco_of_run [] (E := ⟨[c125], []⟩) (m := false) (base := 0) (Env.ok_cons c125_ok Env.ok_nil) G_ok mix 300 6 Try.func76 (by kernel_rfl) rfl (by kernel_rfl) (by kernel_rfl) rfl ?_
  simp [Try.f76]
  refine ⟨by omega, ?_⟩
  refine loop_inv (fun p : Nat => p ≤ l.length) (fun p => [(0, encLTShare l), (3, .own (0, 1) 2 0 l.length), (4, dI p)]) (fun p => [((0, 1), .arr false 2 yTShare (ML encTShare (l.take p ++ List.replicate (l.length - p) ⟨0, 0⟩)))]) 2 (fun p => l.length - p) 0 100 (by simp) (by simp) (by first | (simp; done) | (simp; simp only [ML, List.map_replicate]; rfl)) ?_
  intro p hp
  simp
  refine ⟨fun hlt => ⟨by omega, by omega, Again.mk (p + 1) (by omega) (by simp [fill_step hlt]) (by first | omega | (simp; omega))⟩, fun hge => ?_⟩
  have : p = l.length := by omega
  subst this
  simp
theorem c76_ok : c76.ok Try.prog := mkCon_ok fun l hpre => c76_pc l hpre
/-- loop.example/g03007/laws.eqShareS -/
noncomputable def c63 : Con := mkCon 63 false (α := (List TShare) × (List TShare)) (fun x => (fun (a : List TShare) (b : List TShare) => [encLTShare a, encLTShare b]) x.1 x.2) (fun _ => []) (fun x => (fun (a : List TShare) (b : List TShare) => a.length ≤ 1099511627776 ∧ b.length ≤ 1099511627776) x.1 x.2) (fun x => (fun (a : List TShare) (b : List TShare) => (dB (decide (a = b)) : D)) x.1 x.2) (fun x => (fun (a : List TShare) (b : List TShare) => []) x.1 x.2)
@[simp] theorem c63_f : c63.f = 63 := rfl
@[simp] theorem c63_own : c63.own = false := rfl
theorem c63_inj : ∀ u_ v_ : (List TShare) × (List TShare), ((fun x => (fun (a : List TShare) (b : List TShare) => [encLTShare a, encLTShare b]) x.1 x.2) u_).map nz = ((fun x => (fun (a : List TShare) (b : List TShare) => [encLTShare a, encLTShare b]) x.1 x.2) v_).map nz → u_ = v_ := by
  intro u_ v_ h
  obtain ⟨a, b⟩ := u_
  obtain ⟨a', b'⟩ := v_
  simp [nz_lit, nz1_lit, nz_agg, nz_sl, nz1_sl, encLTShare] at h
  first | (simp [h]; done) | (obtain ⟨⟩ := h; simp_all; done) | simp_all
@[simp] theorem c63_fn (a : List TShare) (b : List TShare) : c63.fn [.sl false 2 yTShare (ML encTShare a), .sl false 2 yTShare (ML encTShare b)] [] = some ((fun (a : List TShare) (b : List TShare) => a.length ≤ 1099511627776 ∧ b.length ≤ 1099511627776) a b, (fun (a : List TShare) (b : List TShare) => (dB (decide (a = b)) : D)) a b, (fun (a : List TShare) (b : List TShare) => []) a b) :=
  mkCon_fn (fun x y h _ => c63_inj x y h) ((a, b) : (List TShare) × (List TShare)) (by simp [nz, nz1, ML_nil, encLTShare]) rfl
@[simp] theorem c63_fn1 (s_a : Nat) (z_a : D) (b : List TShare) : c63.fn [.sl false s_a z_a [], .sl false 2 yTShare (ML encTShare b)] [] = some ((fun (a : List TShare) (b : List TShare) => a.length ≤ 1099511627776 ∧ b.length ≤ 1099511627776) [] b, (fun (a : List TShare) (b : List TShare) => (dB (decide (a = b)) : D)) [] b, (fun (a : List TShare) (b : List TShare) => []) [] b) :=
  mkCon_fn (fun x y h _ => c63_inj x y h) (([], b) : (List TShare) × (List TShare)) (by simp [nz, nz1, ML_nil, encLTShare]) rfl
@[simp] theorem c63_fn2 (a : List TShare) (s_b : Nat) (z_b : D) : c63.fn [.sl false 2 yTShare (ML encTShare a), .sl false s_b z_b []] [] = some ((fun (a : List TShare) (b : List TShare) => a.length ≤ 1099511627776 ∧ b.length ≤ 1099511627776) a [], (fun (a : List TShare) (b : List TShare) => (dB (decide (a = b)) : D)) a [], (fun (a : List TShare) (b : List TShare) => []) a []) :=
  mkCon_fn (fun x y h _ => c63_inj x y h) ((a, []) : (List TShare) × (List TShare)) (by simp [nz, nz1, ML_nil, encLTShare]) rfl
@[simp] theorem c63_fn3 (s_a : Nat) (z_a : D) (s_b : Nat) (z_b : D) : c63.fn [.sl false s_a z_a [], .sl false s_b z_b []] [] = some ((fun (a : List TShare) (b : List TShare) => a.length ≤ 1099511627776 ∧ b.length ≤ 1099511627776) [] [], (fun (a : List TShare) (b : List TShare) => (dB (decide (a = b)) : D)) [] [], (fun (a : List TShare) (b : List TShare) => []) [] []) :=
  mkCon_fn (fun x y h _ => c63_inj x y h) (([], []) : (List TShare) × (List TShare)) (by simp [nz, nz1, ML_nil, encLTShare]) rfl
theorem c63_pc (a : List TShare) (b : List TShare) (hpre : a.length ≤ 1099511627776 ∧ b.length ≤ 1099511627776) : PCo Try.prog 63 [encLTShare a, encLTShare b] (Tab.of []) (dB (decide (a = b))) (Tab.of []) := by
  refine pco_of_run [] (E := ⟨[c120], []⟩) (m := false) (base := 0) (Env.ok_cons c120_ok Env.ok_nil) G_ok mix 300 6 Try.func63 (by kernel_rfl) rfl (by kernel_rfl) (by kernel_rfl) rfl ?_
  simp [Try.f63]
  obtain ⟨pre1, pre2⟩ := hpre
  refine ⟨fun h => ?_, fun h => by intro e; subst e; exact absurd rfl h⟩
  refine loop_inv (fun p : Nat => p ≤ a.length ∧ a.take p = b.take p) (fun p => [(0, encLTShare a), (1, encLTShare b), (5, dI p)]) (fun _ => []) 1 (fun p => a.length - p) 0 100 (by simp) (by simp) (by simp) ?_
  intro p ⟨hp, hi⟩
  simp
  refine ⟨fun hlt => ⟨by omega, fun h2 => ⟨by omega, Again.mk (p + 1) ⟨by omega, take_eq_step hi (by omega) (by omega) h2⟩ (by simp) (by first | omega | (simp; omega))⟩, fun h2 => by intro e; subst e; exact absurd rfl h2⟩, fun hge => ?_⟩
  exact take_eq_full hi (by omega) (by omega)
theorem c63_ok : c63.ok Try.prog := mkCon_ok fun ⟨a, b⟩ hpre => c63_pc a b hpre
abbrev mk_TShare : Int → TShare := fun n => ⟨n, n + 1⟩
/-- loop.example/g03007/laws.markShareS -/
noncomputable def c64 : Con := mkCon 64 true (α := (List TShare) × Int) (fun x => (fun (l : List TShare) (k : Int) => ([.own (0, 0) 2 0 l.length, dI k] : List D)) x.1 x.2) (fun x => (fun (l : List TShare) (k : Int) => ([((0, 0), .arr false 2 yTShare (ML encTShare l))] : List (Nm × OO))) x.1 x.2) (fun x => (fun (l : List TShare) (k : Int) => l.length ≤ 1099511627776 ∧ 0 ≤ k ∧ k ≤ 1152921504606846976) x.1 x.2) (fun x => (fun (l : List TShare) (k : Int) => (dI (k + 2 * l.length) : D)) x.1 x.2) (fun x => (fun (l : List TShare) (k : Int) => ([((0, 0), .arr false 2 yTShare (ML encTShare (mkL mk_TShare 2 k l.length)))] : List (Nm × OO))) x.1 x.2)
@[simp] theorem c64_f : c64.f = 64 := rfl
@[simp] theorem c64_own : c64.own = true := rfl
theorem c64_inj : ∀ u_ v_ : (List TShare) × Int, ((fun x => (fun (l : List TShare) (k : Int) => ([.own (0, 0) 2 0 l.length, dI k] : List D)) x.1 x.2) u_).map nz = ((fun x => (fun (l : List TShare) (k : Int) => ([.own (0, 0) 2 0 l.length, dI k] : List D)) x.1 x.2) v_).map nz → (fun x => (fun (l : List TShare) (k : Int) => ([((0, 0), .arr false 2 yTShare (ML encTShare l))] : List (Nm × OO))) x.1 x.2) u_ = (fun x => (fun (l : List TShare) (k : Int) => ([((0, 0), .arr false 2 yTShare (ML encTShare l))] : List (Nm × OO))) x.1 x.2) v_ → u_ = v_ := by
  intro u_ v_ h h2_
  obtain ⟨l, k⟩ := u_
  obtain ⟨l', k'⟩ := v_
  simp [nz_lit, nz1_lit, nz_agg, nz_sl, nz1_sl, nz_sx, nz_el, nz1_el, nz_own, nz1_own, nz_ptr, nz_fn, nz_iface] at h h2_
  first | (simp [h, h2_]; done) | simp_all | grind
@[simp] theorem c64_fn (l : List TShare) (k : Int) : c64.fn ([.own (0, 0) 2 0 l.length, dI k]) ([((0, 0), .arr false 2 yTShare (ML encTShare l))]) = some (l.length ≤ 1099511627776 ∧ 0 ≤ k ∧ k ≤ 1152921504606846976, dI (k + 2 * l.length), [((0, 0), .arr false 2 yTShare (ML encTShare (mkL mk_TShare 2 k l.length)))]) :=
  mkCon_fn c64_inj ((l, k) : (List TShare) × Int) rfl rfl
theorem c64_pc (l : List TShare) (k : Int) (hpre : l.length ≤ 1099511627776 ∧ 0 ≤ k ∧ k ≤ 1152921504606846976) : PCo Try.prog 64 ([.own (0, 0) 2 0 l.length, dI k]) (Tab.of ([((0, 0), .arr false 2 yTShare (ML encTShare l))])) (dI (k + 2 * l.length)) (Tab.of ([((0, 0), .arr false 2 yTShare (ML encTShare (mkL mk_TShare 2 k l.length)))])) := by
  refine pco_of_run [] (E := ⟨[], []⟩) (m := false) (base := 0) Env.ok_nil G_ok mix 300 6 Try.func64 (by kernel_rfl) rfl (by kernel_rfl) (by kernel_rfl) rfl ?_
  simp [Try.f64]
  obtain ⟨pre1, pre2, pre3⟩ := hpre
  refine loop_inv (fun p : Nat => p ≤ l.length) (fun p => [(0, .own (0, 0) 2 0 l.length), (1, dI (k + 2 * p)), (5, dI p)]) (fun p => [((0, 0), .arr false 2 yTShare (ML encTShare (mkL mk_TShare 2 k p ++ l.drop p)))]) 2 (fun p => l.length - p) 0 100 (by simp) (by simp) (by simp) ?_
  intro p hp
  simp
  have hs : ∀ x, x = mk_TShare (k + 2 * (p : Int)) → p < l.length → mkL mk_TShare 2 k p ++ (l.drop p).set 0 x = mkL mk_TShare 2 k (p + 1) ++ l.drop (p + 1) := fun x hx hlt => mark_step0 hlt hx
  refine ⟨fun hlt => ?_, fun hge => ?_⟩
  · repeat' (first | omega | refine And.intro ?_ ?_ | intro _)
    all_goals refine Again.mk (p + 1) (by omega) ?_ (by first | omega | (simp; omega))
    all_goals (rw [hs _ (by simp [mark_get0 hlt, mark_get hlt]; first | done | omega) hlt]; simp; omega)
  have : p = l.length := by omega
  subst this
  simp
  trace_state
theorem c64_ok : c64.ok Try.prog := mkCon_ok fun ⟨l, k⟩ hpre => c64_pc l k hpre
def payAll (payer at_ : Int) : List TEntry → List TShare → Option (List TEntry)
  | acc, [] => some acc
  | acc, s :: r => if s.Cents = 0 then payAll payer at_ acc r else if mAreEntries (acc ++ [⟨payer, s.Who, s.Cents, at_⟩]) then payAll payer at_ (acc ++ [⟨payer, s.Who, s.Cents, at_⟩]) r else none
theorem payAll_at {payer at_ : Int} {acc : List TEntry} {l : List TShare} {p : Nat} (h : p < l.length) : payAll payer at_ acc (l.drop p) = if (l[p]?.getD default).Cents = 0 then payAll payer at_ acc (l.drop (p + 1)) else if mAreEntries (acc ++ [⟨payer, (l[p]?.getD default).Who, (l[p]?.getD default).Cents, at_⟩]) then payAll payer at_ (acc ++ [⟨payer, (l[p]?.getD default).Who, (l[p]?.getD default).Cents, at_⟩]) (l.drop (p + 1)) else none := by
  rw [drop_at (d := default) h, payAll]
theorem payAll_end {payer at_ : Int} {acc : List TEntry} {l : List TShare} {p : Nat} (h : l.length ≤ p) : payAll payer at_ acc (l.drop p) = some acc := by
  rw [List.drop_eq_nil_of_le h, payAll]
theorem payAll_len {payer at_ : Int} : ∀ {l : List TShare} {acc r : List TEntry}, payAll payer at_ acc l = some r → r.length ≤ acc.length + l.length
  | [], acc, r, h => by simp only [payAll, Option.some.injEq] at h; subst h; simp
  | s :: l, acc, r, h => by
    simp only [payAll] at h
    split at h
    · have := payAll_len h; simp; omega
    · split at h
      · have := payAll_len h; simp at this ⊢; omega
      · cases h
def mPay (l : List TEntry) (payer : Int) (s : List TShare) (at_ : Int) : List TEntry := (payAll payer at_ l s).getD l
theorem mPay_len (l : List TEntry) (payer : Int) (s : List TShare) (at_ : Int) : (mPay l payer s at_).length ≤ l.length + s.length := by
  simp only [mPay]
  cases h : payAll payer at_ l s with
  | none => simp
  | some r => simpa using payAll_len h
/-- loop.example/g03007/spec.PayShares -/
noncomputable def c75 : Con := mkCon 75 false (α := (List TEntry) × Int × (List TShare) × Int) (fun x => (fun (l : List TEntry) (payer : Int) (s : List TShare) (at_ : Int) => [encLTEntry l, dI payer, encLTShare s, dI at_]) x.1 x.2.1 x.2.2.1 x.2.2.2) (fun _ => []) (fun x => (fun (l : List TEntry) (payer : Int) (s : List TShare) (at_ : Int) => l.length ≤ 268435456 ∧ s.length ≤ 268435456) x.1 x.2.1 x.2.2.1 x.2.2.2) (fun x => (fun (l : List TEntry) (payer : Int) (s : List TShare) (at_ : Int) => (.tup [.own (0, 1) 4 0 (mPay l payer s at_).length, dB (payAll payer at_ l s).isSome] : D)) x.1 x.2.1 x.2.2.1 x.2.2.2) (fun x => (fun (l : List TEntry) (payer : Int) (s : List TShare) (at_ : Int) => [((0, 1), .arr false 4 yTEntry (ML encTEntry (mPay l payer s at_)))]) x.1 x.2.1 x.2.2.1 x.2.2.2)
@[simp] theorem c75_f : c75.f = 75 := rfl
@[simp] theorem c75_own : c75.own = false := rfl
theorem c75_inj : ∀ u_ v_ : (List TEntry) × Int × (List TShare) × Int, ((fun x => (fun (l : List TEntry) (payer : Int) (s : List TShare) (at_ : Int) => [encLTEntry l, dI payer, encLTShare s, dI at_]) x.1 x.2.1 x.2.2.1 x.2.2.2) u_).map nz = ((fun x => (fun (l : List TEntry) (payer : Int) (s : List TShare) (at_ : Int) => [encLTEntry l, dI payer, encLTShare s, dI at_]) x.1 x.2.1 x.2.2.1 x.2.2.2) v_).map nz → u_ = v_ := by
  intro u_ v_ h
  obtain ⟨l, payer, s, at_⟩ := u_
  obtain ⟨l', payer', s', at_'⟩ := v_
  simp [nz_lit, nz1_lit, nz_agg, nz_sl, nz1_sl, encLTEntry, encLTShare] at h
  first | (simp [h]; done) | (obtain ⟨⟩ := h; simp_all; done) | simp_all
@[simp] theorem c75_fn (l : List TEntry) (payer : Int) (s : List TShare) (at_ : Int) : c75.fn [.sl false 4 yTEntry (ML encTEntry l), .lit (.int .i64 payer), .sl false 2 yTShare (ML encTShare s), .lit (.int .i64 at_)] [] = some ((fun (l : List TEntry) (payer : Int) (s : List TShare) (at_ : Int) => l.length ≤ 268435456 ∧ s.length ≤ 268435456) l payer s at_, (fun (l : List TEntry) (payer : Int) (s : List TShare) (at_ : Int) => (.tup [.own (0, 1) 4 0 (mPay l payer s at_).length, dB (payAll payer at_ l s).isSome] : D)) l payer s at_, (fun (l : List TEntry) (payer : Int) (s : List TShare) (at_ : Int) => [((0, 1), .arr false 4 yTEntry (ML encTEntry (mPay l payer s at_)))]) l payer s at_) :=
  mkCon_fn (fun x y h _ => c75_inj x y h) ((l, payer, s, at_) : (List TEntry) × Int × (List TShare) × Int) (by simp [nz, nz1, ML_nil, encLTEntry, encLTShare]) rfl
@[simp] theorem c75_fn1 (s_l : Nat) (z_l : D) (payer : Int) (s : List TShare) (at_ : Int) : c75.fn [.sl false s_l z_l [], .lit (.int .i64 payer), .sl false 2 yTShare (ML encTShare s), .lit (.int .i64 at_)] [] = some ((fun (l : List TEntry) (payer : Int) (s : List TShare) (at_ : Int) => l.length ≤ 268435456 ∧ s.length ≤ 268435456) [] payer s at_, (fun (l : List TEntry) (payer : Int) (s : List TShare) (at_ : Int) => (.tup [.own (0, 1) 4 0 (mPay l payer s at_).length, dB (payAll payer at_ l s).isSome] : D)) [] payer s at_, (fun (l : List TEntry) (payer : Int) (s : List TShare) (at_ : Int) => [((0, 1), .arr false 4 yTEntry (ML encTEntry (mPay l payer s at_)))]) [] payer s at_) :=
  mkCon_fn (fun x y h _ => c75_inj x y h) (([], payer, s, at_) : (List TEntry) × Int × (List TShare) × Int) (by simp [nz, nz1, ML_nil, encLTEntry, encLTShare]) rfl
@[simp] theorem c75_fn2 (l : List TEntry) (payer : Int) (s_s : Nat) (z_s : D) (at_ : Int) : c75.fn [.sl false 4 yTEntry (ML encTEntry l), .lit (.int .i64 payer), .sl false s_s z_s [], .lit (.int .i64 at_)] [] = some ((fun (l : List TEntry) (payer : Int) (s : List TShare) (at_ : Int) => l.length ≤ 268435456 ∧ s.length ≤ 268435456) l payer [] at_, (fun (l : List TEntry) (payer : Int) (s : List TShare) (at_ : Int) => (.tup [.own (0, 1) 4 0 (mPay l payer s at_).length, dB (payAll payer at_ l s).isSome] : D)) l payer [] at_, (fun (l : List TEntry) (payer : Int) (s : List TShare) (at_ : Int) => [((0, 1), .arr false 4 yTEntry (ML encTEntry (mPay l payer s at_)))]) l payer [] at_) :=
  mkCon_fn (fun x y h _ => c75_inj x y h) ((l, payer, [], at_) : (List TEntry) × Int × (List TShare) × Int) (by simp [nz, nz1, ML_nil, encLTEntry, encLTShare]) rfl
@[simp] theorem c75_fn3 (s_l : Nat) (z_l : D) (payer : Int) (s_s : Nat) (z_s : D) (at_ : Int) : c75.fn [.sl false s_l z_l [], .lit (.int .i64 payer), .sl false s_s z_s [], .lit (.int .i64 at_)] [] = some ((fun (l : List TEntry) (payer : Int) (s : List TShare) (at_ : Int) => l.length ≤ 268435456 ∧ s.length ≤ 268435456) [] payer [] at_, (fun (l : List TEntry) (payer : Int) (s : List TShare) (at_ : Int) => (.tup [.own (0, 1) 4 0 (mPay l payer s at_).length, dB (payAll payer at_ l s).isSome] : D)) [] payer [] at_, (fun (l : List TEntry) (payer : Int) (s : List TShare) (at_ : Int) => [((0, 1), .arr false 4 yTEntry (ML encTEntry (mPay l payer s at_)))]) [] payer [] at_) :=
  mkCon_fn (fun x y h _ => c75_inj x y h) (([], payer, [], at_) : (List TEntry) × Int × (List TShare) × Int) (by simp [nz, nz1, ML_nil, encLTEntry, encLTShare]) rfl
theorem c75_pc (l : List TEntry) (payer : Int) (s : List TShare) (at_ : Int) (hpre : l.length ≤ 268435456 ∧ s.length ≤ 268435456) : PCo Try.prog 75 [encLTEntry l, dI payer, encLTShare s, dI at_] (Tab.of []) (.tup [.own (0, 1) 4 0 (mPay l payer s at_).length, dB (payAll payer at_ l s).isSome]) (Tab.of [((0, 1), .arr false 4 yTEntry (ML encTEntry (mPay l payer s at_)))]) := by
  refine pco_of_run [] (E := ⟨[c67], []⟩) (m := false) (base := 0) (Env.ok_cons c67_ok Env.ok_nil) G_ok mix 300 6 Try.func75 (by kernel_rfl) rfl (by kernel_rfl) (by kernel_rfl) rfl ?_
  simp [Try.f75]
  refine ⟨by omega, ?_⟩
  refine loop_inv (fun q : Nat × List TEntry => q.1 ≤ s.length ∧ payAll payer at_ l s = payAll payer at_ q.2 (s.drop q.1) ∧ q.2.length ≤ l.length + q.1) (fun q => [(0, encLTEntry l), (1, dI payer), (2, encLTShare s), (3, dI at_), (10, .own (0, 1) 4 0 q.2.length), (11, dI q.1)]) (fun q => [((0, 1), .arr false 4 yTEntry (ML encTEntry q.2))]) 2 (fun q => s.length - q.1) (0, l) 400 (by simp) (by simp) (by simp) ?_
  intro ⟨p, acc⟩ ⟨hp, hi, hlen⟩
  simp at hp hi hlen ⊢
  refine ⟨fun hlt => ?_, fun hge => ?_⟩
  · rw [payAll_at hlt] at hi
    by_cases hz : (s[p]?.getD default).Cents = 0
    · rw [if_pos hz] at hi
      simp [hz]
      repeat' (first | omega | refine And.intro ?_ ?_ | intro _)
      all_goals exact Again.mk (p + 1, acc) ⟨by simp; omega, hi, by simp; omega⟩ (by simp) (by first | omega | (simp; omega))
    · rw [if_neg hz] at hi
      have hml := mAddEntry_len acc ⟨payer, (s[p]?.getD default).Who, (s[p]?.getD default).Cents, at_⟩
      cases hm : mAreEntries (acc ++ [⟨payer, (s[p]?.getD default).Who, (s[p]?.getD default).Cents, at_⟩]) with
      | true =>
        rw [if_pos hm] at hi
        have hy := mAddEntry_yes hm
        simp [hz, hm, hy]
        repeat' (first | omega | refine And.intro ?_ ?_ | intro _)
        all_goals exact Again.mk (p + 1, acc ++ [⟨payer, (s[p]?.getD default).Who, (s[p]?.getD default).Cents, at_⟩]) ⟨by simp; omega, hi, by simp; omega⟩ (by simp) (by first | omega | (simp; omega))
      | false =>
        rw [if_neg (by simp [hm])] at hi
        have hmp : mPay l payer s at_ = l := by simp [mPay, hi]
        simp [hz, hm, hi, hmp]
        omega
  · rw [payAll_end hge] at hi
    have hmp : mPay l payer s at_ = acc := by simp [mPay, hi]
    simp [hi, hmp]
theorem c75_ok : c75.ok Try.prog := mkCon_ok fun ⟨l, payer, s, at_⟩ hpre => c75_pc l payer s at_ hpre
/-- loop.example/g03007/impl.PayShares -/
noncomputable def c77 : Con := mkCon 77 false (α := (List TEntry) × Int × (List TShare) × Int) (fun x => (fun (l : List TEntry) (payer : Int) (s : List TShare) (at_ : Int) => [encLTEntry l, dI payer, encLTShare s, dI at_]) x.1 x.2.1 x.2.2.1 x.2.2.2) (fun _ => []) (fun x => (fun (l : List TEntry) (payer : Int) (s : List TShare) (at_ : Int) => l.length ≤ 268435456 ∧ s.length ≤ 268435456) x.1 x.2.1 x.2.2.1 x.2.2.2) (fun x => (fun (l : List TEntry) (payer : Int) (s : List TShare) (at_ : Int) => (.tup [.own (0, 1) 4 0 (mPay l payer s at_).length, dB (payAll payer at_ l s).isSome] : D)) x.1 x.2.1 x.2.2.1 x.2.2.2) (fun x => (fun (l : List TEntry) (payer : Int) (s : List TShare) (at_ : Int) => [((0, 1), .arr false 4 yTEntry (ML encTEntry (mPay l payer s at_)))]) x.1 x.2.1 x.2.2.1 x.2.2.2)
@[simp] theorem c77_f : c77.f = 77 := rfl
@[simp] theorem c77_own : c77.own = false := rfl
theorem c77_inj : ∀ u_ v_ : (List TEntry) × Int × (List TShare) × Int, ((fun x => (fun (l : List TEntry) (payer : Int) (s : List TShare) (at_ : Int) => [encLTEntry l, dI payer, encLTShare s, dI at_]) x.1 x.2.1 x.2.2.1 x.2.2.2) u_).map nz = ((fun x => (fun (l : List TEntry) (payer : Int) (s : List TShare) (at_ : Int) => [encLTEntry l, dI payer, encLTShare s, dI at_]) x.1 x.2.1 x.2.2.1 x.2.2.2) v_).map nz → u_ = v_ := by
  intro u_ v_ h
  obtain ⟨l, payer, s, at_⟩ := u_
  obtain ⟨l', payer', s', at_'⟩ := v_
  simp [nz_lit, nz1_lit, nz_agg, nz_sl, nz1_sl, encLTEntry, encLTShare] at h
  first | (simp [h]; done) | (obtain ⟨⟩ := h; simp_all; done) | simp_all
@[simp] theorem c77_fn (l : List TEntry) (payer : Int) (s : List TShare) (at_ : Int) : c77.fn [.sl false 4 yTEntry (ML encTEntry l), .lit (.int .i64 payer), .sl false 2 yTShare (ML encTShare s), .lit (.int .i64 at_)] [] = some ((fun (l : List TEntry) (payer : Int) (s : List TShare) (at_ : Int) => l.length ≤ 268435456 ∧ s.length ≤ 268435456) l payer s at_, (fun (l : List TEntry) (payer : Int) (s : List TShare) (at_ : Int) => (.tup [.own (0, 1) 4 0 (mPay l payer s at_).length, dB (payAll payer at_ l s).isSome] : D)) l payer s at_, (fun (l : List TEntry) (payer : Int) (s : List TShare) (at_ : Int) => [((0, 1), .arr false 4 yTEntry (ML encTEntry (mPay l payer s at_)))]) l payer s at_) :=
  mkCon_fn (fun x y h _ => c77_inj x y h) ((l, payer, s, at_) : (List TEntry) × Int × (List TShare) × Int) (by simp [nz, nz1, ML_nil, encLTEntry, encLTShare]) rfl
@[simp] theorem c77_fn1 (s_l : Nat) (z_l : D) (payer : Int) (s : List TShare) (at_ : Int) : c77.fn [.sl false s_l z_l [], .lit (.int .i64 payer), .sl false 2 yTShare (ML encTShare s), .lit (.int .i64 at_)] [] = some ((fun (l : List TEntry) (payer : Int) (s : List TShare) (at_ : Int) => l.length ≤ 268435456 ∧ s.length ≤ 268435456) [] payer s at_, (fun (l : List TEntry) (payer : Int) (s : List TShare) (at_ : Int) => (.tup [.own (0, 1) 4 0 (mPay l payer s at_).length, dB (payAll payer at_ l s).isSome] : D)) [] payer s at_, (fun (l : List TEntry) (payer : Int) (s : List TShare) (at_ : Int) => [((0, 1), .arr false 4 yTEntry (ML encTEntry (mPay l payer s at_)))]) [] payer s at_) :=
  mkCon_fn (fun x y h _ => c77_inj x y h) (([], payer, s, at_) : (List TEntry) × Int × (List TShare) × Int) (by simp [nz, nz1, ML_nil, encLTEntry, encLTShare]) rfl
@[simp] theorem c77_fn2 (l : List TEntry) (payer : Int) (s_s : Nat) (z_s : D) (at_ : Int) : c77.fn [.sl false 4 yTEntry (ML encTEntry l), .lit (.int .i64 payer), .sl false s_s z_s [], .lit (.int .i64 at_)] [] = some ((fun (l : List TEntry) (payer : Int) (s : List TShare) (at_ : Int) => l.length ≤ 268435456 ∧ s.length ≤ 268435456) l payer [] at_, (fun (l : List TEntry) (payer : Int) (s : List TShare) (at_ : Int) => (.tup [.own (0, 1) 4 0 (mPay l payer s at_).length, dB (payAll payer at_ l s).isSome] : D)) l payer [] at_, (fun (l : List TEntry) (payer : Int) (s : List TShare) (at_ : Int) => [((0, 1), .arr false 4 yTEntry (ML encTEntry (mPay l payer s at_)))]) l payer [] at_) :=
  mkCon_fn (fun x y h _ => c77_inj x y h) ((l, payer, [], at_) : (List TEntry) × Int × (List TShare) × Int) (by simp [nz, nz1, ML_nil, encLTEntry, encLTShare]) rfl
@[simp] theorem c77_fn3 (s_l : Nat) (z_l : D) (payer : Int) (s_s : Nat) (z_s : D) (at_ : Int) : c77.fn [.sl false s_l z_l [], .lit (.int .i64 payer), .sl false s_s z_s [], .lit (.int .i64 at_)] [] = some ((fun (l : List TEntry) (payer : Int) (s : List TShare) (at_ : Int) => l.length ≤ 268435456 ∧ s.length ≤ 268435456) [] payer [] at_, (fun (l : List TEntry) (payer : Int) (s : List TShare) (at_ : Int) => (.tup [.own (0, 1) 4 0 (mPay l payer s at_).length, dB (payAll payer at_ l s).isSome] : D)) [] payer [] at_, (fun (l : List TEntry) (payer : Int) (s : List TShare) (at_ : Int) => [((0, 1), .arr false 4 yTEntry (ML encTEntry (mPay l payer s at_)))]) [] payer [] at_) :=
  mkCon_fn (fun x y h _ => c77_inj x y h) (([], payer, [], at_) : (List TEntry) × Int × (List TShare) × Int) (by simp [nz, nz1, ML_nil, encLTEntry, encLTShare]) rfl
theorem c77_pc (l : List TEntry) (payer : Int) (s : List TShare) (at_ : Int) (hpre : l.length ≤ 268435456 ∧ s.length ≤ 268435456) : PCo Try.prog 77 [encLTEntry l, dI payer, encLTShare s, dI at_] (Tab.of []) (.tup [.own (0, 1) 4 0 (mPay l payer s at_).length, dB (payAll payer at_ l s).isSome]) (Tab.of [((0, 1), .arr false 4 yTEntry (ML encTEntry (mPay l payer s at_)))]) := by
  refine pco_of_run [] (E := ⟨[c70, c122], []⟩) (m := false) (base := 0) (Env.ok_cons c70_ok (Env.ok_cons c122_ok Env.ok_nil)) G_ok mix 300 6 Try.func77 (by kernel_rfl) rfl (by kernel_rfl) (by kernel_rfl) rfl ?_
  simp [Try.f77]
  refine ⟨by omega, ?_⟩
  refine loop_inv (fun q : Nat × List TEntry => q.1 ≤ s.length ∧ payAll payer at_ l s = payAll payer at_ q.2 (s.drop q.1) ∧ q.2.length ≤ l.length + q.1) (fun q => [(0, encLTEntry l), (1, dI payer), (3, dI at_), (10, .own (0, 1) 4 0 q.2.length), (17, encLTShare s), (18, dI s.length), (19, dI q.1)]) (fun q => [((0, 1), .arr false 4 yTEntry (ML encTEntry q.2))]) 2 (fun q => s.length - q.1) (0, l) 400 (by simp) (by simp) (by simp) ?_
  intro ⟨p, acc⟩ ⟨hp, hi, hlen⟩
  simp at hp hi hlen ⊢
  refine ⟨fun hlt => ?_, fun hge => ?_⟩
  · rw [payAll_at hlt] at hi
    by_cases hz : (s[p]?.getD default).Cents = 0
    · rw [if_pos hz] at hi
      simp [hz]
      repeat' (first | omega | refine And.intro ?_ ?_ | intro _)
      all_goals exact Again.mk (p + 1, acc) ⟨by simp; omega, hi, by simp; omega⟩ (by simp) (by first | omega | (simp; omega))
    · rw [if_neg hz] at hi
      have hml := mAddEntry_len acc ⟨payer, (s[p]?.getD default).Who, (s[p]?.getD default).Cents, at_⟩
      cases hm : mAreEntries (acc ++ [⟨payer, (s[p]?.getD default).Who, (s[p]?.getD default).Cents, at_⟩]) with
      | true =>
        rw [if_pos hm] at hi
        have hy := mAddEntry_yes hm
        simp [hz, hm, hy]
        repeat' (first | omega | refine And.intro ?_ ?_ | intro _)
        all_goals exact Again.mk (p + 1, acc ++ [⟨payer, (s[p]?.getD default).Who, (s[p]?.getD default).Cents, at_⟩]) ⟨by simp; omega, hi, by simp; omega⟩ (by simp) (by first | omega | (simp; omega))
      | false =>
        rw [if_neg (by simp [hm])] at hi
        have hmp : mPay l payer s at_ = l := by simp [mPay, hi]
        simp [hz, hm, hi, hmp]
        omega
  · rw [payAll_end hge] at hi
    have hmp : mPay l payer s at_ = acc := by simp [mPay, hi]
    simp [hi, hmp]
theorem c77_ok : c77.ok Try.prog := mkCon_ok fun ⟨l, payer, s, at_⟩ hpre => c77_pc l payer s at_ hpre

end Go.Proofs.Ytkccphdoolpmaaa
