/- Contracts of the functions that the laws run. -/
import Derived.Test.Ytkccphdoolpmaaach01
import Derived.Test.YtkccphdoolpmaaaEngB
namespace Go.Proofs.Ytkccphdoolpmaaa
open Go Go.Eng
set_option linter.unusedSimpArgs false
set_option linter.unusedVariables false
set_option maxRecDepth 10000
set_option maxHeartbeats 1000000
/-- loop.example/g03007/laws.toEntry -/
noncomputable def c69 : Con := mkCon 69 false (α := TEntry) (fun x => (fun (a : TEntry) => [encTEntry a]) x) (fun _ => []) (fun x => (fun (a : TEntry) => True) x) (fun x => (fun (a : TEntry) => (encTEntry a : D)) x) (fun x => (fun (a : TEntry) => []) x)
@[simp] theorem c69_f : c69.f = 69 := rfl
@[simp] theorem c69_own : c69.own = false := rfl
theorem c69_inj : ∀ u_ v_ : TEntry, ((fun x => (fun (a : TEntry) => [encTEntry a]) x) u_).map nz = ((fun x => (fun (a : TEntry) => [encTEntry a]) x) v_).map nz → u_ = v_ := by
  intro u_ v_ h
  obtain ⟨a_From, a_To, a_Cents, a_At⟩ := u_
  obtain ⟨a_From', a_To', a_Cents', a_At'⟩ := v_
  simp [nz_lit, nz1_lit, nz_agg, nz_sl, nz1_sl, encTEntry] at h
  first | (simp [h]; done) | (obtain ⟨⟩ := h; simp_all; done) | simp_all
@[simp] theorem c69_fn (a_From : Int) (a_To : Int) (a_Cents : Int) (a_At : Int) : c69.fn [.agg [.lit (.int .i64 a_From), .lit (.int .i64 a_To), .lit (.int .i64 a_Cents), .lit (.int .i64 a_At)]] [] = some ((fun (a : TEntry) => True) ⟨a_From, a_To, a_Cents, a_At⟩, (fun (a : TEntry) => (encTEntry a : D)) ⟨a_From, a_To, a_Cents, a_At⟩, (fun (a : TEntry) => []) ⟨a_From, a_To, a_Cents, a_At⟩) :=
  mkCon_fn (fun x y h _ => c69_inj x y h) (⟨a_From, a_To, a_Cents, a_At⟩ : TEntry) (by simp [nz, nz1, ML_nil, encTEntry]) rfl
theorem c69_pc (a : TEntry) : PCo Try.prog 69 [encTEntry a] (Tab.of []) (encTEntry a) (Tab.of []) := by
  obtain ⟨a_From, a_To, a_Cents, a_At⟩ := a
  refine pco_of_run [] (E := ⟨[], []⟩) (m := false) (base := 0) Env.ok_nil G_ok mix 300 6 Try.func69 (by kernel_rfl) rfl (by kernel_rfl) (by kernel_rfl) rfl ?_
  simp [Try.f69]
  all_goals first | omega | (rw [Bool.eq_iff_iff]; simp; omega) | grind
theorem c69_ok : c69.ok Try.prog := mkCon_ok fun a hpre => c69_pc a
/-- loop.example/g03007/laws.eqEntry -/
noncomputable def c124 : Con := mkCon 124 false (α := TEntry × TEntry) (fun x => (fun (a : TEntry) (b : TEntry) => [encTEntry a, encTEntry b]) x.1 x.2) (fun _ => []) (fun x => (fun (a : TEntry) (b : TEntry) => True) x.1 x.2) (fun x => (fun (a : TEntry) (b : TEntry) => (dB (decide (a = b)) : D)) x.1 x.2) (fun x => (fun (a : TEntry) (b : TEntry) => []) x.1 x.2)
@[simp] theorem c124_f : c124.f = 124 := rfl
@[simp] theorem c124_own : c124.own = false := rfl
theorem c124_inj : ∀ u_ v_ : TEntry × TEntry, ((fun x => (fun (a : TEntry) (b : TEntry) => [encTEntry a, encTEntry b]) x.1 x.2) u_).map nz = ((fun x => (fun (a : TEntry) (b : TEntry) => [encTEntry a, encTEntry b]) x.1 x.2) v_).map nz → u_ = v_ := by
  intro u_ v_ h
  obtain ⟨⟨a_From, a_To, a_Cents, a_At⟩, ⟨b_From, b_To, b_Cents, b_At⟩⟩ := u_
  obtain ⟨⟨a_From', a_To', a_Cents', a_At'⟩, ⟨b_From', b_To', b_Cents', b_At'⟩⟩ := v_
  simp [nz_lit, nz1_lit, nz_agg, nz_sl, nz1_sl, encTEntry] at h
  first | (simp [h]; done) | (obtain ⟨⟩ := h; simp_all; done) | simp_all
@[simp] theorem c124_fn (a_From : Int) (a_To : Int) (a_Cents : Int) (a_At : Int) (b_From : Int) (b_To : Int) (b_Cents : Int) (b_At : Int) : c124.fn [.agg [.lit (.int .i64 a_From), .lit (.int .i64 a_To), .lit (.int .i64 a_Cents), .lit (.int .i64 a_At)], .agg [.lit (.int .i64 b_From), .lit (.int .i64 b_To), .lit (.int .i64 b_Cents), .lit (.int .i64 b_At)]] [] = some ((fun (a : TEntry) (b : TEntry) => True) ⟨a_From, a_To, a_Cents, a_At⟩ ⟨b_From, b_To, b_Cents, b_At⟩, (fun (a : TEntry) (b : TEntry) => (dB (decide (a = b)) : D)) ⟨a_From, a_To, a_Cents, a_At⟩ ⟨b_From, b_To, b_Cents, b_At⟩, (fun (a : TEntry) (b : TEntry) => []) ⟨a_From, a_To, a_Cents, a_At⟩ ⟨b_From, b_To, b_Cents, b_At⟩) :=
  mkCon_fn (fun x y h _ => c124_inj x y h) ((⟨a_From, a_To, a_Cents, a_At⟩, ⟨b_From, b_To, b_Cents, b_At⟩) : TEntry × TEntry) (by simp [nz, nz1, ML_nil, encTEntry]) rfl
theorem c124_pc (a : TEntry) (b : TEntry) : PCo Try.prog 124 [encTEntry a, encTEntry b] (Tab.of []) (dB (decide (a = b))) (Tab.of []) := by
  obtain ⟨a_From, a_To, a_Cents, a_At⟩ := a
  obtain ⟨b_From, b_To, b_Cents, b_At⟩ := b
  refine pco_of_run [] (E := ⟨[], []⟩) (m := false) (base := 0) Env.ok_nil G_ok mix 300 6 Try.func124 (by kernel_rfl) rfl (by kernel_rfl) (by kernel_rfl) rfl ?_
  simp [Try.f124]
  all_goals first | omega | (rw [Bool.eq_iff_iff]; simp; omega) | grind
theorem c124_ok : c124.ok Try.prog := mkCon_ok fun ⟨a, b⟩ hpre => c124_pc a b
/-- loop.example/g03007/laws.szEntryS -/
noncomputable def c66 : Con := mkCon 66 false (α := (List TEntry) × Int) (fun x => (fun (l : List TEntry) (left : Int) => [encLTEntry l, dI left]) x.1 x.2) (fun _ => []) (fun x => (fun (l : List TEntry) (left : Int) => l.length ≤ maxLen ∧ 0 ≤ left ∧ left ≤ 1099511627776) x.1 x.2) (fun x => (fun (l : List TEntry) (left : Int) => (dI (if left - l.length < 0 then -1 else left - l.length) : D)) x.1 x.2) (fun x => (fun (l : List TEntry) (left : Int) => []) x.1 x.2)
@[simp] theorem c66_f : c66.f = 66 := rfl
@[simp] theorem c66_own : c66.own = false := rfl
theorem c66_inj : ∀ u_ v_ : (List TEntry) × Int, ((fun x => (fun (l : List TEntry) (left : Int) => [encLTEntry l, dI left]) x.1 x.2) u_).map nz = ((fun x => (fun (l : List TEntry) (left : Int) => [encLTEntry l, dI left]) x.1 x.2) v_).map nz → u_ = v_ := by
  intro u_ v_ h
  obtain ⟨l, left⟩ := u_
  obtain ⟨l', left'⟩ := v_
  simp [nz_lit, nz1_lit, nz_agg, nz_sl, nz1_sl, encLTEntry] at h
  first | (simp [h]; done) | (obtain ⟨⟩ := h; simp_all; done) | simp_all
@[simp] theorem c66_fn (l : List TEntry) (left : Int) : c66.fn [.sl false 4 yTEntry (ML encTEntry l), .lit (.int .i64 left)] [] = some ((fun (l : List TEntry) (left : Int) => l.length ≤ maxLen ∧ 0 ≤ left ∧ left ≤ 1099511627776) l left, (fun (l : List TEntry) (left : Int) => (dI (if left - l.length < 0 then -1 else left - l.length) : D)) l left, (fun (l : List TEntry) (left : Int) => []) l left) :=
  mkCon_fn (fun x y h _ => c66_inj x y h) ((l, left) : (List TEntry) × Int) (by simp [nz, nz1, ML_nil, encLTEntry]) rfl
@[simp] theorem c66_fn1 (s_l : Nat) (z_l : D) (left : Int) : c66.fn [.sl false s_l z_l [], .lit (.int .i64 left)] [] = some ((fun (l : List TEntry) (left : Int) => l.length ≤ maxLen ∧ 0 ≤ left ∧ left ≤ 1099511627776) [] left, (fun (l : List TEntry) (left : Int) => (dI (if left - l.length < 0 then -1 else left - l.length) : D)) [] left, (fun (l : List TEntry) (left : Int) => []) [] left) :=
  mkCon_fn (fun x y h _ => c66_inj x y h) (([], left) : (List TEntry) × Int) (by simp [nz, nz1, ML_nil, encLTEntry]) rfl
theorem c66_pc (l : List TEntry) (left : Int) (hpre : l.length ≤ maxLen ∧ 0 ≤ left ∧ left ≤ 1099511627776) : PCo Try.prog 66 [encLTEntry l, dI left] (Tab.of []) (dI (if left - l.length < 0 then -1 else left - l.length)) (Tab.of []) := by
  refine pco_of_run [] (E := ⟨[], []⟩) (m := false) (base := 0) Env.ok_nil G_ok mix 300 6 Try.func66 (by kernel_rfl) rfl (by kernel_rfl) (by kernel_rfl) rfl ?_
  simp [Try.f66]
  simp [maxLen] at hpre
  all_goals omega
theorem c66_ok : c66.ok Try.prog := mkCon_ok fun ⟨l, left⟩ hpre => c66_pc l left hpre
/-- loop.example/g03007/laws.toEntryS -/
noncomputable def c68 : Con := mkCon 68 false (α := (List TEntry)) (fun x => (fun (l : List TEntry) => [encLTEntry l]) x) (fun _ => []) (fun x => (fun (l : List TEntry) => l.length ≤ 1099511627776) x) (fun x => (fun (l : List TEntry) => (.own (0, 1) 4 0 l.length : D)) x) (fun x => (fun (l : List TEntry) => [((0, 1), .arr false 4 yTEntry (ML encTEntry l))]) x)
@[simp] theorem c68_f : c68.f = 68 := rfl
@[simp] theorem c68_own : c68.own = false := rfl
theorem c68_inj : ∀ u_ v_ : (List TEntry), ((fun x => (fun (l : List TEntry) => [encLTEntry l]) x) u_).map nz = ((fun x => (fun (l : List TEntry) => [encLTEntry l]) x) v_).map nz → u_ = v_ := by
  intro u_ v_ h
  obtain l := u_
  obtain l' := v_
  simp [nz_lit, nz1_lit, nz_agg, nz_sl, nz1_sl, encLTEntry] at h
  first | (simp [h]; done) | (obtain ⟨⟩ := h; simp_all; done) | simp_all
@[simp] theorem c68_fn (l : List TEntry) : c68.fn [.sl false 4 yTEntry (ML encTEntry l)] [] = some ((fun (l : List TEntry) => l.length ≤ 1099511627776) l, (fun (l : List TEntry) => (.own (0, 1) 4 0 l.length : D)) l, (fun (l : List TEntry) => [((0, 1), .arr false 4 yTEntry (ML encTEntry l))]) l) :=
  mkCon_fn (fun x y h _ => c68_inj x y h) (l : (List TEntry)) (by simp [nz, nz1, ML_nil, encLTEntry]) rfl
@[simp] theorem c68_fn1 (s_l : Nat) (z_l : D) : c68.fn [.sl false s_l z_l []] [] = some ((fun (l : List TEntry) => l.length ≤ 1099511627776) [], (fun (l : List TEntry) => (.own (0, 1) 4 0 l.length : D)) [], (fun (l : List TEntry) => [((0, 1), .arr false 4 yTEntry (ML encTEntry l))]) []) :=
  mkCon_fn (fun x y h _ => c68_inj x y h) ([] : (List TEntry)) (by simp [nz, nz1, ML_nil, encLTEntry]) rfl
theorem c68_pc (l : List TEntry) (hpre : l.length ≤ 1099511627776) : PCo Try.prog 68 [encLTEntry l] (Tab.of []) (.own (0, 1) 4 0 l.length) (Tab.of [((0, 1), .arr false 4 yTEntry (ML encTEntry l))]) := by
  refine pco_of_run [] (E := ⟨[c69], []⟩) (m := false) (base := 0) (Env.ok_cons c69_ok Env.ok_nil) G_ok mix 300 6 Try.func68 (by kernel_rfl) rfl (by kernel_rfl) (by kernel_rfl) rfl ?_
  simp [Try.f68]
  refine ⟨by omega, ?_⟩
  refine loop_inv (fun p : Nat => p ≤ l.length) (fun p => [(0, encLTEntry l), (3, .own (0, 1) 4 0 l.length), (4, dI p)]) (fun p => [((0, 1), .arr false 4 yTEntry (ML encTEntry (l.take p ++ List.replicate (l.length - p) ⟨0, 0, 0, 0⟩)))]) 2 (fun p => l.length - p) 0 100 (by simp) (by simp) (by first | (simp; done) | (simp; simp only [ML, List.map_replicate]; rfl)) ?_
  intro p hp
  simp
  refine ⟨fun hlt => ⟨by omega, by omega, Again.mk (p + 1) (by omega) (by simp [fill_step hlt]) (by first | omega | (simp; omega))⟩, fun hge => ?_⟩
  have : p = l.length := by omega
  subst this
  simp
theorem c68_ok : c68.ok Try.prog := mkCon_ok fun l hpre => c68_pc l hpre
/-- loop.example/g03007/laws.eqEntryS -/
noncomputable def c71 : Con := mkCon 71 false (α := (List TEntry) × (List TEntry)) (fun x => (fun (a : List TEntry) (b : List TEntry) => [encLTEntry a, encLTEntry b]) x.1 x.2) (fun _ => []) (fun x => (fun (a : List TEntry) (b : List TEntry) => a.length ≤ 1099511627776 ∧ b.length ≤ 1099511627776) x.1 x.2) (fun x => (fun (a : List TEntry) (b : List TEntry) => (dB (decide (a = b)) : D)) x.1 x.2) (fun x => (fun (a : List TEntry) (b : List TEntry) => []) x.1 x.2)
@[simp] theorem c71_f : c71.f = 71 := rfl
@[simp] theorem c71_own : c71.own = false := rfl
theorem c71_inj : ∀ u_ v_ : (List TEntry) × (List TEntry), ((fun x => (fun (a : List TEntry) (b : List TEntry) => [encLTEntry a, encLTEntry b]) x.1 x.2) u_).map nz = ((fun x => (fun (a : List TEntry) (b : List TEntry) => [encLTEntry a, encLTEntry b]) x.1 x.2) v_).map nz → u_ = v_ := by
  intro u_ v_ h
  obtain ⟨a, b⟩ := u_
  obtain ⟨a', b'⟩ := v_
  simp [nz_lit, nz1_lit, nz_agg, nz_sl, nz1_sl, encLTEntry] at h
  first | (simp [h]; done) | (obtain ⟨⟩ := h; simp_all; done) | simp_all
@[simp] theorem c71_fn (a : List TEntry) (b : List TEntry) : c71.fn [.sl false 4 yTEntry (ML encTEntry a), .sl false 4 yTEntry (ML encTEntry b)] [] = some ((fun (a : List TEntry) (b : List TEntry) => a.length ≤ 1099511627776 ∧ b.length ≤ 1099511627776) a b, (fun (a : List TEntry) (b : List TEntry) => (dB (decide (a = b)) : D)) a b, (fun (a : List TEntry) (b : List TEntry) => []) a b) :=
  mkCon_fn (fun x y h _ => c71_inj x y h) ((a, b) : (List TEntry) × (List TEntry)) (by simp [nz, nz1, ML_nil, encLTEntry]) rfl
@[simp] theorem c71_fn1 (s_a : Nat) (z_a : D) (b : List TEntry) : c71.fn [.sl false s_a z_a [], .sl false 4 yTEntry (ML encTEntry b)] [] = some ((fun (a : List TEntry) (b : List TEntry) => a.length ≤ 1099511627776 ∧ b.length ≤ 1099511627776) [] b, (fun (a : List TEntry) (b : List TEntry) => (dB (decide (a = b)) : D)) [] b, (fun (a : List TEntry) (b : List TEntry) => []) [] b) :=
  mkCon_fn (fun x y h _ => c71_inj x y h) (([], b) : (List TEntry) × (List TEntry)) (by simp [nz, nz1, ML_nil, encLTEntry]) rfl
@[simp] theorem c71_fn2 (a : List TEntry) (s_b : Nat) (z_b : D) : c71.fn [.sl false 4 yTEntry (ML encTEntry a), .sl false s_b z_b []] [] = some ((fun (a : List TEntry) (b : List TEntry) => a.length ≤ 1099511627776 ∧ b.length ≤ 1099511627776) a [], (fun (a : List TEntry) (b : List TEntry) => (dB (decide (a = b)) : D)) a [], (fun (a : List TEntry) (b : List TEntry) => []) a []) :=
  mkCon_fn (fun x y h _ => c71_inj x y h) ((a, []) : (List TEntry) × (List TEntry)) (by simp [nz, nz1, ML_nil, encLTEntry]) rfl
@[simp] theorem c71_fn3 (s_a : Nat) (z_a : D) (s_b : Nat) (z_b : D) : c71.fn [.sl false s_a z_a [], .sl false s_b z_b []] [] = some ((fun (a : List TEntry) (b : List TEntry) => a.length ≤ 1099511627776 ∧ b.length ≤ 1099511627776) [] [], (fun (a : List TEntry) (b : List TEntry) => (dB (decide (a = b)) : D)) [] [], (fun (a : List TEntry) (b : List TEntry) => []) [] []) :=
  mkCon_fn (fun x y h _ => c71_inj x y h) (([], []) : (List TEntry) × (List TEntry)) (by simp [nz, nz1, ML_nil, encLTEntry]) rfl
theorem c71_pc (a : List TEntry) (b : List TEntry) (hpre : a.length ≤ 1099511627776 ∧ b.length ≤ 1099511627776) : PCo Try.prog 71 [encLTEntry a, encLTEntry b] (Tab.of []) (dB (decide (a = b))) (Tab.of []) := by
  refine pco_of_run [] (E := ⟨[c124], []⟩) (m := false) (base := 0) (Env.ok_cons c124_ok Env.ok_nil) G_ok mix 300 6 Try.func71 (by kernel_rfl) rfl (by kernel_rfl) (by kernel_rfl) rfl ?_
  simp [Try.f71]
  obtain ⟨pre1, pre2⟩ := hpre
  refine ⟨fun h => ?_, fun h => by intro e; subst e; exact absurd rfl h⟩
  refine loop_inv (fun p : Nat => p ≤ a.length ∧ a.take p = b.take p) (fun p => [(0, encLTEntry a), (1, encLTEntry b), (5, dI p)]) (fun _ => []) 1 (fun p => a.length - p) 0 100 (by simp) (by simp) (by simp) ?_
  intro p ⟨hp, hi⟩
  simp
  refine ⟨fun hlt => ⟨by omega, fun h2 => ⟨by omega, Again.mk (p + 1) ⟨by omega, take_eq_step hi (by omega) (by omega) h2⟩ (by simp) (by first | omega | (simp; omega))⟩, fun h2 => by intro e; subst e; exact absurd rfl h2⟩, fun hge => ?_⟩
  exact take_eq_full hi (by omega) (by omega)
theorem c71_ok : c71.ok Try.prog := mkCon_ok fun ⟨a, b⟩ hpre => c71_pc a b hpre
abbrev mk_TEntry : Int → TEntry := fun n => ⟨n, n + 1, n + 2, n + 3⟩
/-- loop.example/g03007/laws.markEntryS -/
noncomputable def c72 : Con := mkCon 72 true (α := (List TEntry) × Int) (fun x => (fun (l : List TEntry) (k : Int) => ([.own (0, 0) 4 0 l.length, dI k] : List D)) x.1 x.2) (fun x => (fun (l : List TEntry) (k : Int) => ([((0, 0), .arr false 4 yTEntry (ML encTEntry l))] : List (Nm × OO))) x.1 x.2) (fun x => (fun (l : List TEntry) (k : Int) => l.length ≤ 1099511627776 ∧ 0 ≤ k ∧ k ≤ 1152921504606846976) x.1 x.2) (fun x => (fun (l : List TEntry) (k : Int) => (dI (k + 4 * l.length) : D)) x.1 x.2) (fun x => (fun (l : List TEntry) (k : Int) => ([((0, 0), .arr false 4 yTEntry (ML encTEntry (mkL mk_TEntry 4 k l.length)))] : List (Nm × OO))) x.1 x.2)
@[simp] theorem c72_f : c72.f = 72 := rfl
@[simp] theorem c72_own : c72.own = true := rfl
theorem c72_inj : ∀ u_ v_ : (List TEntry) × Int, ((fun x => (fun (l : List TEntry) (k : Int) => ([.own (0, 0) 4 0 l.length, dI k] : List D)) x.1 x.2) u_).map nz = ((fun x => (fun (l : List TEntry) (k : Int) => ([.own (0, 0) 4 0 l.length, dI k] : List D)) x.1 x.2) v_).map nz → (fun x => (fun (l : List TEntry) (k : Int) => ([((0, 0), .arr false 4 yTEntry (ML encTEntry l))] : List (Nm × OO))) x.1 x.2) u_ = (fun x => (fun (l : List TEntry) (k : Int) => ([((0, 0), .arr false 4 yTEntry (ML encTEntry l))] : List (Nm × OO))) x.1 x.2) v_ → u_ = v_ := by
  intro u_ v_ h h2_
  obtain ⟨l, k⟩ := u_
  obtain ⟨l', k'⟩ := v_
  simp [nz_lit, nz1_lit, nz_agg, nz_sl, nz1_sl, nz_sx, nz_el, nz1_el, nz_own, nz1_own, nz_ptr, nz_fn, nz_iface] at h h2_
  first | (simp [h, h2_]; done) | simp_all | grind
@[simp] theorem c72_fn (l : List TEntry) (k : Int) : c72.fn ([.own (0, 0) 4 0 l.length, dI k]) ([((0, 0), .arr false 4 yTEntry (ML encTEntry l))]) = some (l.length ≤ 1099511627776 ∧ 0 ≤ k ∧ k ≤ 1152921504606846976, dI (k + 4 * l.length), [((0, 0), .arr false 4 yTEntry (ML encTEntry (mkL mk_TEntry 4 k l.length)))]) :=
  mkCon_fn c72_inj ((l, k) : (List TEntry) × Int) rfl rfl
theorem c72_pc (l : List TEntry) (k : Int) (hpre : l.length ≤ 1099511627776 ∧ 0 ≤ k ∧ k ≤ 1152921504606846976) : PCo Try.prog 72 ([.own (0, 0) 4 0 l.length, dI k]) (Tab.of ([((0, 0), .arr false 4 yTEntry (ML encTEntry l))])) (dI (k + 4 * l.length)) (Tab.of ([((0, 0), .arr false 4 yTEntry (ML encTEntry (mkL mk_TEntry 4 k l.length)))])) := by
  refine pco_of_run [] (E := ⟨[], []⟩) (m := false) (base := 0) Env.ok_nil G_ok mix 300 6 Try.func72 (by kernel_rfl) rfl (by kernel_rfl) (by kernel_rfl) rfl ?_
  simp [Try.f72]
  obtain ⟨pre1, pre2, pre3⟩ := hpre
  refine loop_inv (fun p : Nat => p ≤ l.length) (fun p => [(0, .own (0, 0) 4 0 l.length), (1, dI (k + 4 * p)), (5, dI p)]) (fun p => [((0, 0), .arr false 4 yTEntry (ML encTEntry (mkL mk_TEntry 4 k p ++ l.drop p)))]) 2 (fun p => l.length - p) 0 100 (by simp) (by simp) (by simp) ?_
  intro p hp
  simp
  have hs : ∀ x, x = mk_TEntry (k + 4 * (p : Int)) → p < l.length → mkL mk_TEntry 4 k p ++ (l.drop p).set 0 x = mkL mk_TEntry 4 k (p + 1) ++ l.drop (p + 1) := fun x hx hlt => mark_step0 hlt hx
  refine ⟨fun hlt => ?_, fun hge => ?_⟩
  · repeat' (first | omega | refine And.intro ?_ ?_ | intro _)
    all_goals refine Again.mk (p + 1) (by omega) ?_ (by first | omega | (simp; omega))
    all_goals (rw [hs _ (by simp [mark_get0 hlt, mark_get hlt]; first | done | omega) hlt]; simp; omega)
  have : p = l.length := by omega
  subst this
  simp
  trace_state
theorem c72_ok : c72.ok Try.prog := mkCon_ok fun ⟨l, k⟩ hpre => c72_pc l k hpre
/-- loop.example/g03007/laws.heldEntryS -/
noncomputable def c73 : Con := mkCon 73 false (α := (List TEntry) × Int) (fun x => (fun (l : List TEntry) (k : Int) => [encLTEntry l, dI k]) x.1 x.2) (fun _ => []) (fun x => (fun (l : List TEntry) (k : Int) => l.length ≤ 1099511627776 ∧ 0 ≤ k ∧ k ≤ 1152921504606846976) x.1 x.2) (fun x => (fun (l : List TEntry) (k : Int) => (dI (if l = mkL mk_TEntry 4 k l.length then k + 4 * l.length else -1) : D)) x.1 x.2) (fun x => (fun (l : List TEntry) (k : Int) => []) x.1 x.2)
@[simp] theorem c73_f : c73.f = 73 := rfl
@[simp] theorem c73_own : c73.own = false := rfl
theorem c73_inj : ∀ u_ v_ : (List TEntry) × Int, ((fun x => (fun (l : List TEntry) (k : Int) => [encLTEntry l, dI k]) x.1 x.2) u_).map nz = ((fun x => (fun (l : List TEntry) (k : Int) => [encLTEntry l, dI k]) x.1 x.2) v_).map nz → u_ = v_ := by
  intro u_ v_ h
  obtain ⟨l, k⟩ := u_
  obtain ⟨l', k'⟩ := v_
  simp [nz_lit, nz1_lit, nz_agg, nz_sl, nz1_sl, encLTEntry] at h
  first | (simp [h]; done) | (obtain ⟨⟩ := h; simp_all; done) | simp_all
@[simp] theorem c73_fn (l : List TEntry) (k : Int) : c73.fn [.sl false 4 yTEntry (ML encTEntry l), .lit (.int .i64 k)] [] = some ((fun (l : List TEntry) (k : Int) => l.length ≤ 1099511627776 ∧ 0 ≤ k ∧ k ≤ 1152921504606846976) l k, (fun (l : List TEntry) (k : Int) => (dI (if l = mkL mk_TEntry 4 k l.length then k + 4 * l.length else -1) : D)) l k, (fun (l : List TEntry) (k : Int) => []) l k) :=
  mkCon_fn (fun x y h _ => c73_inj x y h) ((l, k) : (List TEntry) × Int) (by simp [nz, nz1, ML_nil, encLTEntry]) rfl
@[simp] theorem c73_fn1 (s_l : Nat) (z_l : D) (k : Int) : c73.fn [.sl false s_l z_l [], .lit (.int .i64 k)] [] = some ((fun (l : List TEntry) (k : Int) => l.length ≤ 1099511627776 ∧ 0 ≤ k ∧ k ≤ 1152921504606846976) [] k, (fun (l : List TEntry) (k : Int) => (dI (if l = mkL mk_TEntry 4 k l.length then k + 4 * l.length else -1) : D)) [] k, (fun (l : List TEntry) (k : Int) => []) [] k) :=
  mkCon_fn (fun x y h _ => c73_inj x y h) (([], k) : (List TEntry) × Int) (by simp [nz, nz1, ML_nil, encLTEntry]) rfl
theorem c73_pc (l : List TEntry) (k : Int) (hpre : l.length ≤ 1099511627776 ∧ 0 ≤ k ∧ k ≤ 1152921504606846976) : PCo Try.prog 73 [encLTEntry l, dI k] (Tab.of []) (dI (if l = mkL mk_TEntry 4 k l.length then k + 4 * l.length else -1)) (Tab.of []) := by
  refine pco_of_run [] (E := ⟨[], []⟩) (m := false) (base := 0) Env.ok_nil G_ok mix 300 6 Try.func73 (by kernel_rfl) rfl (by kernel_rfl) (by kernel_rfl) rfl ?_
  simp [Try.f73]
  obtain ⟨pre1, pre2, pre3⟩ := hpre
  refine loop_inv (fun p : Nat => p ≤ l.length ∧ l.take p = (mkL mk_TEntry 4 k l.length).take p) (fun p => [(0, encLTEntry l), (1, dI (k + 4 * p)), (5, dI p)]) (fun _ => []) 1 (fun p => l.length - p) 0 100 (by simp) (by simp) (by simp) ?_
  intro p ⟨hp, hi⟩
  simp
  refine ⟨fun hlt => ?_, fun hge => ?_⟩
  · have hx := mkL_get (f := mk_TEntry) (m := 4) (k := k) (d := default) hlt
    by_cases he : l[p]?.getD default = mk_TEntry (k + 4 * (p : Int))
    · generalize hA : Again _ _ _ _ _ _ _ = A
      have hAA : A := by rw [← hA]; exact Again.mk (p + 1) ⟨by omega, take_eq_step hi (by omega) (by simp; omega) (by rw [hx]; exact he)⟩ (by simp; omega) (by first | omega | (simp; omega))
      clear hA
      simp only [he, mk_TEntry]
      repeat' (first | exact hAA | omega | refine And.intro ?_ ?_ | intro _)
      all_goals first | (exfalso; exact absurd trivial (by assumption)) | (exfalso; omega)
    · have hne : ¬ l = mkL mk_TEntry 4 k l.length := fun e => he (by rw [← hx]; exact congrArg (fun z => z[p]?.getD default) e)
      generalize Again _ _ _ _ _ _ _ = A
      repeat' (first | omega | rfl | refine And.intro ?_ ?_ | intro _)
      all_goals first | (exfalso; apply hne; assumption) | (exfalso; apply he; obtain ⟨x, hq⟩ : ∃ x, l[p]?.getD default = x := ⟨_, rfl⟩; simp only [hq] at *; obtain ⟨x1, x2, x3, x4⟩ := x; simp [mk_TEntry] at *; omega)
  · have h4 := take_eq_full hi hge (by simp; omega)
    rw [if_pos h4]; omega
theorem c73_ok : c73.ok Try.prog := mkCon_ok fun ⟨l, k⟩ hpre => c73_pc l k hpre
def mIsEntry (x : TEntry) : Bool := mIn x.From 0 999 && mIn x.To 0 999 && !decide (x.From = x.To) && mIn x.Cents 1 10000000 && mIn x.At 0 100000
/-- (loop.example/g03007/impl.Entry).accounts -/
noncomputable def c157 : Con := mkCon 157 false (α := TEntry) (fun x => (fun (x : TEntry) => [encTEntry x]) x) (fun _ => []) (fun x => (fun (x : TEntry) => True) x) (fun x => (fun (x : TEntry) => (.agg [dI x.From, dI x.To] : D)) x) (fun x => (fun (x : TEntry) => []) x)
@[simp] theorem c157_f : c157.f = 157 := rfl
@[simp] theorem c157_own : c157.own = false := rfl
theorem c157_inj : ∀ u_ v_ : TEntry, ((fun x => (fun (x : TEntry) => [encTEntry x]) x) u_).map nz = ((fun x => (fun (x : TEntry) => [encTEntry x]) x) v_).map nz → u_ = v_ := by
  intro u_ v_ h
  obtain ⟨x_From, x_To, x_Cents, x_At⟩ := u_
  obtain ⟨x_From', x_To', x_Cents', x_At'⟩ := v_
  simp [nz_lit, nz1_lit, nz_agg, nz_sl, nz1_sl, encTEntry] at h
  first | (simp [h]; done) | (obtain ⟨⟩ := h; simp_all; done) | simp_all
@[simp] theorem c157_fn (x_From : Int) (x_To : Int) (x_Cents : Int) (x_At : Int) : c157.fn [.agg [.lit (.int .i64 x_From), .lit (.int .i64 x_To), .lit (.int .i64 x_Cents), .lit (.int .i64 x_At)]] [] = some ((fun (x : TEntry) => True) ⟨x_From, x_To, x_Cents, x_At⟩, (fun (x : TEntry) => (.agg [dI x.From, dI x.To] : D)) ⟨x_From, x_To, x_Cents, x_At⟩, (fun (x : TEntry) => []) ⟨x_From, x_To, x_Cents, x_At⟩) :=
  mkCon_fn (fun x y h _ => c157_inj x y h) (⟨x_From, x_To, x_Cents, x_At⟩ : TEntry) (by simp [nz, nz1, ML_nil, encTEntry]) rfl
theorem c157_pc (x : TEntry) : PCo Try.prog 157 [encTEntry x] (Tab.of []) (.agg [dI x.From, dI x.To]) (Tab.of []) := by
  obtain ⟨x_From, x_To, x_Cents, x_At⟩ := x
  refine pco_of_run [] (E := ⟨[], []⟩) (m := false) (base := 0) Env.ok_nil G_ok mix 300 6 Try.func157 (by kernel_rfl) rfl (by kernel_rfl) (by kernel_rfl) rfl ?_
  simp [Try.f157]
  all_goals first | omega | (rw [Bool.eq_iff_iff]; simp; omega) | grind
theorem c157_ok : c157.ok Try.prog := mkCon_ok fun x hpre => c157_pc x
/-- loop.example/g03007/impl.isEntry -/
noncomputable def c151 : Con := mkCon 151 false (α := TEntry) (fun x => (fun (x : TEntry) => [encTEntry x]) x) (fun _ => []) (fun x => (fun (x : TEntry) => True) x) (fun x => (fun (x : TEntry) => (dB (mIsEntry x) : D)) x) (fun x => (fun (x : TEntry) => []) x)
@[simp] theorem c151_f : c151.f = 151 := rfl
@[simp] theorem c151_own : c151.own = false := rfl
theorem c151_inj : ∀ u_ v_ : TEntry, ((fun x => (fun (x : TEntry) => [encTEntry x]) x) u_).map nz = ((fun x => (fun (x : TEntry) => [encTEntry x]) x) v_).map nz → u_ = v_ := by
  intro u_ v_ h
  obtain ⟨x_From, x_To, x_Cents, x_At⟩ := u_
  obtain ⟨x_From', x_To', x_Cents', x_At'⟩ := v_
  simp [nz_lit, nz1_lit, nz_agg, nz_sl, nz1_sl, encTEntry] at h
  first | (simp [h]; done) | (obtain ⟨⟩ := h; simp_all; done) | simp_all
@[simp] theorem c151_fn (x_From : Int) (x_To : Int) (x_Cents : Int) (x_At : Int) : c151.fn [.agg [.lit (.int .i64 x_From), .lit (.int .i64 x_To), .lit (.int .i64 x_Cents), .lit (.int .i64 x_At)]] [] = some ((fun (x : TEntry) => True) ⟨x_From, x_To, x_Cents, x_At⟩, (fun (x : TEntry) => (dB (mIsEntry x) : D)) ⟨x_From, x_To, x_Cents, x_At⟩, (fun (x : TEntry) => []) ⟨x_From, x_To, x_Cents, x_At⟩) :=
  mkCon_fn (fun x y h _ => c151_inj x y h) (⟨x_From, x_To, x_Cents, x_At⟩ : TEntry) (by simp [nz, nz1, ML_nil, encTEntry]) rfl
theorem c151_pc (x : TEntry) : PCo Try.prog 151 [encTEntry x] (Tab.of []) (dB (mIsEntry x)) (Tab.of []) := by
  obtain ⟨x_From, x_To, x_Cents, x_At⟩ := x
  refine pco_of_run [] (E := ⟨[c117, c157], []⟩) (m := false) (base := 0) (Env.ok_cons c117_ok (Env.ok_cons c157_ok Env.ok_nil)) G_ok mix 300 6 Try.func151 (by kernel_rfl) rfl (by kernel_rfl) (by kernel_rfl) rfl ?_
  simp [Try.f151]
  refine loop_unroll 400 ?_
  simp [mIsEntry]
  first | done | grind
theorem c151_ok : c151.ok Try.prog := mkCon_ok fun x hpre => c151_pc x
def upFrom : Int → List TEntry → Bool
  | _, [] => true
  | e, x :: r => mIsEntry x && decide (e ≤ x.At) && upFrom x.At r
theorem upFrom_at {e : Int} {l : List TEntry} {p : Nat} (h : p < l.length) : upFrom e (l.drop p) = (mIsEntry (l[p]?.getD default) && decide (e ≤ (l[p]?.getD default).At) && upFrom (l[p]?.getD default).At (l.drop (p + 1))) := by
  rw [drop_at (d := default) h, upFrom]
theorem upFrom_end {e : Int} {l : List TEntry} {p : Nat} (h : l.length ≤ p) : upFrom e (l.drop p) = true := by
  rw [List.drop_eq_nil_of_le h, upFrom]
def mAreEntries (l : List TEntry) : Bool := decide (l.length ≤ 100) && upFrom 0 l
/-- loop.example/g03007/impl.AreEntries -/
noncomputable def c123 : Con := mkCon 123 false (α := (List TEntry)) (fun x => (fun (l : List TEntry) => [encLTEntry l]) x) (fun _ => []) (fun x => (fun (l : List TEntry) => l.length ≤ 1099511627776) x) (fun x => (fun (l : List TEntry) => (dB (mAreEntries l) : D)) x) (fun x => (fun (l : List TEntry) => []) x)
@[simp] theorem c123_f : c123.f = 123 := rfl
@[simp] theorem c123_own : c123.own = false := rfl
theorem c123_inj : ∀ u_ v_ : (List TEntry), ((fun x => (fun (l : List TEntry) => [encLTEntry l]) x) u_).map nz = ((fun x => (fun (l : List TEntry) => [encLTEntry l]) x) v_).map nz → u_ = v_ := by
  intro u_ v_ h
  obtain l := u_
  obtain l' := v_
  simp [nz_lit, nz1_lit, nz_agg, nz_sl, nz1_sl, encLTEntry] at h
  first | (simp [h]; done) | (obtain ⟨⟩ := h; simp_all; done) | simp_all
@[simp] theorem c123_fn (l : List TEntry) : c123.fn [.sl false 4 yTEntry (ML encTEntry l)] [] = some ((fun (l : List TEntry) => l.length ≤ 1099511627776) l, (fun (l : List TEntry) => (dB (mAreEntries l) : D)) l, (fun (l : List TEntry) => []) l) :=
  mkCon_fn (fun x y h _ => c123_inj x y h) (l : (List TEntry)) (by simp [nz, nz1, ML_nil, encLTEntry]) rfl
@[simp] theorem c123_fn1 (s_l : Nat) (z_l : D) : c123.fn [.sl false s_l z_l []] [] = some ((fun (l : List TEntry) => l.length ≤ 1099511627776) [], (fun (l : List TEntry) => (dB (mAreEntries l) : D)) [], (fun (l : List TEntry) => []) []) :=
  mkCon_fn (fun x y h _ => c123_inj x y h) ([] : (List TEntry)) (by simp [nz, nz1, ML_nil, encLTEntry]) rfl
theorem c123_pc (l : List TEntry) (hpre : l.length ≤ 1099511627776) : PCo Try.prog 123 [encLTEntry l] (Tab.of []) (dB (mAreEntries l)) (Tab.of []) := by
  refine pco_of_run [] (E := ⟨[c151], []⟩) (m := false) (base := 0) (Env.ok_cons c151_ok Env.ok_nil) G_ok mix 300 6 Try.func123 (by kernel_rfl) rfl (by kernel_rfl) (by kernel_rfl) rfl ?_
  simp [Try.f123]
  refine ⟨fun h => by simp [mAreEntries]; omega, fun h0 => ?_⟩
  have h0' : l.length ≤ 100 := by omega
  refine loop_inv (fun p : Nat × Int => p.1 ≤ l.length ∧ mAreEntries l = upFrom p.2 (l.drop p.1)) (fun p => [(3, dI p.2), (9, encLTEntry l), (10, dI l.length), (11, dI p.1)]) (fun _ => []) 1 (fun p => l.length - p.1) (0, 0) 400 (by simp) (by simp [mAreEntries, h0']) (by simp) ?_
  intro ⟨p, e⟩ ⟨hp, hi⟩
  simp at hp hi ⊢
  refine ⟨fun hlt => ?_, fun hge => ?_⟩
  · rw [upFrom_at hlt] at hi
    repeat' (first | omega | refine And.intro ?_ ?_ | intro _)
    all_goals first | exact Again.mk (p + 1, (l[p]?.getD default).At) ⟨by simp; omega, by simp only []; rw [hi]; grind⟩ (by simp) (by first | omega | (simp; omega)) | (rw [hi]; grind)
  · rw [hi, upFrom_end hge]
theorem c123_ok : c123.ok Try.prog := mkCon_ok fun l hpre => c123_pc l hpre
def prevA (l : List TEntry) (p : Nat) : Int := if p = 0 then 0 else (l[p - 1]?.getD default).At
/-- loop.example/g03007/spec.AreEntries -/
noncomputable def c121 : Con := mkCon 121 false (α := (List TEntry)) (fun x => (fun (l : List TEntry) => [encLTEntry l]) x) (fun _ => []) (fun x => (fun (l : List TEntry) => l.length ≤ 1099511627776) x) (fun x => (fun (l : List TEntry) => (dB (mAreEntries l) : D)) x) (fun x => (fun (l : List TEntry) => []) x)
@[simp] theorem c121_f : c121.f = 121 := rfl
@[simp] theorem c121_own : c121.own = false := rfl
theorem c121_inj : ∀ u_ v_ : (List TEntry), ((fun x => (fun (l : List TEntry) => [encLTEntry l]) x) u_).map nz = ((fun x => (fun (l : List TEntry) => [encLTEntry l]) x) v_).map nz → u_ = v_ := by
  intro u_ v_ h
  obtain l := u_
  obtain l' := v_
  simp [nz_lit, nz1_lit, nz_agg, nz_sl, nz1_sl, encLTEntry] at h
  first | (simp [h]; done) | (obtain ⟨⟩ := h; simp_all; done) | simp_all
@[simp] theorem c121_fn (l : List TEntry) : c121.fn [.sl false 4 yTEntry (ML encTEntry l)] [] = some ((fun (l : List TEntry) => l.length ≤ 1099511627776) l, (fun (l : List TEntry) => (dB (mAreEntries l) : D)) l, (fun (l : List TEntry) => []) l) :=
  mkCon_fn (fun x y h _ => c121_inj x y h) (l : (List TEntry)) (by simp [nz, nz1, ML_nil, encLTEntry]) rfl
@[simp] theorem c121_fn1 (s_l : Nat) (z_l : D) : c121.fn [.sl false s_l z_l []] [] = some ((fun (l : List TEntry) => l.length ≤ 1099511627776) [], (fun (l : List TEntry) => (dB (mAreEntries l) : D)) [], (fun (l : List TEntry) => []) []) :=
  mkCon_fn (fun x y h _ => c121_inj x y h) ([] : (List TEntry)) (by simp [nz, nz1, ML_nil, encLTEntry]) rfl
theorem c121_pc (l : List TEntry) (hpre : l.length ≤ 1099511627776) : PCo Try.prog 121 [encLTEntry l] (Tab.of []) (dB (mAreEntries l)) (Tab.of []) := by
  refine pco_of_run [] (E := ⟨[c116], []⟩) (m := false) (base := 0) (Env.ok_cons c116_ok Env.ok_nil) G_ok mix 300 6 Try.func121 (by kernel_rfl) rfl (by kernel_rfl) (by kernel_rfl) rfl ?_
  simp [Try.f121]
  refine loop_inv (fun p : Nat => p ≤ l.length ∧ upFrom 0 l = upFrom (prevA l p) (l.drop p)) (fun p => [(0, encLTEntry l), (3, dI p)]) (fun _ => []) 1 (fun p => l.length - p) 0 400 (by simp) (by simp [prevA]) (by simp) ?_
  intro p ⟨hp, hi⟩
  simp
  refine ⟨fun hlt => ?_, fun hge => ?_⟩
  · rw [upFrom_at hlt] at hi
    have e1 : prevA l (p + 1) = (l[p]?.getD default).At := by simp [prevA]
    have e2 : mIsEntry (l[p]?.getD default) = (mIn (l[p]?.getD default).From 0 999 && mIn (l[p]?.getD default).To 0 999 && !decide ((l[p]?.getD default).From = (l[p]?.getD default).To) && mIn (l[p]?.getD default).Cents 1 10000000 && mIn (l[p]?.getD default).At 0 100000) := rfl
    have e3 : prevA l p = if p = 0 then 0 else (l[p - 1]?.getD default).At := rfl
    have e4 := mIn_iff (x := (l[p]?.getD default).At) (y := 0) (z := 100000)
    repeat' (first | omega | refine And.intro ?_ ?_ | intro _)
    all_goals first | exact Again.mk (p + 1) ⟨by omega, by rw [hi, e1]; grind⟩ (by simp) (by first | omega | (simp; omega)) | (rw [mAreEntries, hi]; grind)
  · rw [mAreEntries, hi, upFrom_end hge]; simp; omega
theorem c121_ok : c121.ok Try.prog := mkCon_ok fun l hpre => c121_pc l hpre
end Go.Proofs.Ytkccphdoolpmaaa
