/- Contracts of the functions that the laws run. -/
import Derived.Test.Ytdiajaijdkohlaaasc9
import Derived.Test.Ytdiajaijdkohlaacut
import Derived.Test.YtdiajaijdkohlaaEngB
namespace Go.Proofs.Ytdiajaijdkohlaa
open Go Go.Eng
set_option linter.unusedSimpArgs false
set_option linter.unusedVariables false
set_option maxRecDepth 10000
set_option maxHeartbeats 1000000
/-- loop.example/g03007/laws.toEntry -/
noncomputable def c71 : Con := mkCon 71 false (α := TEntry) (fun x => (fun (a : TEntry) => [encTEntry a]) x) (fun _ => []) (fun x => (fun (a : TEntry) => True) x) (fun x => (fun (a : TEntry) => (encTEntry a : D)) x) (fun x => (fun (a : TEntry) => []) x)
@[simp] theorem c71_f : c71.f = 71 := rfl
@[simp] theorem c71_own : c71.own = false := rfl
theorem c71_inj : ∀ u_ v_ : TEntry, ((fun x => (fun (a : TEntry) => [encTEntry a]) x) u_).map nz = ((fun x => (fun (a : TEntry) => [encTEntry a]) x) v_).map nz → u_ = v_ := by
  intro u_ v_ h
  obtain ⟨a_From, a_To, a_Cents, a_At⟩ := u_
  obtain ⟨a_From', a_To', a_Cents', a_At'⟩ := v_
  simp [nz_lit, nz1_lit, nz_agg, nz_sl, nz1_sl, encTEntry] at h
  first | (simp [h]; done) | (obtain ⟨⟩ := h; simp_all; done) | simp_all
@[simp] theorem c71_fn (a_From : Int) (a_To : Int) (a_Cents : Int) (a_At : Int) : c71.fn [.agg [.lit (.int .i64 a_From), .lit (.int .i64 a_To), .lit (.int .i64 a_Cents), .lit (.int .i64 a_At)]] [] = some ((fun (a : TEntry) => True) ⟨a_From, a_To, a_Cents, a_At⟩, (fun (a : TEntry) => (encTEntry a : D)) ⟨a_From, a_To, a_Cents, a_At⟩, (fun (a : TEntry) => []) ⟨a_From, a_To, a_Cents, a_At⟩) :=
  mkCon_fn (fun x y h _ => c71_inj x y h) (⟨a_From, a_To, a_Cents, a_At⟩ : TEntry) (by simp [nz, nz1, ML_nil, encTEntry]) rfl
theorem c71_pc (a : TEntry) : PCo Try.prog 71 [encTEntry a] (Tab.of []) (encTEntry a) (Tab.of []) := by
  obtain ⟨a_From, a_To, a_Cents, a_At⟩ := a
  refine pco_of_run [] (E := ⟨[], [], []⟩) (m := false) (base := 0) Env.ok_nil G_ok mix 300 6 Try.func71 (by kernel_rfl) rfl (by kernel_rfl) (by kernel_rfl) rfl ?_
  simp [Try.f71]
  all_goals first | omega | (rw [Bool.eq_iff_iff]; simp; omega) | grind
theorem c71_ok : c71.ok Try.prog := mkCon_ok fun a hpre => c71_pc a
/-- loop.example/g03007/laws.eqEntry -/
noncomputable def c73 : Con := mkCon 73 false (α := TEntry × TEntry) (fun x => (fun (a : TEntry) (b : TEntry) => [encTEntry a, encTEntry b]) x.1 x.2) (fun _ => []) (fun x => (fun (a : TEntry) (b : TEntry) => True) x.1 x.2) (fun x => (fun (a : TEntry) (b : TEntry) => (dB (decide (a = b)) : D)) x.1 x.2) (fun x => (fun (a : TEntry) (b : TEntry) => []) x.1 x.2)
@[simp] theorem c73_f : c73.f = 73 := rfl
@[simp] theorem c73_own : c73.own = false := rfl
theorem c73_inj : ∀ u_ v_ : TEntry × TEntry, ((fun x => (fun (a : TEntry) (b : TEntry) => [encTEntry a, encTEntry b]) x.1 x.2) u_).map nz = ((fun x => (fun (a : TEntry) (b : TEntry) => [encTEntry a, encTEntry b]) x.1 x.2) v_).map nz → u_ = v_ := by
  intro u_ v_ h
  obtain ⟨⟨a_From, a_To, a_Cents, a_At⟩, ⟨b_From, b_To, b_Cents, b_At⟩⟩ := u_
  obtain ⟨⟨a_From', a_To', a_Cents', a_At'⟩, ⟨b_From', b_To', b_Cents', b_At'⟩⟩ := v_
  simp [nz_lit, nz1_lit, nz_agg, nz_sl, nz1_sl, encTEntry] at h
  first | (simp [h]; done) | (obtain ⟨⟩ := h; simp_all; done) | simp_all
@[simp] theorem c73_fn (a_From : Int) (a_To : Int) (a_Cents : Int) (a_At : Int) (b_From : Int) (b_To : Int) (b_Cents : Int) (b_At : Int) : c73.fn [.agg [.lit (.int .i64 a_From), .lit (.int .i64 a_To), .lit (.int .i64 a_Cents), .lit (.int .i64 a_At)], .agg [.lit (.int .i64 b_From), .lit (.int .i64 b_To), .lit (.int .i64 b_Cents), .lit (.int .i64 b_At)]] [] = some ((fun (a : TEntry) (b : TEntry) => True) ⟨a_From, a_To, a_Cents, a_At⟩ ⟨b_From, b_To, b_Cents, b_At⟩, (fun (a : TEntry) (b : TEntry) => (dB (decide (a = b)) : D)) ⟨a_From, a_To, a_Cents, a_At⟩ ⟨b_From, b_To, b_Cents, b_At⟩, (fun (a : TEntry) (b : TEntry) => []) ⟨a_From, a_To, a_Cents, a_At⟩ ⟨b_From, b_To, b_Cents, b_At⟩) :=
  mkCon_fn (fun x y h _ => c73_inj x y h) ((⟨a_From, a_To, a_Cents, a_At⟩, ⟨b_From, b_To, b_Cents, b_At⟩) : TEntry × TEntry) (by simp [nz, nz1, ML_nil, encTEntry]) rfl
theorem c73_pc (a : TEntry) (b : TEntry) : PCo Try.prog 73 [encTEntry a, encTEntry b] (Tab.of []) (dB (decide (a = b))) (Tab.of []) := by
  obtain ⟨a_From, a_To, a_Cents, a_At⟩ := a
  obtain ⟨b_From, b_To, b_Cents, b_At⟩ := b
  refine pco_of_run [] (E := ⟨[], [], []⟩) (m := false) (base := 0) Env.ok_nil G_ok mix 300 6 Try.func73 (by kernel_rfl) rfl (by kernel_rfl) (by kernel_rfl) rfl ?_
  simp [Try.f73]
  all_goals first | omega | (rw [Bool.eq_iff_iff]; simp; omega) | grind
theorem c73_ok : c73.ok Try.prog := mkCon_ok fun ⟨a, b⟩ hpre => c73_pc a b
/-- loop.example/g03007/laws.szEntryS -/
noncomputable def c33 : Con := mkCon 33 false (α := (List TEntry) × Int) (fun x => (fun (l : List TEntry) (left : Int) => [encLTEntry l, dI left]) x.1 x.2) (fun _ => []) (fun x => (fun (l : List TEntry) (left : Int) => l.length ≤ maxLen ∧ 0 ≤ left ∧ left ≤ 1099511627776) x.1 x.2) (fun x => (fun (l : List TEntry) (left : Int) => (dI (if left - l.length < 0 then -1 else left - l.length) : D)) x.1 x.2) (fun x => (fun (l : List TEntry) (left : Int) => []) x.1 x.2)
@[simp] theorem c33_f : c33.f = 33 := rfl
@[simp] theorem c33_own : c33.own = false := rfl
theorem c33_inj : ∀ u_ v_ : (List TEntry) × Int, ((fun x => (fun (l : List TEntry) (left : Int) => [encLTEntry l, dI left]) x.1 x.2) u_).map nz = ((fun x => (fun (l : List TEntry) (left : Int) => [encLTEntry l, dI left]) x.1 x.2) v_).map nz → u_ = v_ := by
  intro u_ v_ h
  obtain ⟨l, left⟩ := u_
  obtain ⟨l', left'⟩ := v_
  simp [nz_lit, nz1_lit, nz_agg, nz_sl, nz1_sl, encLTEntry] at h
  first | (simp [h]; done) | (obtain ⟨⟩ := h; simp_all; done) | simp_all
@[simp] theorem c33_fn (l : List TEntry) (left : Int) : c33.fn [.sl false 4 yTEntry (ML encTEntry l), .lit (.int .i64 left)] [] = some ((fun (l : List TEntry) (left : Int) => l.length ≤ maxLen ∧ 0 ≤ left ∧ left ≤ 1099511627776) l left, (fun (l : List TEntry) (left : Int) => (dI (if left - l.length < 0 then -1 else left - l.length) : D)) l left, (fun (l : List TEntry) (left : Int) => []) l left) :=
  mkCon_fn (fun x y h _ => c33_inj x y h) ((l, left) : (List TEntry) × Int) (by simp [nz, nz1, ML_nil, encLTEntry]) rfl
@[simp] theorem c33_fn1 (s_l : Nat) (z_l : D) (left : Int) : c33.fn [.sl false s_l z_l [], .lit (.int .i64 left)] [] = some ((fun (l : List TEntry) (left : Int) => l.length ≤ maxLen ∧ 0 ≤ left ∧ left ≤ 1099511627776) [] left, (fun (l : List TEntry) (left : Int) => (dI (if left - l.length < 0 then -1 else left - l.length) : D)) [] left, (fun (l : List TEntry) (left : Int) => []) [] left) :=
  mkCon_fn (fun x y h _ => c33_inj x y h) (([], left) : (List TEntry) × Int) (by simp [nz, nz1, ML_nil, encLTEntry]) rfl
theorem c33_pc (l : List TEntry) (left : Int) (hpre : l.length ≤ maxLen ∧ 0 ≤ left ∧ left ≤ 1099511627776) : PCo Try.prog 33 [encLTEntry l, dI left] (Tab.of []) (dI (if left - l.length < 0 then -1 else left - l.length)) (Tab.of []) := by
  refine pco_of_run [] (E := ⟨[], [], []⟩) (m := false) (base := 0) Env.ok_nil G_ok mix 300 6 Try.func33 (by kernel_rfl) rfl (by kernel_rfl) (by kernel_rfl) rfl ?_
  simp [Try.f33]
  simp [maxLen] at hpre
  all_goals omega
theorem c33_ok : c33.ok Try.prog := mkCon_ok fun ⟨l, left⟩ hpre => c33_pc l left hpre
/-- loop.example/g03007/laws.toEntryS -/
noncomputable def c35 : Con := mkCon 35 false (α := (List TEntry)) (fun x => (fun (l : List TEntry) => [encLTEntry l]) x) (fun _ => []) (fun x => (fun (l : List TEntry) => l.length ≤ 1099511627776) x) (fun x => (fun (l : List TEntry) => (.own (0, 1) 4 0 l.length : D)) x) (fun x => (fun (l : List TEntry) => [((0, 1), .arr false 4 yTEntry (ML encTEntry l))]) x)
@[simp] theorem c35_f : c35.f = 35 := rfl
@[simp] theorem c35_own : c35.own = false := rfl
theorem c35_inj : ∀ u_ v_ : (List TEntry), ((fun x => (fun (l : List TEntry) => [encLTEntry l]) x) u_).map nz = ((fun x => (fun (l : List TEntry) => [encLTEntry l]) x) v_).map nz → u_ = v_ := by
  intro u_ v_ h
  obtain l := u_
  obtain l' := v_
  simp [nz_lit, nz1_lit, nz_agg, nz_sl, nz1_sl, encLTEntry] at h
  first | (simp [h]; done) | (obtain ⟨⟩ := h; simp_all; done) | simp_all
@[simp] theorem c35_fn (l : List TEntry) : c35.fn [.sl false 4 yTEntry (ML encTEntry l)] [] = some ((fun (l : List TEntry) => l.length ≤ 1099511627776) l, (fun (l : List TEntry) => (.own (0, 1) 4 0 l.length : D)) l, (fun (l : List TEntry) => [((0, 1), .arr false 4 yTEntry (ML encTEntry l))]) l) :=
  mkCon_fn (fun x y h _ => c35_inj x y h) (l : (List TEntry)) (by simp [nz, nz1, ML_nil, encLTEntry]) rfl
@[simp] theorem c35_fn1 (s_l : Nat) (z_l : D) : c35.fn [.sl false s_l z_l []] [] = some ((fun (l : List TEntry) => l.length ≤ 1099511627776) [], (fun (l : List TEntry) => (.own (0, 1) 4 0 l.length : D)) [], (fun (l : List TEntry) => [((0, 1), .arr false 4 yTEntry (ML encTEntry l))]) []) :=
  mkCon_fn (fun x y h _ => c35_inj x y h) ([] : (List TEntry)) (by simp [nz, nz1, ML_nil, encLTEntry]) rfl
theorem c35_pc (l : List TEntry) (hpre : l.length ≤ 1099511627776) : PCo Try.prog 35 [encLTEntry l] (Tab.of []) (.own (0, 1) 4 0 l.length) (Tab.of [((0, 1), .arr false 4 yTEntry (ML encTEntry l))]) := by
  refine pco_of_run [] (E := ⟨[c71], [], []⟩) (m := false) (base := 0) (Env.ok_cons c71_ok Env.ok_nil) G_ok mix 300 6 Try.func35 (by kernel_rfl) rfl (by kernel_rfl) (by kernel_rfl) rfl ?_
  simp [Try.f35]
  refine ⟨by omega, ?_⟩
  refine loop_inv (fun p : Nat => p ≤ l.length) (fun p => [(0, encLTEntry l), (3, .own (0, 1) 4 0 l.length), (4, dI p)]) (fun p => [((0, 1), .arr false 4 yTEntry (ML encTEntry (l.take p ++ List.replicate (l.length - p) ⟨0, 0, 0, 0⟩)))]) 2 (fun p => l.length - p) 0 100 (by simp) (by simp) (by first | (simp; done) | (simp; simp only [ML, List.map_replicate]; rfl)) ?_
  intro p hp
  simp
  refine ⟨fun hlt => ⟨by omega, by omega, Again.mk (p + 1) (by omega) (by simp [fill_step hlt]) (by first | omega | (simp; omega))⟩, fun hge => ?_⟩
  have : p = l.length := by omega
  subst this
  simp
theorem c35_ok : c35.ok Try.prog := mkCon_ok fun l hpre => c35_pc l hpre
/-- loop.example/g03007/laws.eqEntryS -/
noncomputable def c37 : Con := mkCon 37 false (α := (List TEntry) × (List TEntry)) (fun x => (fun (a : List TEntry) (b : List TEntry) => [encLTEntry a, encLTEntry b]) x.1 x.2) (fun _ => []) (fun x => (fun (a : List TEntry) (b : List TEntry) => a.length ≤ 1099511627776 ∧ b.length ≤ 1099511627776) x.1 x.2) (fun x => (fun (a : List TEntry) (b : List TEntry) => (dB (decide (a = b)) : D)) x.1 x.2) (fun x => (fun (a : List TEntry) (b : List TEntry) => []) x.1 x.2)
@[simp] theorem c37_f : c37.f = 37 := rfl
@[simp] theorem c37_own : c37.own = false := rfl
theorem c37_inj : ∀ u_ v_ : (List TEntry) × (List TEntry), ((fun x => (fun (a : List TEntry) (b : List TEntry) => [encLTEntry a, encLTEntry b]) x.1 x.2) u_).map nz = ((fun x => (fun (a : List TEntry) (b : List TEntry) => [encLTEntry a, encLTEntry b]) x.1 x.2) v_).map nz → u_ = v_ := by
  intro u_ v_ h
  obtain ⟨a, b⟩ := u_
  obtain ⟨a', b'⟩ := v_
  simp [nz_lit, nz1_lit, nz_agg, nz_sl, nz1_sl, encLTEntry] at h
  first | (simp [h]; done) | (obtain ⟨⟩ := h; simp_all; done) | simp_all
@[simp] theorem c37_fn (a : List TEntry) (b : List TEntry) : c37.fn [.sl false 4 yTEntry (ML encTEntry a), .sl false 4 yTEntry (ML encTEntry b)] [] = some ((fun (a : List TEntry) (b : List TEntry) => a.length ≤ 1099511627776 ∧ b.length ≤ 1099511627776) a b, (fun (a : List TEntry) (b : List TEntry) => (dB (decide (a = b)) : D)) a b, (fun (a : List TEntry) (b : List TEntry) => []) a b) :=
  mkCon_fn (fun x y h _ => c37_inj x y h) ((a, b) : (List TEntry) × (List TEntry)) (by simp [nz, nz1, ML_nil, encLTEntry]) rfl
@[simp] theorem c37_fn1 (s_a : Nat) (z_a : D) (b : List TEntry) : c37.fn [.sl false s_a z_a [], .sl false 4 yTEntry (ML encTEntry b)] [] = some ((fun (a : List TEntry) (b : List TEntry) => a.length ≤ 1099511627776 ∧ b.length ≤ 1099511627776) [] b, (fun (a : List TEntry) (b : List TEntry) => (dB (decide (a = b)) : D)) [] b, (fun (a : List TEntry) (b : List TEntry) => []) [] b) :=
  mkCon_fn (fun x y h _ => c37_inj x y h) (([], b) : (List TEntry) × (List TEntry)) (by simp [nz, nz1, ML_nil, encLTEntry]) rfl
@[simp] theorem c37_fn2 (a : List TEntry) (s_b : Nat) (z_b : D) : c37.fn [.sl false 4 yTEntry (ML encTEntry a), .sl false s_b z_b []] [] = some ((fun (a : List TEntry) (b : List TEntry) => a.length ≤ 1099511627776 ∧ b.length ≤ 1099511627776) a [], (fun (a : List TEntry) (b : List TEntry) => (dB (decide (a = b)) : D)) a [], (fun (a : List TEntry) (b : List TEntry) => []) a []) :=
  mkCon_fn (fun x y h _ => c37_inj x y h) ((a, []) : (List TEntry) × (List TEntry)) (by simp [nz, nz1, ML_nil, encLTEntry]) rfl
@[simp] theorem c37_fn3 (s_a : Nat) (z_a : D) (s_b : Nat) (z_b : D) : c37.fn [.sl false s_a z_a [], .sl false s_b z_b []] [] = some ((fun (a : List TEntry) (b : List TEntry) => a.length ≤ 1099511627776 ∧ b.length ≤ 1099511627776) [] [], (fun (a : List TEntry) (b : List TEntry) => (dB (decide (a = b)) : D)) [] [], (fun (a : List TEntry) (b : List TEntry) => []) [] []) :=
  mkCon_fn (fun x y h _ => c37_inj x y h) (([], []) : (List TEntry) × (List TEntry)) (by simp [nz, nz1, ML_nil, encLTEntry]) rfl
theorem c37_pc (a : List TEntry) (b : List TEntry) (hpre : a.length ≤ 1099511627776 ∧ b.length ≤ 1099511627776) : PCo Try.prog 37 [encLTEntry a, encLTEntry b] (Tab.of []) (dB (decide (a = b))) (Tab.of []) := by
  refine pco_of_run [] (E := ⟨[c73], [], []⟩) (m := false) (base := 0) (Env.ok_cons c73_ok Env.ok_nil) G_ok mix 300 6 Try.func37 (by kernel_rfl) rfl (by kernel_rfl) (by kernel_rfl) rfl ?_
  simp [Try.f37]
  obtain ⟨pre1, pre2⟩ := hpre
  refine ⟨fun h => ?_, fun h => by intro e; subst e; exact absurd rfl h⟩
  refine loop_inv (fun p : Nat => p ≤ a.length ∧ a.take p = b.take p) (fun p => [(0, encLTEntry a), (1, encLTEntry b), (5, dI p)]) (fun _ => []) 1 (fun p => a.length - p) 0 100 (by simp) (by simp) (by simp) ?_
  intro p ⟨hp, hi⟩
  simp
  refine ⟨fun hlt => ⟨by omega, fun h2 => ⟨by omega, Again.mk (p + 1) ⟨by omega, take_eq_step hi (by omega) (by omega) h2⟩ (by simp) (by first | omega | (simp; omega))⟩, fun h2 => by intro e; subst e; exact absurd rfl h2⟩, fun hge => ?_⟩
  exact take_eq_full hi (by omega) (by omega)
theorem c37_ok : c37.ok Try.prog := mkCon_ok fun ⟨a, b⟩ hpre => c37_pc a b hpre
abbrev mk_TEntry : Int → TEntry := fun n => ⟨n, n + 1, n + 2, n + 3⟩
/-- loop.example/g03007/laws.markEntryS -/
noncomputable def c38 : Con := mkCon 38 true (α := (List TEntry) × Int) (fun x => (fun (l : List TEntry) (k : Int) => ([.own (0, 0) 4 0 l.length, dI k] : List D)) x.1 x.2) (fun x => (fun (l : List TEntry) (k : Int) => ([((0, 0), .arr false 4 yTEntry (ML encTEntry l))] : List (Nm × OO))) x.1 x.2) (fun x => (fun (l : List TEntry) (k : Int) => l.length ≤ 1099511627776 ∧ 0 ≤ k ∧ k ≤ 1152921504606846976) x.1 x.2) (fun x => (fun (l : List TEntry) (k : Int) => (dI (k + 4 * l.length) : D)) x.1 x.2) (fun x => (fun (l : List TEntry) (k : Int) => ([((0, 0), .arr false 4 yTEntry (ML encTEntry (mkL mk_TEntry 4 k l.length)))] : List (Nm × OO))) x.1 x.2)
@[simp] theorem c38_f : c38.f = 38 := rfl
@[simp] theorem c38_own : c38.own = true := rfl
theorem c38_inj : ∀ u_ v_ : (List TEntry) × Int, ((fun x => (fun (l : List TEntry) (k : Int) => ([.own (0, 0) 4 0 l.length, dI k] : List D)) x.1 x.2) u_).map nz = ((fun x => (fun (l : List TEntry) (k : Int) => ([.own (0, 0) 4 0 l.length, dI k] : List D)) x.1 x.2) v_).map nz → (fun x => (fun (l : List TEntry) (k : Int) => ([((0, 0), .arr false 4 yTEntry (ML encTEntry l))] : List (Nm × OO))) x.1 x.2) u_ = (fun x => (fun (l : List TEntry) (k : Int) => ([((0, 0), .arr false 4 yTEntry (ML encTEntry l))] : List (Nm × OO))) x.1 x.2) v_ → u_ = v_ := by
  intro u_ v_ h h2_
  obtain ⟨l, k⟩ := u_
  obtain ⟨l', k'⟩ := v_
  simp [nz_lit, nz1_lit, nz_agg, nz_sl, nz1_sl, nz_sx, nz_el, nz1_el, nz_own, nz1_own, nz_ptr, nz_fn, nz_iface] at h h2_
  first | (simp [h, h2_]; done) | (obtain ⟨h3_, h4_⟩ := List.append_inj h2_ h.1; simp_all; done) | simp_all | grind
@[simp] theorem c38_fn (l : List TEntry) (k : Int) : c38.fn ([.own (0, 0) 4 0 l.length, dI k]) ([((0, 0), .arr false 4 yTEntry (ML encTEntry l))]) = some (l.length ≤ 1099511627776 ∧ 0 ≤ k ∧ k ≤ 1152921504606846976, dI (k + 4 * l.length), [((0, 0), .arr false 4 yTEntry (ML encTEntry (mkL mk_TEntry 4 k l.length)))]) :=
  mkCon_fn c38_inj ((l, k) : (List TEntry) × Int) rfl rfl
theorem c38_pc (l : List TEntry) (k : Int) (hpre : l.length ≤ 1099511627776 ∧ 0 ≤ k ∧ k ≤ 1152921504606846976) : PCo Try.prog 38 ([.own (0, 0) 4 0 l.length, dI k]) (Tab.of ([((0, 0), .arr false 4 yTEntry (ML encTEntry l))])) (dI (k + 4 * l.length)) (Tab.of ([((0, 0), .arr false 4 yTEntry (ML encTEntry (mkL mk_TEntry 4 k l.length)))])) := by
  refine pco_of_run [] (E := ⟨[], [], []⟩) (m := false) (base := 0) Env.ok_nil G_ok mix 300 6 Try.func38 (by kernel_rfl) rfl (by kernel_rfl) (by kernel_rfl) rfl ?_
  simp [Try.f38]
  obtain ⟨pre1, pre2, pre3⟩ := hpre
  refine loop_inv (fun p : Nat => p ≤ l.length) (fun p => [(0, .own (0, 0) 4 0 l.length), (1, dI (k + 4 * p)), (5, dI p)]) (fun p => [((0, 0), .arr false 4 yTEntry (ML encTEntry (mkL mk_TEntry 4 k p ++ l.drop p)))]) 2 (fun p => l.length - p) 0 100 (by simp) (by simp) (by simp) ?_
  intro p hp
  simp
  have hs : ∀ x, x = mk_TEntry (k + 4 * (p : Int)) → p < l.length → mkL mk_TEntry 4 k p ++ (l.drop p).set 0 x = mkL mk_TEntry 4 k (p + 1) ++ l.drop (p + 1) := fun x hx hlt => mark_step0 hlt hx
  refine ⟨fun hlt => ?_, fun hge => ?_⟩
  · repeat' (first | omega | refine And.intro ?_ ?_ | intro _)
    all_goals refine Again.mk (p + 1) (by omega) ?_ (by first | omega | (simp; omega))
    all_goals (rw [hs _ (by simp [mark_get0 hlt, mark_get hlt]; first | done | omega) hlt]; simp; omega)
  have : p = l.length := by omega
  subst this
  simp
  trace_state
theorem c38_ok : c38.ok Try.prog := mkCon_ok fun ⟨l, k⟩ hpre => c38_pc l k hpre
def accL (l : List TEntry) : List Int := l.flatMap fun x => [x.From, x.To]
theorem accL_at {l : List TEntry} {p : Nat} (h : p < l.length) : accL (l.take (p + 1)) = accL (l.take p) ++ [(l[p]?.getD default).From, (l[p]?.getD default).To] := by
  rw [take_at (d := default) h]; simp [accL]
theorem accL_len : ∀ (l : List TEntry), (accL l).length = 2 * l.length
  | [] => rfl
  | x :: l => by have := accL_len l; simp only [accL, List.flatMap_cons, List.length_append, List.length_cons] at this ⊢; simp at this ⊢; omega
/-- (loop.example/g03007/impl.Entry).accounts -/
noncomputable def c72 : Con := mkCon 72 false (α := TEntry) (fun x => (fun (x : TEntry) => [encTEntry x]) x) (fun _ => []) (fun x => (fun (x : TEntry) => True) x) (fun x => (fun (x : TEntry) => (.agg [dI x.From, dI x.To] : D)) x) (fun x => (fun (x : TEntry) => []) x)
@[simp] theorem c72_f : c72.f = 72 := rfl
@[simp] theorem c72_own : c72.own = false := rfl
theorem c72_inj : ∀ u_ v_ : TEntry, ((fun x => (fun (x : TEntry) => [encTEntry x]) x) u_).map nz = ((fun x => (fun (x : TEntry) => [encTEntry x]) x) v_).map nz → u_ = v_ := by
  intro u_ v_ h
  obtain ⟨x_From, x_To, x_Cents, x_At⟩ := u_
  obtain ⟨x_From', x_To', x_Cents', x_At'⟩ := v_
  simp [nz_lit, nz1_lit, nz_agg, nz_sl, nz1_sl, encTEntry] at h
  first | (simp [h]; done) | (obtain ⟨⟩ := h; simp_all; done) | simp_all
@[simp] theorem c72_fn (x_From : Int) (x_To : Int) (x_Cents : Int) (x_At : Int) : c72.fn [.agg [.lit (.int .i64 x_From), .lit (.int .i64 x_To), .lit (.int .i64 x_Cents), .lit (.int .i64 x_At)]] [] = some ((fun (x : TEntry) => True) ⟨x_From, x_To, x_Cents, x_At⟩, (fun (x : TEntry) => (.agg [dI x.From, dI x.To] : D)) ⟨x_From, x_To, x_Cents, x_At⟩, (fun (x : TEntry) => []) ⟨x_From, x_To, x_Cents, x_At⟩) :=
  mkCon_fn (fun x y h _ => c72_inj x y h) (⟨x_From, x_To, x_Cents, x_At⟩ : TEntry) (by simp [nz, nz1, ML_nil, encTEntry]) rfl
theorem c72_pc (x : TEntry) : PCo Try.prog 72 [encTEntry x] (Tab.of []) (.agg [dI x.From, dI x.To]) (Tab.of []) := by
  obtain ⟨x_From, x_To, x_Cents, x_At⟩ := x
  refine pco_of_run [] (E := ⟨[], [], []⟩) (m := false) (base := 0) Env.ok_nil G_ok mix 300 6 Try.func72 (by kernel_rfl) rfl (by kernel_rfl) (by kernel_rfl) rfl ?_
  simp [Try.f72]
  all_goals first | omega | (rw [Bool.eq_iff_iff]; simp; omega) | grind
theorem c72_ok : c72.ok Try.prog := mkCon_ok fun x hpre => c72_pc x
/-- loop.example/g03007/impl.AccountsOf -/
noncomputable def c36 : Con := mkCon 36 false (α := (List TEntry)) (fun x => (fun (l : List TEntry) => [encLTEntry l]) x) (fun _ => []) (fun x => (fun (l : List TEntry) => l.length ≤ 1048576) x) (fun x => (fun (l : List TEntry) => (.own (0, 1) 1 0 (mOnce (accL l) []).length : D)) x) (fun x => (fun (l : List TEntry) => [((0, 1), .arr false 1 (dI 0) (ML dI (mOnceT (accL l) [])))]) x)
@[simp] theorem c36_f : c36.f = 36 := rfl
@[simp] theorem c36_own : c36.own = false := rfl
theorem c36_inj : ∀ u_ v_ : (List TEntry), ((fun x => (fun (l : List TEntry) => [encLTEntry l]) x) u_).map nz = ((fun x => (fun (l : List TEntry) => [encLTEntry l]) x) v_).map nz → u_ = v_ := by
  intro u_ v_ h
  obtain l := u_
  obtain l' := v_
  simp [nz_lit, nz1_lit, nz_agg, nz_sl, nz1_sl, encLTEntry] at h
  first | (simp [h]; done) | (obtain ⟨⟩ := h; simp_all; done) | simp_all
@[simp] theorem c36_fn (l : List TEntry) : c36.fn [.sl false 4 yTEntry (ML encTEntry l)] [] = some ((fun (l : List TEntry) => l.length ≤ 1048576) l, (fun (l : List TEntry) => (.own (0, 1) 1 0 (mOnce (accL l) []).length : D)) l, (fun (l : List TEntry) => [((0, 1), .arr false 1 (dI 0) (ML dI (mOnceT (accL l) [])))]) l) :=
  mkCon_fn (fun x y h _ => c36_inj x y h) (l : (List TEntry)) (by simp [nz, nz1, ML_nil, encLTEntry]) rfl
@[simp] theorem c36_fn1 (s_l : Nat) (z_l : D) : c36.fn [.sl false s_l z_l []] [] = some ((fun (l : List TEntry) => l.length ≤ 1048576) [], (fun (l : List TEntry) => (.own (0, 1) 1 0 (mOnce (accL l) []).length : D)) [], (fun (l : List TEntry) => [((0, 1), .arr false 1 (dI 0) (ML dI (mOnceT (accL l) [])))]) []) :=
  mkCon_fn (fun x y h _ => c36_inj x y h) ([] : (List TEntry)) (by simp [nz, nz1, ML_nil, encLTEntry]) rfl
theorem c36_pc (l : List TEntry) (hpre : l.length ≤ 1048576) : PCo Try.prog 36 [encLTEntry l] (Tab.of []) (.own (0, 1) 1 0 (mOnce (accL l) []).length) (Tab.of [((0, 1), .arr false 1 (dI 0) (ML dI (mOnceT (accL l) [])))]) := by
  refine pco_of_run [] (E := ⟨[c52, c72], [], []⟩) (m := false) (base := 0) (Env.ok_cons c52_ok (Env.ok_cons c72_ok Env.ok_nil)) G_ok mix 300 6 Try.func36 (by kernel_rfl) rfl (by kernel_rfl) (by kernel_rfl) rfl ?_
  simp [Try.f36]
  refine loop_inv (fun p : Nat => p ≤ l.length) (fun p => [(3, .own (0, 1) 1 0 (accL (l.take p)).length), (8, encLTEntry l), (9, dI l.length), (10, dI p)]) (fun p => [((0, 1), .arr false 1 (dI 0) (ML dI (accL (l.take p))))]) 2 (fun p => l.length - p) 0 400 (by simp) (by simp) (by simp [accL]) ?_
  intro p hp
  have hl := accL_len (l.take p)
  have hl2 : (l.take p).length ≤ l.length := by simp; omega
  simp
  refine ⟨fun hlt => ?_, fun hge => ?_⟩
  · have hs := accL_at hlt
    refine ⟨hlt, by omega, by omega, ?_⟩
    exact Again.mk (p + 1) (by omega) (by simp [hs] <;> simp [ML]) (by first | omega | (simp; omega))
  · rw [List.take_of_length_le hge] at *
    exact ⟨by omega, rfl, rfl⟩
theorem c36_ok : c36.ok Try.prog := mkCon_ok fun l hpre => c36_pc l hpre
theorem acc_pc (l : List TEntry) (hpre : l.length ≤ 1048576) : PCo Try.prog 36 [encLTEntry l] (Tab.of []) (.own (0, 1) 1 0 (mOnce (accL l) []).length) (Tab.of [((0, 1), .arr false 1 (dI 0) (ML dI (mOnceT (accL l) [])))]) := c36_pc l hpre
/-- loop.example/g03007/impl.AccountsOf -/
noncomputable def c36f : Con := mkCon 36 false (α := (List TEntry)) (fun x => (fun (l : List TEntry) => [encLTEntry l]) x) (fun _ => []) (fun x => (fun (l : List TEntry) => l.length ≤ 1048576) x) (fun x => (fun (l : List TEntry) => (.own (0, 1) 1 0 (mOnce (accL l) []).length : D)) x) (fun x => (fun (l : List TEntry) => [((0, 1), .arr false 1 (dI 0) (ML dI (mOnce (accL l) [])))]) x)
@[simp] theorem c36f_f : c36f.f = 36 := rfl
@[simp] theorem c36f_own : c36f.own = false := rfl
theorem c36f_inj : ∀ u_ v_ : (List TEntry), ((fun x => (fun (l : List TEntry) => [encLTEntry l]) x) u_).map nz = ((fun x => (fun (l : List TEntry) => [encLTEntry l]) x) v_).map nz → u_ = v_ := by
  intro u_ v_ h
  obtain l := u_
  obtain l' := v_
  simp [nz_lit, nz1_lit, nz_agg, nz_sl, nz1_sl, encLTEntry] at h
  first | (simp [h]; done) | (obtain ⟨⟩ := h; simp_all; done) | simp_all
@[simp] theorem c36f_fn (l : List TEntry) : c36f.fn [.sl false 4 yTEntry (ML encTEntry l)] [] = some ((fun (l : List TEntry) => l.length ≤ 1048576) l, (fun (l : List TEntry) => (.own (0, 1) 1 0 (mOnce (accL l) []).length : D)) l, (fun (l : List TEntry) => [((0, 1), .arr false 1 (dI 0) (ML dI (mOnce (accL l) [])))]) l) :=
  mkCon_fn (fun x y h _ => c36f_inj x y h) (l : (List TEntry)) (by simp [nz, nz1, ML_nil, encLTEntry]) rfl
@[simp] theorem c36f_fn1 (s_l : Nat) (z_l : D) : c36f.fn [.sl false s_l z_l []] [] = some ((fun (l : List TEntry) => l.length ≤ 1048576) [], (fun (l : List TEntry) => (.own (0, 1) 1 0 (mOnce (accL l) []).length : D)) [], (fun (l : List TEntry) => [((0, 1), .arr false 1 (dI 0) (ML dI (mOnce (accL l) [])))]) []) :=
  mkCon_fn (fun x y h _ => c36f_inj x y h) ([] : (List TEntry)) (by simp [nz, nz1, ML_nil, encLTEntry]) rfl
theorem c36f_pc (l : List TEntry) (hpre : l.length ≤ 1048576) : PCo Try.prog 36 [encLTEntry l] (Tab.of []) (.own (0, 1) 1 0 (mOnce (accL l) []).length) (Tab.of [((0, 1), .arr false 1 (dI 0) (ML dI (mOnce (accL l) [])))]) := by
  have h := acc_pc l hpre
  rw [mOnceT, ← ML_app] at h
  exact pco_cut h
theorem c36f_ok : c36f.ok Try.prog := mkCon_ok fun l hpre => c36f_pc l hpre
theorem foldl_len : ∀ (l a : List Int), (l.foldl putI a).length ≤ a.length + l.length
  | [], a => by simp
  | x :: l, a => by
    have h1 := foldl_len l (putI a x)
    have h2 := putI_len a x
    simp only [List.foldl_cons, List.length_cons]; omega
/-- loop.example/g03007/spec.AccountsOf -/
noncomputable def c34 : Con := mkCon 34 false (α := (List TEntry)) (fun x => (fun (l : List TEntry) => [encLTEntry l]) x) (fun _ => []) (fun x => (fun (l : List TEntry) => l.length ≤ 1048576) x) (fun x => (fun (l : List TEntry) => (.own (0, 1) 1 0 (mOnce (accL l) []).length : D)) x) (fun x => (fun (l : List TEntry) => [((0, 1), .arr false 1 (dI 0) (ML dI (mOnce (accL l) [])))]) x)
@[simp] theorem c34_f : c34.f = 34 := rfl
@[simp] theorem c34_own : c34.own = false := rfl
theorem c34_inj : ∀ u_ v_ : (List TEntry), ((fun x => (fun (l : List TEntry) => [encLTEntry l]) x) u_).map nz = ((fun x => (fun (l : List TEntry) => [encLTEntry l]) x) v_).map nz → u_ = v_ := by
  intro u_ v_ h
  obtain l := u_
  obtain l' := v_
  simp [nz_lit, nz1_lit, nz_agg, nz_sl, nz1_sl, encLTEntry] at h
  first | (simp [h]; done) | (obtain ⟨⟩ := h; simp_all; done) | simp_all
@[simp] theorem c34_fn (l : List TEntry) : c34.fn [.sl false 4 yTEntry (ML encTEntry l)] [] = some ((fun (l : List TEntry) => l.length ≤ 1048576) l, (fun (l : List TEntry) => (.own (0, 1) 1 0 (mOnce (accL l) []).length : D)) l, (fun (l : List TEntry) => [((0, 1), .arr false 1 (dI 0) (ML dI (mOnce (accL l) [])))]) l) :=
  mkCon_fn (fun x y h _ => c34_inj x y h) (l : (List TEntry)) (by simp [nz, nz1, ML_nil, encLTEntry]) rfl
@[simp] theorem c34_fn1 (s_l : Nat) (z_l : D) : c34.fn [.sl false s_l z_l []] [] = some ((fun (l : List TEntry) => l.length ≤ 1048576) [], (fun (l : List TEntry) => (.own (0, 1) 1 0 (mOnce (accL l) []).length : D)) [], (fun (l : List TEntry) => [((0, 1), .arr false 1 (dI 0) (ML dI (mOnce (accL l) [])))]) []) :=
  mkCon_fn (fun x y h _ => c34_inj x y h) ([] : (List TEntry)) (by simp [nz, nz1, ML_nil, encLTEntry]) rfl
theorem c34_pc (l : List TEntry) (hpre : l.length ≤ 1048576) : PCo Try.prog 34 [encLTEntry l] (Tab.of []) (.own (0, 1) 1 0 (mOnce (accL l) []).length) (Tab.of [((0, 1), .arr false 1 (dI 0) (ML dI (mOnce (accL l) [])))]) := by
  refine pco_of_run [3005] (E := ⟨[c42], [], []⟩) (m := false) (base := 0) (Env.ok_cons c42_ok Env.ok_nil) G_ok mix 300 6 Try.func34 (by kernel_rfl) rfl (by kernel_rfl) (by kernel_rfl) rfl ?_
  simp [Try.f34]
  refine loop_inv (fun p : Nat => p ≤ l.length) (fun p => [(0, encLTEntry l), (3, .own (0, 1) 1 0 ((accL (l.take p)).foldl putI []).length), (4, dI p)]) (fun p => [((0, 1), .arr false 1 (dI 0) (ML dI ((accL (l.take p)).foldl putI [])))]) 2 (fun p => l.length - p) 0 400 (by simp) (by simp) (by simp [accL]) ?_
  intro p hp
  have hl := accL_len (l.take p)
  have hl2 : (l.take p).length ≤ l.length := by simp; omega
  have hl3 := foldl_len (accL (l.take p)) []
  have hl4 := putI_len ((accL (l.take p)).foldl putI []) (l[p]?.getD default).From
  simp at hl3
  simp
  refine ⟨fun hlt => ?_, fun hge => ?_⟩
  · have hs : (accL (l.take (p + 1))).foldl putI [] = putI (putI ((accL (l.take p)).foldl putI []) (l[p]?.getD default).From) (l[p]?.getD default).To := by rw [accL_at hlt]; simp
    repeat' (first | omega | refine And.intro ?_ ?_ | intro _)
    all_goals first | exact Again.mk (p + 1) (by omega) (by simp [hs]) (by first | omega | (simp; omega)) | trace_state
  · rw [List.take_of_length_le hge]
    have h := once_fold (accL l) []
    rw [List.append_nil] at h
    rw [h]; simp
theorem c34_ok : c34.ok Try.prog := mkCon_ok fun l hpre => c34_pc l hpre
/-- loop.example/g03007/laws.FnExactAccountsOf -/
theorem law7 (l : List TEntry) (wl : wfLTEntry l) : PCo Try.prog 7 [encLTEntry l] (Tab.of []) (dB true) (Tab.of []) := by
  refine pco_of_run [] (E := ⟨[c29, c31, c32, c33, c34, c35, c36f, c37, c38], [], []⟩) (m := false) (base := 0) (Env.ok_cons c29_ok (Env.ok_cons c31_ok (Env.ok_cons c32_ok (Env.ok_cons c33_ok (Env.ok_cons c34_ok (Env.ok_cons c35_ok (Env.ok_cons c36f_ok (Env.ok_cons c37_ok (Env.ok_cons c38_ok Env.ok_nil))))))))) G_ok mix 400 6 Try.func7 (by kernel_rfl) rfl (by kernel_rfl) (by kernel_rfl) rfl ?_
  simp (config := {maxSteps := 3000000}) [Try.f7]
  have h1 : l.length ≤ maxLen := wl.1
  have hb := mOnce_le (accL l) []
  have hc := accL_len l
  simp at hb
  refine ⟨h1, fun h => ?_⟩
  have hs : l.length ≤ 1048576 := by split at h <;> omega
  repeat' (first | omega | assumption | refine And.intro ?_ ?_ | intro _)
theorem law7_pc (D0 : D) (h0 : Sh G 9 63 D0) : PC Try.prog 7 [D0] (dB true) [] := by
  obtain ⟨l, rfl, wl⟩ := sh63 (n := 6) h0
  exact law7 l wl

end Go.Proofs.Ytdiajaijdkohlaa
