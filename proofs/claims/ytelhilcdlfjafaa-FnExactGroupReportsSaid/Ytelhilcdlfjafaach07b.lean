/- Contracts of the functions that the laws run. -/
import Derived.Test.Ytelhilcdlfjafaach07
import Derived.Test.Ytelhilcdlfjafaagen
import Derived.Test.YtelhilcdlfjafaaEngB
namespace Go.Proofs.Ytelhilcdlfjafaa
open Go Go.Eng
set_option linter.unusedSimpArgs false
set_option linter.unusedVariables false
set_option maxRecDepth 10000
set_option maxHeartbeats 1000000
theorem szR_le (r : TReport) (q : Int) (h : 0 ≤ szR r q) : szR r q ≤ q := (szR_len h).2.2
/-- loop.example/g03007/laws.szReportS -/
noncomputable def c10 : Con := mkCon 10 false (α := (List TReport) × Int) (fun x => (fun (l : List TReport) (left : Int) => [encLTReport l, dI left]) x.1 x.2) (fun _ => []) (fun x => (fun (l : List TReport) (left : Int) => l.length ≤ maxLen ∧ (∀ x ∈ l, smM x) ∧ 0 ≤ left ∧ left ≤ 1099511627776) x.1 x.2) (fun x => (fun (l : List TReport) (left : Int) => (dI (szDeep szR l left) : D)) x.1 x.2) (fun x => (fun (l : List TReport) (left : Int) => []) x.1 x.2)
@[simp] theorem c10_f : c10.f = 10 := rfl
@[simp] theorem c10_own : c10.own = false := rfl
theorem c10_inj : ∀ u_ v_ : (List TReport) × Int, ((fun x => (fun (l : List TReport) (left : Int) => [encLTReport l, dI left]) x.1 x.2) u_).map nz = ((fun x => (fun (l : List TReport) (left : Int) => [encLTReport l, dI left]) x.1 x.2) v_).map nz → u_ = v_ := by
  intro u_ v_ h
  obtain ⟨l, left⟩ := u_
  obtain ⟨l', left'⟩ := v_
  simp [nz_lit, nz1_lit, nz_agg, nz_sl, nz1_sl, encLTReport] at h
  first | (simp [h]; done) | (obtain ⟨⟩ := h; simp_all; done) | simp_all
@[simp] theorem c10_fn (l : List TReport) (left : Int) : c10.fn [.sl false 8 yTReport (ML encTReport l), .lit (.int .i64 left)] [] = some ((fun (l : List TReport) (left : Int) => l.length ≤ maxLen ∧ (∀ x ∈ l, smM x) ∧ 0 ≤ left ∧ left ≤ 1099511627776) l left, (fun (l : List TReport) (left : Int) => (dI (szDeep szR l left) : D)) l left, (fun (l : List TReport) (left : Int) => []) l left) :=
  mkCon_fn (fun x y h _ => c10_inj x y h) ((l, left) : (List TReport) × Int) (by simp [nz, nz1, ML_nil, encLTReport]) rfl
@[simp] theorem c10_fn1 (s_l : Nat) (z_l : D) (left : Int) : c10.fn [.sl false s_l z_l [], .lit (.int .i64 left)] [] = some ((fun (l : List TReport) (left : Int) => l.length ≤ maxLen ∧ (∀ x ∈ l, smM x) ∧ 0 ≤ left ∧ left ≤ 1099511627776) [] left, (fun (l : List TReport) (left : Int) => (dI (szDeep szR l left) : D)) [] left, (fun (l : List TReport) (left : Int) => []) [] left) :=
  mkCon_fn (fun x y h _ => c10_inj x y h) (([], left) : (List TReport) × Int) (by simp [nz, nz1, ML_nil, encLTReport]) rfl
theorem c10_pc (l : List TReport) (left : Int) (hpre : l.length ≤ maxLen ∧ (∀ x ∈ l, smM x) ∧ 0 ≤ left ∧ left ≤ 1099511627776) : PCo Try.prog 10 [encLTReport l, dI left] (Tab.of []) (dI (szDeep szR l left)) (Tab.of []) := by
  refine pco_of_run [] (E := ⟨[c5], [], []⟩) (m := false) (base := 0) (Env.ok_cons c5_ok Env.ok_nil) G_ok mix 300 6 Try.func10 (by kernel_rfl) rfl (by kernel_rfl) (by kernel_rfl) rfl ?_
  simp [Try.f10]
  obtain ⟨hp1, hp2, hp3, hp4⟩ := hpre
  simp [maxLen] at hp1
  refine ⟨by omega, fun h => ?_, fun hn => ?_⟩
  · rw [szDeep, if_pos h]
  have hd : szDeep szR l left = szRun szR (left - l.length) l := by rw [szDeep, if_neg (by omega)]
  refine loop_inv (fun p : Nat × Int => p.1 ≤ l.length ∧ 0 ≤ p.2 ∧ p.2 ≤ left ∧ szDeep szR l left = szRun szR p.2 (l.drop p.1)) (fun p => [(0, encLTReport l), (1, dI p.2), (5, dI p.1)]) (fun _ => []) 1 (fun p => l.length - p.1) (0, left - l.length) 400 (by simp) (by simp [hd]; omega) (by simp) ?_
  intro ⟨p, q⟩ ⟨hp, hq1, hq2, hi⟩
  simp at hp hq1 hq2 hi ⊢
  refine ⟨fun hlt => ?_, fun hge => ?_⟩
  · rw [szRun_at (d := default) hlt] at hi
    have hx := hp2 _ (getD_mem (d := default) hlt)
    simp at hx
    have hle := szR_le (l[p]?.getD default) q
    refine ⟨⟨hlt, hx, hq1, by omega⟩, fun h => by rw [hi, if_pos h], fun h => ⟨by omega, ?_⟩⟩
    rw [if_neg (by omega)] at hi
    exact Again.mk (p + 1, szR (l[p]?.getD default) q) ⟨by simp; omega, by simp; omega, by have := hle (by omega); simp; omega, by simpa using hi⟩ (by simp) (by first | omega | (simp; omega))
  · rw [hi, szRun_end hge]
theorem c10_ok : c10.ok Try.prog := mkCon_ok fun ⟨l, left⟩ hpre => c10_pc l left hpre
/-- loop.example/g03007/laws.toReportS -/
noncomputable def c12 : Con := mkCon 12 false (α := (List TReport)) (fun x => (fun (l : List TReport) => [encLTReport l]) x) (fun _ => []) (fun x => (fun (l : List TReport) => l.length ≤ 1099511627776 ∧ ∀ x ∈ l, smR x) x) (fun x => (fun (l : List TReport) => (encLTReport l : D)) x) (fun x => (fun (l : List TReport) => []) x)
@[simp] theorem c12_f : c12.f = 12 := rfl
@[simp] theorem c12_own : c12.own = false := rfl
theorem c12_inj : ∀ u_ v_ : (List TReport), ((fun x => (fun (l : List TReport) => [encLTReport l]) x) u_).map nz = ((fun x => (fun (l : List TReport) => [encLTReport l]) x) v_).map nz → u_ = v_ := by
  intro u_ v_ h
  obtain l := u_
  obtain l' := v_
  simp [nz_lit, nz1_lit, nz_agg, nz_sl, nz1_sl, encLTReport] at h
  first | (simp [h]; done) | (obtain ⟨⟩ := h; simp_all; done) | simp_all
@[simp] theorem c12_fn (l : List TReport) : c12.fn [.sl false 8 yTReport (ML encTReport l)] [] = some ((fun (l : List TReport) => l.length ≤ 1099511627776 ∧ ∀ x ∈ l, smR x) l, (fun (l : List TReport) => (encLTReport l : D)) l, (fun (l : List TReport) => []) l) :=
  mkCon_fn (fun x y h _ => c12_inj x y h) (l : (List TReport)) (by simp [nz, nz1, ML_nil, encLTReport]) rfl
@[simp] theorem c12_fn1 (s_l : Nat) (z_l : D) : c12.fn [.sl false s_l z_l []] [] = some ((fun (l : List TReport) => l.length ≤ 1099511627776 ∧ ∀ x ∈ l, smR x) [], (fun (l : List TReport) => (encLTReport l : D)) [], (fun (l : List TReport) => []) []) :=
  mkCon_fn (fun x y h _ => c12_inj x y h) ([] : (List TReport)) (by simp [nz, nz1, ML_nil, encLTReport]) rfl
theorem c12_pc (l : List TReport) (hpre : l.length ≤ 1099511627776 ∧ ∀ x ∈ l, smR x) : PCo Try.prog 12 [encLTReport l] (Tab.of []) (encLTReport l) (Tab.of []) := by
  refine pco_of_run [] (E := ⟨[c7], [], []⟩) (m := false) (base := 0) (Env.ok_cons c7_ok Env.ok_nil) G_ok mix 300 6 Try.func12 (by kernel_rfl) rfl (by kernel_rfl) (by kernel_rfl) rfl ?_
  simp [Try.f12]
  obtain ⟨hp1, hp2⟩ := hpre
  refine ⟨by omega, ?_⟩
  refine loop_inv (fun p : Nat => p ≤ l.length) (fun p => [(0, encLTReport l), (3, .own (0, 1) 8 0 l.length), (4, dI p)]) (fun p => [((0, 1), .arr false 8 (.agg [dI 0, dI 0, .sl true 0 .any [], dI 0, dI 0, .sl true 0 .any [], dI 0, dI 0]) (ML encTReport (l.take p) ++ List.replicate (l.length - p) (.agg [dI 0, dI 0, .sl true 0 .any [], dI 0, dI 0, .sl true 0 .any [], dI 0, dI 0])))]) 2 (fun p => l.length - p) 0 400 (by simp) (by simp) (by simp) ?_
  intro p hp
  by_cases hlt : p < l.length
  · have hx := hp2 _ (getD_mem (d := default) hlt)
    simp at hx
    have hg := fillZ (e := encTReport) (z := (.agg [dI 0, dI 0, .sl true 0 .any [], dI 0, dI 0, .sl true 0 .any [], dI 0, dI 0])) (d := (.agg [dI 0, dI 0, .sl true 0 .any [], dI 0, dI 0, .sl true 0 .any [], dI 0, dI 0])) hlt
    have hs := fillS (e := encTReport) (z := (.agg [dI 0, dI 0, .sl true 0 .any [], dI 0, dI 0, .sl true 0 .any [], dI 0, dI 0])) (d := default) hlt rfl
    simp at hs
    simp [hg]
    refine ⟨fun _ => ?_, fun h => absurd hlt (by omega)⟩
    repeat' (first | exact hx | omega | refine And.intro ?_ ?_ | intro _)
    refine Again.mk (p + 1) (by omega) ?_ (by first | omega | (simp; omega))
    simp [hs]
  · have : p = l.length := by omega
    subst this; simp
theorem c12_ok : c12.ok Try.prog := mkCon_ok fun l hpre => c12_pc l hpre
/-- loop.example/g03007/laws.eqReportS -/
noncomputable def c15 : Con := mkCon 15 false (α := (List TReport) × (List TReport)) (fun x => (fun (a : List TReport) (b : List TReport) => [encLTReport a, encLTReport b]) x.1 x.2) (fun _ => []) (fun x => (fun (a : List TReport) (b : List TReport) => a.length ≤ 1099511627776 ∧ b.length ≤ 1099511627776 ∧ (∀ x ∈ a, smR x) ∧ ∀ x ∈ b, smR x) x.1 x.2) (fun x => (fun (a : List TReport) (b : List TReport) => (dB (decide (a = b)) : D)) x.1 x.2) (fun x => (fun (a : List TReport) (b : List TReport) => []) x.1 x.2)
@[simp] theorem c15_f : c15.f = 15 := rfl
@[simp] theorem c15_own : c15.own = false := rfl
theorem c15_inj : ∀ u_ v_ : (List TReport) × (List TReport), ((fun x => (fun (a : List TReport) (b : List TReport) => [encLTReport a, encLTReport b]) x.1 x.2) u_).map nz = ((fun x => (fun (a : List TReport) (b : List TReport) => [encLTReport a, encLTReport b]) x.1 x.2) v_).map nz → u_ = v_ := by
  intro u_ v_ h
  obtain ⟨a, b⟩ := u_
  obtain ⟨a', b'⟩ := v_
  simp [nz_lit, nz1_lit, nz_agg, nz_sl, nz1_sl, encLTReport] at h
  first | (simp [h]; done) | (obtain ⟨⟩ := h; simp_all; done) | simp_all
@[simp] theorem c15_fn (a : List TReport) (b : List TReport) : c15.fn [.sl false 8 yTReport (ML encTReport a), .sl false 8 yTReport (ML encTReport b)] [] = some ((fun (a : List TReport) (b : List TReport) => a.length ≤ 1099511627776 ∧ b.length ≤ 1099511627776 ∧ (∀ x ∈ a, smR x) ∧ ∀ x ∈ b, smR x) a b, (fun (a : List TReport) (b : List TReport) => (dB (decide (a = b)) : D)) a b, (fun (a : List TReport) (b : List TReport) => []) a b) :=
  mkCon_fn (fun x y h _ => c15_inj x y h) ((a, b) : (List TReport) × (List TReport)) (by simp [nz, nz1, ML_nil, encLTReport]) rfl
@[simp] theorem c15_fn1 (s_a : Nat) (z_a : D) (b : List TReport) : c15.fn [.sl false s_a z_a [], .sl false 8 yTReport (ML encTReport b)] [] = some ((fun (a : List TReport) (b : List TReport) => a.length ≤ 1099511627776 ∧ b.length ≤ 1099511627776 ∧ (∀ x ∈ a, smR x) ∧ ∀ x ∈ b, smR x) [] b, (fun (a : List TReport) (b : List TReport) => (dB (decide (a = b)) : D)) [] b, (fun (a : List TReport) (b : List TReport) => []) [] b) :=
  mkCon_fn (fun x y h _ => c15_inj x y h) (([], b) : (List TReport) × (List TReport)) (by simp [nz, nz1, ML_nil, encLTReport]) rfl
@[simp] theorem c15_fn2 (a : List TReport) (s_b : Nat) (z_b : D) : c15.fn [.sl false 8 yTReport (ML encTReport a), .sl false s_b z_b []] [] = some ((fun (a : List TReport) (b : List TReport) => a.length ≤ 1099511627776 ∧ b.length ≤ 1099511627776 ∧ (∀ x ∈ a, smR x) ∧ ∀ x ∈ b, smR x) a [], (fun (a : List TReport) (b : List TReport) => (dB (decide (a = b)) : D)) a [], (fun (a : List TReport) (b : List TReport) => []) a []) :=
  mkCon_fn (fun x y h _ => c15_inj x y h) ((a, []) : (List TReport) × (List TReport)) (by simp [nz, nz1, ML_nil, encLTReport]) rfl
@[simp] theorem c15_fn3 (s_a : Nat) (z_a : D) (s_b : Nat) (z_b : D) : c15.fn [.sl false s_a z_a [], .sl false s_b z_b []] [] = some ((fun (a : List TReport) (b : List TReport) => a.length ≤ 1099511627776 ∧ b.length ≤ 1099511627776 ∧ (∀ x ∈ a, smR x) ∧ ∀ x ∈ b, smR x) [] [], (fun (a : List TReport) (b : List TReport) => (dB (decide (a = b)) : D)) [] [], (fun (a : List TReport) (b : List TReport) => []) [] []) :=
  mkCon_fn (fun x y h _ => c15_inj x y h) (([], []) : (List TReport) × (List TReport)) (by simp [nz, nz1, ML_nil, encLTReport]) rfl
theorem c15_pc (a : List TReport) (b : List TReport) (hpre : a.length ≤ 1099511627776 ∧ b.length ≤ 1099511627776 ∧ (∀ x ∈ a, smR x) ∧ ∀ x ∈ b, smR x) : PCo Try.prog 15 [encLTReport a, encLTReport b] (Tab.of []) (dB (decide (a = b))) (Tab.of []) := by
  refine pco_of_run [] (E := ⟨[c9], [], []⟩) (m := false) (base := 0) (Env.ok_cons c9_ok Env.ok_nil) G_ok mix 300 6 Try.func15 (by kernel_rfl) rfl (by kernel_rfl) (by kernel_rfl) rfl ?_
  simp [Try.f15]
  obtain ⟨pre1, pre2, pre3, pre4⟩ := hpre
  refine ⟨fun h => ?_, fun h => by intro e; subst e; exact absurd rfl h⟩
  refine loop_inv (fun p : Nat => p ≤ a.length ∧ a.take p = b.take p) (fun p => [(0, encLTReport a), (1, encLTReport b), (5, dI p)]) (fun _ => []) 1 (fun p => a.length - p) 0 100 (by simp) (by simp) (by simp) ?_
  intro p ⟨hp, hi⟩
  simp
  refine ⟨fun hlt => ?_, fun hge => take_eq_full hi (by omega) (by omega)⟩
  have ha := pre3 _ (getD_mem (d := default) hlt)
  have hb := pre4 _ (getD_mem (d := default) (show p < b.length by omega))
  simp at ha hb
  refine ⟨⟨hlt, by omega, ha, hb⟩, fun h2 => ⟨by omega, Again.mk (p + 1) ⟨by omega, take_eq_step hi (by omega) (by omega) h2⟩ (by simp) (by first | omega | (simp; omega))⟩, fun h2 => by intro e; subst e; exact absurd rfl h2⟩
theorem c15_ok : c15.ok Try.prog := mkCon_ok fun ⟨a, b⟩ hpre => c15_pc a b hpre
theorem szR_ok (r : TReport) (q : Int) (h : 0 ≤ szR r q) : szR r q ≤ q ∧ (r.Colours.length ≤ q ∧ r.Places.length ≤ q) := ⟨(szR_len h).2.2, (szR_len h).1, (szR_len h).2.1⟩
theorem szRS_ok {l : List TReport} {left : Int} (h : 0 ≤ szDeep szR l left) : l.length ≤ left ∧ szDeep szR l left ≤ left ∧ ∀ x ∈ l, (x.Colours.length : Int) ≤ left ∧ x.Places.length ≤ left :=
  szDeep_all (R := fun q x => (x.Colours.length : Int) ≤ q ∧ x.Places.length ≤ q) szR_ok (fun a b x h h2 => ⟨by omega, by omega⟩) h
@[simp] def nReport (r : TReport) : Int := r.Id
/-- loop.example/g03007/impl.reportsInOrder -/
noncomputable def c38 : Con := mkCon 38 false (α := (List TReport)) (fun x => (fun (l : List TReport) => [encLTReport l]) x) (fun _ => []) (fun x => (fun (l : List TReport) => True) x) (fun x => (fun (l : List TReport) => (.agg [.sl false 8 yTReport (ML encTReport l), .fn (.func 53) [] []] : D)) x) (fun x => (fun (l : List TReport) => []) x)
@[simp] theorem c38_f : c38.f = 38 := rfl
@[simp] theorem c38_own : c38.own = false := rfl
theorem c38_inj : ∀ u_ v_ : (List TReport), ((fun x => (fun (l : List TReport) => [encLTReport l]) x) u_).map nz = ((fun x => (fun (l : List TReport) => [encLTReport l]) x) v_).map nz → u_ = v_ := by
  intro u_ v_ h
  obtain l := u_
  obtain l' := v_
  simp [nz_lit, nz1_lit, nz_agg, nz_sl, nz1_sl, encLTReport] at h
  first | (simp [h]; done) | (obtain ⟨⟩ := h; simp_all; done) | simp_all
@[simp] theorem c38_fn (l : List TReport) : c38.fn [.sl false 8 yTReport (ML encTReport l)] [] = some ((fun (l : List TReport) => True) l, (fun (l : List TReport) => (.agg [.sl false 8 yTReport (ML encTReport l), .fn (.func 53) [] []] : D)) l, (fun (l : List TReport) => []) l) :=
  mkCon_fn (fun x y h _ => c38_inj x y h) (l : (List TReport)) (by simp [nz, nz1, ML_nil, encLTReport]) rfl
@[simp] theorem c38_fn1 (s_l : Nat) (z_l : D) : c38.fn [.sl false s_l z_l []] [] = some ((fun (l : List TReport) => True) [], (fun (l : List TReport) => (.agg [.sl false 8 yTReport (ML encTReport l), .fn (.func 53) [] []] : D)) [], (fun (l : List TReport) => []) []) :=
  mkCon_fn (fun x y h _ => c38_inj x y h) ([] : (List TReport)) (by simp [nz, nz1, ML_nil, encLTReport]) rfl
theorem c38_pc (l : List TReport) : PCo Try.prog 38 [encLTReport l] (Tab.of []) (.agg [.sl false 8 yTReport (ML encTReport l), .fn (.func 53) [] []]) (Tab.of []) := by
  refine pco_of_run [] (E := ⟨[], [], []⟩) (m := false) (base := 0) Env.ok_nil G_ok mix 300 6 Try.func38 (by kernel_rfl) rfl (by kernel_rfl) (by kernel_rfl) rfl ?_
  simp [Try.f38]
  all_goals first | omega | (rw [Bool.eq_iff_iff]; simp; omega) | grind
theorem c38_ok : c38.ok Try.prog := mkCon_ok fun l hpre => c38_pc l
/-- loop.example/g03007/impl.reportsInOrder$1 -/
noncomputable def c53 : Con := mkCon 53 false (α := TReport) (fun x => (fun (x : TReport) => [encTReport x]) x) (fun _ => []) (fun x => (fun (x : TReport) => True) x) (fun x => (fun (x : TReport) => (dI (nReport x) : D)) x) (fun x => (fun (x : TReport) => []) x)
@[simp] theorem c53_f : c53.f = 53 := rfl
@[simp] theorem c53_own : c53.own = false := rfl
theorem c53_inj : ∀ u_ v_ : TReport, ((fun x => (fun (x : TReport) => [encTReport x]) x) u_).map nz = ((fun x => (fun (x : TReport) => [encTReport x]) x) v_).map nz → u_ = v_ := by
  intro u_ v_ h
  obtain ⟨x_Id, x_Kind, x_Colours, x_SizeLow, x_SizeHigh, x_Places, ⟨x_Span_From, x_Span_Until⟩⟩ := u_
  obtain ⟨x_Id', x_Kind', x_Colours', x_SizeLow', x_SizeHigh', x_Places', ⟨x_Span_From', x_Span_Until'⟩⟩ := v_
  simp [nz_lit, nz1_lit, nz_agg, nz_sl, nz1_sl, encLI, encTReport, encTSpan] at h
  first | (simp [h]; done) | (obtain ⟨⟩ := h; simp_all; done) | simp_all
@[simp] theorem c53_fn (x_Id : Int) (x_Kind : Int) (x_Colours : List Int) (x_SizeLow : Int) (x_SizeHigh : Int) (x_Places : List Int) (x_Span_From : Int) (x_Span_Until : Int) : c53.fn [.agg [.lit (.int .i64 x_Id), .lit (.int .i64 x_Kind), .sl false 1 (.lit (.int .i64 0)) (ML dI x_Colours), .lit (.int .i64 x_SizeLow), .lit (.int .i64 x_SizeHigh), .sl false 1 (.lit (.int .i64 0)) (ML dI x_Places), .lit (.int .i64 x_Span_From), .lit (.int .i64 x_Span_Until)]] [] = some ((fun (x : TReport) => True) ⟨x_Id, x_Kind, x_Colours, x_SizeLow, x_SizeHigh, x_Places, ⟨x_Span_From, x_Span_Until⟩⟩, (fun (x : TReport) => (dI (nReport x) : D)) ⟨x_Id, x_Kind, x_Colours, x_SizeLow, x_SizeHigh, x_Places, ⟨x_Span_From, x_Span_Until⟩⟩, (fun (x : TReport) => []) ⟨x_Id, x_Kind, x_Colours, x_SizeLow, x_SizeHigh, x_Places, ⟨x_Span_From, x_Span_Until⟩⟩) :=
  mkCon_fn (fun x y h _ => c53_inj x y h) (⟨x_Id, x_Kind, x_Colours, x_SizeLow, x_SizeHigh, x_Places, ⟨x_Span_From, x_Span_Until⟩⟩ : TReport) (by simp [nz, nz1, ML_nil, encLI, encTReport, encTSpan]) rfl
theorem c53_pc (x : TReport) : PCo Try.prog 53 [encTReport x] (Tab.of []) (dI (nReport x)) (Tab.of []) := by
  obtain ⟨x_Id, x_Kind, x_Colours, x_SizeLow, x_SizeHigh, x_Places, ⟨x_Span_From, x_Span_Until⟩⟩ := x
  refine pco_of_run [] (E := ⟨[], [], []⟩) (m := false) (base := 0) Env.ok_nil G_ok mix 300 6 Try.func53 (by kernel_rfl) rfl (by kernel_rfl) (by kernel_rfl) rfl ?_
  simp [Try.f53]
  all_goals first | omega | (rw [Bool.eq_iff_iff]; simp; omega) | grind
theorem c53_ok : c53.ok Try.prog := mkCon_ok fun x hpre => c53_pc x
/-- (loop.example/g03007/impl.sortedList[loop.example/g03007/impl.Report]).isValid -/
noncomputable def c39 : Con := mkCon 39 false (α := (List TReport) × Int) (fun x => (fun (l : List TReport) (lim : Int) => ([.agg [.sl false 8 yTReport (ML encTReport l), .fn (.func 53) [] []], dI lim, .fn (.func 34) [] []] : List D)) x.1 x.2) (fun x => (fun (l : List TReport) (lim : Int) => ([] : List (Nm × OO))) x.1 x.2) (fun x => (fun (l : List TReport) (lim : Int) => l.length ≤ 1099511627776 ∧ ∀ x ∈ l, smR x) x.1 x.2) (fun x => (fun (l : List TReport) (lim : Int) => (dB (decide (l.length ≤ lim) && ascBy mIsReport nReport none l) : D)) x.1 x.2) (fun x => (fun (l : List TReport) (lim : Int) => ([] : List (Nm × OO))) x.1 x.2)
@[simp] theorem c39_f : c39.f = 39 := rfl
@[simp] theorem c39_own : c39.own = false := rfl
theorem c39_inj : ∀ u_ v_ : (List TReport) × Int, ((fun x => (fun (l : List TReport) (lim : Int) => ([.agg [.sl false 8 yTReport (ML encTReport l), .fn (.func 53) [] []], dI lim, .fn (.func 34) [] []] : List D)) x.1 x.2) u_).map nz = ((fun x => (fun (l : List TReport) (lim : Int) => ([.agg [.sl false 8 yTReport (ML encTReport l), .fn (.func 53) [] []], dI lim, .fn (.func 34) [] []] : List D)) x.1 x.2) v_).map nz → (fun x => (fun (l : List TReport) (lim : Int) => ([] : List (Nm × OO))) x.1 x.2) u_ = (fun x => (fun (l : List TReport) (lim : Int) => ([] : List (Nm × OO))) x.1 x.2) v_ → u_ = v_ := by
  intro u_ v_ h h2_
  obtain ⟨l, lim⟩ := u_
  obtain ⟨l', lim'⟩ := v_
  simp [nz_lit, nz1_lit, nz_agg, nz_sl, nz1_sl, nz_sx, nz_el, nz1_el, nz_own, nz1_own, nz_ptr, nz_fn, nz_iface] at h h2_
  first | (simp [h, h2_]; done) | (obtain ⟨h3_, h4_⟩ := List.append_inj h2_ h.1; simp_all; done) | simp_all | grind
@[simp] theorem c39_fn (l : List TReport) (lim : Int) : c39.fn ([.agg [.sl false 8 yTReport (ML encTReport l), .fn (.func 53) [] []], dI lim, .fn (.func 34) [] []]) ([]) = some (l.length ≤ 1099511627776 ∧ ∀ x ∈ l, smR x, dB (decide (l.length ≤ lim) && ascBy mIsReport nReport none l), []) :=
  mkCon_fn c39_inj ((l, lim) : (List TReport) × Int) rfl rfl
theorem c39_pc (l : List TReport) (lim : Int) (hpre : l.length ≤ 1099511627776 ∧ ∀ x ∈ l, smR x) : PCo Try.prog 39 ([.agg [.sl false 8 yTReport (ML encTReport l), .fn (.func 53) [] []], dI lim, .fn (.func 34) [] []]) (Tab.of ([])) (dB (decide (l.length ≤ lim) && ascBy mIsReport nReport none l)) (Tab.of ([])) := by
  refine pco_of_run [6] (E := ⟨[c53, c34], [], []⟩) (m := false) (base := 0) (Env.ok_cons c53_ok (Env.ok_cons c34_ok Env.ok_nil)) G_ok mix 300 6 Try.func39 (by kernel_rfl) rfl (by kernel_rfl) (by kernel_rfl) rfl ?_
  simp [Try.f39]
  obtain ⟨hp1, hp2⟩ := hpre
  refine ⟨fun h h2 => by omega, fun hlim => ?_⟩
  refine loop_inv (fun p : Nat => p ≤ l.length ∧ ascBy mIsReport nReport none l = ascBy mIsReport nReport (prevO nReport l p) (l.drop p)) (fun p => [(2, .fn (.func 34) [] []), (3, .ptr (0, 1) 0), (6, dB false), (15, .sl false 8 yTReport (ML encTReport l)), (16, dI l.length), (17, dI p)]) (fun _ => [((0, 1), .box (.agg [.sl false 8 yTReport (ML encTReport l), .fn (.func 53) [] []]))]) 2 (fun p => l.length - p) 0 400 (by simp) (by simp) (by simp) ?_
  intro p ⟨hp, hi⟩
  simp
  refine ⟨fun hlt => ?_, fun hge => ?_⟩
  · have hx := hp2 _ (getD_mem (d := default) hlt)
    simp at hx
    rw [ascBy_at hlt] at hi; simp only [nReport, wantN] at hi
    repeat' (first | exact hx | omega | refine And.intro ?_ ?_ | intro _)
    all_goals first | exact Again.mk (p + 1) ⟨by omega, by rw [hi]; grind⟩ (by simp) (by first | omega | (simp; omega)) | (rw [hi]; grind)
  · rw [hi, ascBy_end hge]; simp; omega
theorem c39_ok : c39.ok Try.prog := mkCon_ok fun ⟨l, lim⟩ hpre => c39_pc l lim hpre
def mAreReports (l : List TReport) : Bool := decide (l.length ≤ 20) && ascBy mIsReport nReport none l
/-- loop.example/g03007/spec.AreReports -/
noncomputable def c27 : Con := mkCon 27 false (α := (List TReport)) (fun x => (fun (l : List TReport) => [encLTReport l]) x) (fun _ => []) (fun x => (fun (l : List TReport) => l.length ≤ 1099511627776 ∧ ∀ x ∈ l, smR x) x) (fun x => (fun (l : List TReport) => (dB (mAreReports l) : D)) x) (fun x => (fun (l : List TReport) => []) x)
@[simp] theorem c27_f : c27.f = 27 := rfl
@[simp] theorem c27_own : c27.own = false := rfl
theorem c27_inj : ∀ u_ v_ : (List TReport), ((fun x => (fun (l : List TReport) => [encLTReport l]) x) u_).map nz = ((fun x => (fun (l : List TReport) => [encLTReport l]) x) v_).map nz → u_ = v_ := by
  intro u_ v_ h
  obtain l := u_
  obtain l' := v_
  simp [nz_lit, nz1_lit, nz_agg, nz_sl, nz1_sl, encLTReport] at h
  first | (simp [h]; done) | (obtain ⟨⟩ := h; simp_all; done) | simp_all
@[simp] theorem c27_fn (l : List TReport) : c27.fn [.sl false 8 yTReport (ML encTReport l)] [] = some ((fun (l : List TReport) => l.length ≤ 1099511627776 ∧ ∀ x ∈ l, smR x) l, (fun (l : List TReport) => (dB (mAreReports l) : D)) l, (fun (l : List TReport) => []) l) :=
  mkCon_fn (fun x y h _ => c27_inj x y h) (l : (List TReport)) (by simp [nz, nz1, ML_nil, encLTReport]) rfl
@[simp] theorem c27_fn1 (s_l : Nat) (z_l : D) : c27.fn [.sl false s_l z_l []] [] = some ((fun (l : List TReport) => l.length ≤ 1099511627776 ∧ ∀ x ∈ l, smR x) [], (fun (l : List TReport) => (dB (mAreReports l) : D)) [], (fun (l : List TReport) => []) []) :=
  mkCon_fn (fun x y h _ => c27_inj x y h) ([] : (List TReport)) (by simp [nz, nz1, ML_nil, encLTReport]) rfl
theorem c27_pc (l : List TReport) (hpre : l.length ≤ 1099511627776 ∧ ∀ x ∈ l, smR x) : PCo Try.prog 27 [encLTReport l] (Tab.of []) (dB (mAreReports l)) (Tab.of []) := by
  refine pco_of_run [] (E := ⟨[c30], [], []⟩) (m := false) (base := 0) (Env.ok_cons c30_ok Env.ok_nil) G_ok mix 300 6 Try.func27 (by kernel_rfl) rfl (by kernel_rfl) (by kernel_rfl) rfl ?_
  simp [Try.f27]
  obtain ⟨hp1, hp2⟩ := hpre
  refine loop_inv (fun p : Nat => p ≤ l.length ∧ ascBy mIsReport nReport none l = ascBy mIsReport nReport (prevO nReport l p) (l.drop p)) (fun p => [(0, encLTReport l), (2, dB false), (3, dI p)]) (fun _ => []) 1 (fun p => l.length - p) 0 400 (by simp) (by simp) (by simp) ?_
  intro p ⟨hp, hi⟩
  simp
  refine ⟨fun hlt => ?_, fun hge => ?_⟩
  · have hx := hp2 _ (getD_mem (d := default) hlt)
    simp at hx
    rw [ascBy_at hlt] at hi; simp only [nReport, wantN] at hi
    refine ⟨by repeat' (first | exact hx | omega | refine And.intro ?_ ?_ | intro _), fun h => ?_, fun h1 h2 => ⟨by omega, Again.mk (p + 1) ⟨by omega, ?_⟩ (by simp) (by first | omega | (simp; omega))⟩⟩
    · rw [mAreReports, hi]; grind
    · rw [hi]; grind
  · rw [mAreReports, hi, ascBy_end hge]; simp; omega
theorem c27_ok : c27.ok Try.prog := mkCon_ok fun l hpre => c27_pc l hpre
/-- loop.example/g03007/impl.AreReports -/
noncomputable def c28 : Con := mkCon 28 false (α := (List TReport)) (fun x => (fun (l : List TReport) => [encLTReport l]) x) (fun _ => []) (fun x => (fun (l : List TReport) => l.length ≤ 1099511627776 ∧ ∀ x ∈ l, smR x) x) (fun x => (fun (l : List TReport) => (dB (mAreReports l) : D)) x) (fun x => (fun (l : List TReport) => []) x)
@[simp] theorem c28_f : c28.f = 28 := rfl
@[simp] theorem c28_own : c28.own = false := rfl
theorem c28_inj : ∀ u_ v_ : (List TReport), ((fun x => (fun (l : List TReport) => [encLTReport l]) x) u_).map nz = ((fun x => (fun (l : List TReport) => [encLTReport l]) x) v_).map nz → u_ = v_ := by
  intro u_ v_ h
  obtain l := u_
  obtain l' := v_
  simp [nz_lit, nz1_lit, nz_agg, nz_sl, nz1_sl, encLTReport] at h
  first | (simp [h]; done) | (obtain ⟨⟩ := h; simp_all; done) | simp_all
@[simp] theorem c28_fn (l : List TReport) : c28.fn [.sl false 8 yTReport (ML encTReport l)] [] = some ((fun (l : List TReport) => l.length ≤ 1099511627776 ∧ ∀ x ∈ l, smR x) l, (fun (l : List TReport) => (dB (mAreReports l) : D)) l, (fun (l : List TReport) => []) l) :=
  mkCon_fn (fun x y h _ => c28_inj x y h) (l : (List TReport)) (by simp [nz, nz1, ML_nil, encLTReport]) rfl
@[simp] theorem c28_fn1 (s_l : Nat) (z_l : D) : c28.fn [.sl false s_l z_l []] [] = some ((fun (l : List TReport) => l.length ≤ 1099511627776 ∧ ∀ x ∈ l, smR x) [], (fun (l : List TReport) => (dB (mAreReports l) : D)) [], (fun (l : List TReport) => []) []) :=
  mkCon_fn (fun x y h _ => c28_inj x y h) ([] : (List TReport)) (by simp [nz, nz1, ML_nil, encLTReport]) rfl
theorem c28_pc (l : List TReport) (hpre : l.length ≤ 1099511627776 ∧ ∀ x ∈ l, smR x) : PCo Try.prog 28 [encLTReport l] (Tab.of []) (dB (mAreReports l)) (Tab.of []) := by
  refine pco_of_run [] (E := ⟨[c34, c38, c39, c34], [], []⟩) (m := false) (base := 0) (Env.ok_cons c34_ok (Env.ok_cons c38_ok (Env.ok_cons c39_ok (Env.ok_cons c34_ok Env.ok_nil)))) G_ok mix 300 6 Try.func28 (by kernel_rfl) rfl (by kernel_rfl) (by kernel_rfl) rfl ?_
  simp [Try.f28]
  have h : ((l.length : Int) ≤ 20) ↔ l.length ≤ 20 := by omega
  simp at hpre
  simp [mAreReports, h, hpre]
  exact hpre.2
theorem c28_ok : c28.ok Try.prog := mkCon_ok fun l hpre => c28_pc l hpre
def mFindReport (l : List TReport) (n : Int) : Int := indexBy (wantN nReport n) 0 l
theorem wfRS {l : List TReport} (h : wfLTReport l) : l.length ≤ maxLen ∧ ∀ x ∈ l, x.Colours.length ≤ maxLen ∧ x.Places.length ≤ maxLen := ⟨h.1, fun x hx => wfR_len (h.2 x hx)⟩
end Go.Proofs.Ytelhilcdlfjafaa
