/- Contracts of the functions that the laws run. -/
import Derived.Test.YtmhbciaolpamaaaRch07
import Derived.Test.YtmhbciaolpamaaaRgen
import Derived.Test.YtmhbciaolpamaaaREngB
namespace Go.Proofs.YtmhbciaolpamaaaR
open Go Go.Eng
set_option linter.unusedSimpArgs false
set_option linter.unusedVariables false
set_option maxRecDepth 10000
set_option maxHeartbeats 1000000
theorem szR_le (r : TReport) (q : Int) (h : 0 ≤ szR r q) : szR r q ≤ q := (szR_len h).2.2
/-- loop.example/g03007/laws.szReportS -/
noncomputable def c32 : Con := mkCon 32 false (α := (List TReport) × Int) (fun x => (fun (l : List TReport) (left : Int) => [encLTReport l, dI left]) x.1 x.2) (fun _ => []) (fun x => (fun (l : List TReport) (left : Int) => l.length ≤ maxLen ∧ (∀ x ∈ l, smM x) ∧ 0 ≤ left ∧ left ≤ 1099511627776) x.1 x.2) (fun x => (fun (l : List TReport) (left : Int) => (dI (szDeep szR l left) : D)) x.1 x.2) (fun x => (fun (l : List TReport) (left : Int) => []) x.1 x.2)
@[simp] theorem c32_f : c32.f = 32 := rfl
@[simp] theorem c32_own : c32.own = false := rfl
theorem c32_inj : ∀ u_ v_ : (List TReport) × Int, ((fun x => (fun (l : List TReport) (left : Int) => [encLTReport l, dI left]) x.1 x.2) u_).map nz = ((fun x => (fun (l : List TReport) (left : Int) => [encLTReport l, dI left]) x.1 x.2) v_).map nz → u_ = v_ := by
  intro u_ v_ h
  obtain ⟨l, left⟩ := u_
  obtain ⟨l', left'⟩ := v_
  simp [nz_lit, nz1_lit, nz_agg, nz_sl, nz1_sl, encLTReport] at h
  first | (simp [h]; done) | (obtain ⟨⟩ := h; simp_all; done) | simp_all
@[simp] theorem c32_fn (l : List TReport) (left : Int) : c32.fn [.sl false 8 yTReport (ML encTReport l), .lit (.int .i64 left)] [] = some ((fun (l : List TReport) (left : Int) => l.length ≤ maxLen ∧ (∀ x ∈ l, smM x) ∧ 0 ≤ left ∧ left ≤ 1099511627776) l left, (fun (l : List TReport) (left : Int) => (dI (szDeep szR l left) : D)) l left, (fun (l : List TReport) (left : Int) => []) l left) :=
  mkCon_fn (fun x y h _ => c32_inj x y h) ((l, left) : (List TReport) × Int) (by simp [nz, nz1, ML_nil, encLTReport]) rfl
@[simp] theorem c32_fn1 (s_l : Nat) (z_l : D) (left : Int) : c32.fn [.sl false s_l z_l [], .lit (.int .i64 left)] [] = some ((fun (l : List TReport) (left : Int) => l.length ≤ maxLen ∧ (∀ x ∈ l, smM x) ∧ 0 ≤ left ∧ left ≤ 1099511627776) [] left, (fun (l : List TReport) (left : Int) => (dI (szDeep szR l left) : D)) [] left, (fun (l : List TReport) (left : Int) => []) [] left) :=
  mkCon_fn (fun x y h _ => c32_inj x y h) (([], left) : (List TReport) × Int) (by simp [nz, nz1, ML_nil, encLTReport]) rfl
theorem c32_pc (l : List TReport) (left : Int) (hpre : l.length ≤ maxLen ∧ (∀ x ∈ l, smM x) ∧ 0 ≤ left ∧ left ≤ 1099511627776) : PCo Try.prog 32 [encLTReport l, dI left] (Tab.of []) (dI (szDeep szR l left)) (Tab.of []) := by
  refine pco_of_run [] (E := ⟨[c39], []⟩) (m := false) (base := 0) (Env.ok_cons c39_ok Env.ok_nil) G_ok mix 300 6 Try.func32 (by kernel_rfl) rfl (by kernel_rfl) (by kernel_rfl) rfl ?_
  simp [Try.f32]
  obtain ⟨hp1, hp2, hp3, hp4⟩ := hpre
  simp [maxLen] at hp1
  refine ⟨by omega, fun h => ?_, fun hn => ?_⟩
  · rw [szDeep, if_pos h]
  have hd : szDeep szR l left = szRun szR (left - l.length) l := by rw [szDeep, if_neg (by omega)]
  refine loop_inv (fun p : Nat × Int => p.1 ≤ l.length ∧ 0 ≤ p.2 ∧ p.2 ≤ left ∧ szDeep szR l left = szRun szR p.2 (l.drop p.1)) (fun p => [(0, encLTReport l), (1, dI p.2), (5, dI p.1)]) (fun _ => []) 1 (fun p => l.length - p.1) (0, left - l.length) 400 (by simp) (by simp [hd]; omega) (by simp) ?_
  intro ⟨p, q⟩ ⟨hp, hq1, hq2, hi⟩
  simp at hp hq1 hq2 hi ⊢
  refine ⟨fun hlt => ?_, fun hge => ?_⟩
  · rw [szRun_at (d := default) hlt] at hi
    have hx := hp2 _ (getD_mem (d := default) hlt)
    simp at hx
    have hle := szR_le (l[p]?.getD default) q
    refine ⟨⟨hlt, hx, hq1, by omega⟩, fun h => by rw [hi, if_pos h], fun h => ⟨by omega, ?_⟩⟩
    rw [if_neg (by omega)] at hi
    exact Again.mk (p + 1, szR (l[p]?.getD default) q) ⟨by simp; omega, by simp; omega, by have := hle (by omega); simp; omega, by simpa using hi⟩ (by simp) (by first | omega | (simp; omega))
  · rw [hi, szRun_end hge]
theorem c32_ok : c32.ok Try.prog := mkCon_ok fun ⟨l, left⟩ hpre => c32_pc l left hpre
/-- loop.example/g03007/laws.toReportS -/
noncomputable def c34 : Con := mkCon 34 false (α := (List TReport)) (fun x => (fun (l : List TReport) => [encLTReport l]) x) (fun _ => []) (fun x => (fun (l : List TReport) => l.length ≤ 1099511627776 ∧ ∀ x ∈ l, smR x) x) (fun x => (fun (l : List TReport) => (encLTReport l : D)) x) (fun x => (fun (l : List TReport) => []) x)
@[simp] theorem c34_f : c34.f = 34 := rfl
@[simp] theorem c34_own : c34.own = false := rfl
theorem c34_inj : ∀ u_ v_ : (List TReport), ((fun x => (fun (l : List TReport) => [encLTReport l]) x) u_).map nz = ((fun x => (fun (l : List TReport) => [encLTReport l]) x) v_).map nz → u_ = v_ := by
  intro u_ v_ h
  obtain l := u_
  obtain l' := v_
  simp [nz_lit, nz1_lit, nz_agg, nz_sl, nz1_sl, encLTReport] at h
  first | (simp [h]; done) | (obtain ⟨⟩ := h; simp_all; done) | simp_all
@[simp] theorem c34_fn (l : List TReport) : c34.fn [.sl false 8 yTReport (ML encTReport l)] [] = some ((fun (l : List TReport) => l.length ≤ 1099511627776 ∧ ∀ x ∈ l, smR x) l, (fun (l : List TReport) => (encLTReport l : D)) l, (fun (l : List TReport) => []) l) :=
  mkCon_fn (fun x y h _ => c34_inj x y h) (l : (List TReport)) (by simp [nz, nz1, ML_nil, encLTReport]) rfl
@[simp] theorem c34_fn1 (s_l : Nat) (z_l : D) : c34.fn [.sl false s_l z_l []] [] = some ((fun (l : List TReport) => l.length ≤ 1099511627776 ∧ ∀ x ∈ l, smR x) [], (fun (l : List TReport) => (encLTReport l : D)) [], (fun (l : List TReport) => []) []) :=
  mkCon_fn (fun x y h _ => c34_inj x y h) ([] : (List TReport)) (by simp [nz, nz1, ML_nil, encLTReport]) rfl
theorem c34_pc (l : List TReport) (hpre : l.length ≤ 1099511627776 ∧ ∀ x ∈ l, smR x) : PCo Try.prog 34 [encLTReport l] (Tab.of []) (encLTReport l) (Tab.of []) := by
  refine pco_of_run [] (E := ⟨[c41], []⟩) (m := false) (base := 0) (Env.ok_cons c41_ok Env.ok_nil) G_ok mix 300 6 Try.func34 (by kernel_rfl) rfl (by kernel_rfl) (by kernel_rfl) rfl ?_
  simp [Try.f34]
  obtain ⟨hp1, hp2⟩ := hpre
  refine ⟨by omega, ?_⟩
  refine loop_inv (fun p : Nat => p ≤ l.length) (fun p => [(0, encLTReport l), (3, .own (0, 1) 8 0 l.length), (4, dI p)]) (fun p => [((0, 1), .arr false 8 (.agg [dI 0, dI 0, .sl true 0 .any [], dI 0, dI 0, .sl true 0 .any [], dI 0, dI 0]) (ML encTReport (l.take p) ++ List.replicate (l.length - p) (.agg [dI 0, dI 0, .sl true 0 .any [], dI 0, dI 0, .sl true 0 .any [], dI 0, dI 0])))]) 2 (fun p => l.length - p) 0 400 (by simp) (by simp) (by simp) ?_
  intro p hp
  by_cases hlt : p < l.length
  · have hx := hp2 _ (getD_mem (d := default) hlt)
    simp at hx
    have hg := fillZ (e := encTReport) (z := (.agg [dI 0, dI 0, .sl true 0 .any [], dI 0, dI 0, .sl true 0 .any [], dI 0, dI 0])) (d := (.agg [dI 0, dI 0, .sl true 0 .any [], dI 0, dI 0, .sl true 0 .any [], dI 0, dI 0])) hlt
    have hs := fillS (e := encTReport) (z := (.agg [dI 0, dI 0, .sl true 0 .any [], dI 0, dI 0, .sl true 0 .any [], dI 0, dI 0])) (d := default) hlt rfl
    simp at hs
    simp [hg]
    refine ⟨fun _ => ?_, fun h => absurd hlt (by omega)⟩
    repeat' (first | exact hx | omega | refine And.intro ?_ ?_ | intro _)
    refine Again.mk (p + 1) (by omega) ?_ (by first | omega | (simp; omega))
    simp [hs]
  · have : p = l.length := by omega
    subst this; simp
theorem c34_ok : c34.ok Try.prog := mkCon_ok fun l hpre => c34_pc l hpre
/-- loop.example/g03007/laws.eqReportS -/
noncomputable def c36 : Con := mkCon 36 false (α := (List TReport) × (List TReport)) (fun x => (fun (a : List TReport) (b : List TReport) => [encLTReport a, encLTReport b]) x.1 x.2) (fun _ => []) (fun x => (fun (a : List TReport) (b : List TReport) => a.length ≤ 1099511627776 ∧ b.length ≤ 1099511627776 ∧ (∀ x ∈ a, smR x) ∧ ∀ x ∈ b, smR x) x.1 x.2) (fun x => (fun (a : List TReport) (b : List TReport) => (dB (decide (a = b)) : D)) x.1 x.2) (fun x => (fun (a : List TReport) (b : List TReport) => []) x.1 x.2)
@[simp] theorem c36_f : c36.f = 36 := rfl
@[simp] theorem c36_own : c36.own = false := rfl
theorem c36_inj : ∀ u_ v_ : (List TReport) × (List TReport), ((fun x => (fun (a : List TReport) (b : List TReport) => [encLTReport a, encLTReport b]) x.1 x.2) u_).map nz = ((fun x => (fun (a : List TReport) (b : List TReport) => [encLTReport a, encLTReport b]) x.1 x.2) v_).map nz → u_ = v_ := by
  intro u_ v_ h
  obtain ⟨a, b⟩ := u_
  obtain ⟨a', b'⟩ := v_
  simp [nz_lit, nz1_lit, nz_agg, nz_sl, nz1_sl, encLTReport] at h
  first | (simp [h]; done) | (obtain ⟨⟩ := h; simp_all; done) | simp_all
@[simp] theorem c36_fn (a : List TReport) (b : List TReport) : c36.fn [.sl false 8 yTReport (ML encTReport a), .sl false 8 yTReport (ML encTReport b)] [] = some ((fun (a : List TReport) (b : List TReport) => a.length ≤ 1099511627776 ∧ b.length ≤ 1099511627776 ∧ (∀ x ∈ a, smR x) ∧ ∀ x ∈ b, smR x) a b, (fun (a : List TReport) (b : List TReport) => (dB (decide (a = b)) : D)) a b, (fun (a : List TReport) (b : List TReport) => []) a b) :=
  mkCon_fn (fun x y h _ => c36_inj x y h) ((a, b) : (List TReport) × (List TReport)) (by simp [nz, nz1, ML_nil, encLTReport]) rfl
@[simp] theorem c36_fn1 (s_a : Nat) (z_a : D) (b : List TReport) : c36.fn [.sl false s_a z_a [], .sl false 8 yTReport (ML encTReport b)] [] = some ((fun (a : List TReport) (b : List TReport) => a.length ≤ 1099511627776 ∧ b.length ≤ 1099511627776 ∧ (∀ x ∈ a, smR x) ∧ ∀ x ∈ b, smR x) [] b, (fun (a : List TReport) (b : List TReport) => (dB (decide (a = b)) : D)) [] b, (fun (a : List TReport) (b : List TReport) => []) [] b) :=
  mkCon_fn (fun x y h _ => c36_inj x y h) (([], b) : (List TReport) × (List TReport)) (by simp [nz, nz1, ML_nil, encLTReport]) rfl
@[simp] theorem c36_fn2 (a : List TReport) (s_b : Nat) (z_b : D) : c36.fn [.sl false 8 yTReport (ML encTReport a), .sl false s_b z_b []] [] = some ((fun (a : List TReport) (b : List TReport) => a.length ≤ 1099511627776 ∧ b.length ≤ 1099511627776 ∧ (∀ x ∈ a, smR x) ∧ ∀ x ∈ b, smR x) a [], (fun (a : List TReport) (b : List TReport) => (dB (decide (a = b)) : D)) a [], (fun (a : List TReport) (b : List TReport) => []) a []) :=
  mkCon_fn (fun x y h _ => c36_inj x y h) ((a, []) : (List TReport) × (List TReport)) (by simp [nz, nz1, ML_nil, encLTReport]) rfl
@[simp] theorem c36_fn3 (s_a : Nat) (z_a : D) (s_b : Nat) (z_b : D) : c36.fn [.sl false s_a z_a [], .sl false s_b z_b []] [] = some ((fun (a : List TReport) (b : List TReport) => a.length ≤ 1099511627776 ∧ b.length ≤ 1099511627776 ∧ (∀ x ∈ a, smR x) ∧ ∀ x ∈ b, smR x) [] [], (fun (a : List TReport) (b : List TReport) => (dB (decide (a = b)) : D)) [] [], (fun (a : List TReport) (b : List TReport) => []) [] []) :=
  mkCon_fn (fun x y h _ => c36_inj x y h) (([], []) : (List TReport) × (List TReport)) (by simp [nz, nz1, ML_nil, encLTReport]) rfl
theorem c36_pc (a : List TReport) (b : List TReport) (hpre : a.length ≤ 1099511627776 ∧ b.length ≤ 1099511627776 ∧ (∀ x ∈ a, smR x) ∧ ∀ x ∈ b, smR x) : PCo Try.prog 36 [encLTReport a, encLTReport b] (Tab.of []) (dB (decide (a = b))) (Tab.of []) := by
  refine pco_of_run [] (E := ⟨[c43], []⟩) (m := false) (base := 0) (Env.ok_cons c43_ok Env.ok_nil) G_ok mix 300 6 Try.func36 (by kernel_rfl) rfl (by kernel_rfl) (by kernel_rfl) rfl ?_
  simp [Try.f36]
  obtain ⟨pre1, pre2, pre3, pre4⟩ := hpre
  refine ⟨fun h => ?_, fun h => by intro e; subst e; exact absurd rfl h⟩
  refine loop_inv (fun p : Nat => p ≤ a.length ∧ a.take p = b.take p) (fun p => [(0, encLTReport a), (1, encLTReport b), (5, dI p)]) (fun _ => []) 1 (fun p => a.length - p) 0 100 (by simp) (by simp) (by simp) ?_
  intro p ⟨hp, hi⟩
  simp
  refine ⟨fun hlt => ?_, fun hge => take_eq_full hi (by omega) (by omega)⟩
  have ha := pre3 _ (getD_mem (d := default) hlt)
  have hb := pre4 _ (getD_mem (d := default) (show p < b.length by omega))
  simp at ha hb
  refine ⟨⟨hlt, by omega, ha, hb⟩, fun h2 => ⟨by omega, Again.mk (p + 1) ⟨by omega, take_eq_step hi (by omega) (by omega) h2⟩ (by simp) (by first | omega | (simp; omega))⟩, fun h2 => by intro e; subst e; exact absurd rfl h2⟩
theorem c36_ok : c36.ok Try.prog := mkCon_ok fun ⟨a, b⟩ hpre => c36_pc a b hpre
theorem szR_ok (r : TReport) (q : Int) (h : 0 ≤ szR r q) : szR r q ≤ q ∧ (r.Colours.length ≤ q ∧ r.Places.length ≤ q) := ⟨(szR_len h).2.2, (szR_len h).1, (szR_len h).2.1⟩
theorem szRS_ok {l : List TReport} {left : Int} (h : 0 ≤ szDeep szR l left) : l.length ≤ left ∧ szDeep szR l left ≤ left ∧ ∀ x ∈ l, (x.Colours.length : Int) ≤ left ∧ x.Places.length ≤ left :=
  szDeep_all (R := fun q x => (x.Colours.length : Int) ≤ q ∧ x.Places.length ≤ q) szR_ok (fun a b x h h2 => ⟨by omega, by omega⟩) h
@[simp] def nReport (r : TReport) : Int := r.Id
/-- loop.example/g03007/impl.reportsInOrder -/
noncomputable def c108 : Con := mkCon 108 false (α := (List TReport)) (fun x => (fun (l : List TReport) => [encLTReport l]) x) (fun _ => []) (fun x => (fun (l : List TReport) => True) x) (fun x => (fun (l : List TReport) => (.agg [.sl false 8 yTReport (ML encTReport l), .fn (.func 188) [] []] : D)) x) (fun x => (fun (l : List TReport) => []) x)
@[simp] theorem c108_f : c108.f = 108 := rfl
@[simp] theorem c108_own : c108.own = false := rfl
theorem c108_inj : ∀ u_ v_ : (List TReport), ((fun x => (fun (l : List TReport) => [encLTReport l]) x) u_).map nz = ((fun x => (fun (l : List TReport) => [encLTReport l]) x) v_).map nz → u_ = v_ := by
  intro u_ v_ h
  obtain l := u_
  obtain l' := v_
  simp [nz_lit, nz1_lit, nz_agg, nz_sl, nz1_sl, encLTReport] at h
  first | (simp [h]; done) | (obtain ⟨⟩ := h; simp_all; done) | simp_all
@[simp] theorem c108_fn (l : List TReport) : c108.fn [.sl false 8 yTReport (ML encTReport l)] [] = some ((fun (l : List TReport) => True) l, (fun (l : List TReport) => (.agg [.sl false 8 yTReport (ML encTReport l), .fn (.func 188) [] []] : D)) l, (fun (l : List TReport) => []) l) :=
  mkCon_fn (fun x y h _ => c108_inj x y h) (l : (List TReport)) (by simp [nz, nz1, ML_nil, encLTReport]) rfl
@[simp] theorem c108_fn1 (s_l : Nat) (z_l : D) : c108.fn [.sl false s_l z_l []] [] = some ((fun (l : List TReport) => True) [], (fun (l : List TReport) => (.agg [.sl false 8 yTReport (ML encTReport l), .fn (.func 188) [] []] : D)) [], (fun (l : List TReport) => []) []) :=
  mkCon_fn (fun x y h _ => c108_inj x y h) ([] : (List TReport)) (by simp [nz, nz1, ML_nil, encLTReport]) rfl
theorem c108_pc (l : List TReport) : PCo Try.prog 108 [encLTReport l] (Tab.of []) (.agg [.sl false 8 yTReport (ML encTReport l), .fn (.func 188) [] []]) (Tab.of []) := by
  refine pco_of_run [] (E := ⟨[], []⟩) (m := false) (base := 0) Env.ok_nil G_ok mix 300 6 Try.func108 (by kernel_rfl) rfl (by kernel_rfl) (by kernel_rfl) rfl ?_
  simp [Try.f108]
  all_goals first | omega | (rw [Bool.eq_iff_iff]; simp; omega) | grind
theorem c108_ok : c108.ok Try.prog := mkCon_ok fun l hpre => c108_pc l
/-- loop.example/g03007/impl.reportsInOrder$1 -/
noncomputable def c188 : Con := mkCon 188 false (α := TReport) (fun x => (fun (x : TReport) => [encTReport x]) x) (fun _ => []) (fun x => (fun (x : TReport) => True) x) (fun x => (fun (x : TReport) => (dI (nReport x) : D)) x) (fun x => (fun (x : TReport) => []) x)
@[simp] theorem c188_f : c188.f = 188 := rfl
@[simp] theorem c188_own : c188.own = false := rfl
theorem c188_inj : ∀ u_ v_ : TReport, ((fun x => (fun (x : TReport) => [encTReport x]) x) u_).map nz = ((fun x => (fun (x : TReport) => [encTReport x]) x) v_).map nz → u_ = v_ := by
  intro u_ v_ h
  obtain ⟨x_Id, x_Kind, x_Colours, x_SizeLow, x_SizeHigh, x_Places, ⟨x_Span_From, x_Span_Until⟩⟩ := u_
  obtain ⟨x_Id', x_Kind', x_Colours', x_SizeLow', x_SizeHigh', x_Places', ⟨x_Span_From', x_Span_Until'⟩⟩ := v_
  simp [nz_lit, nz1_lit, nz_agg, nz_sl, nz1_sl, encLI, encTReport, encTSpan] at h
  first | (simp [h]; done) | (obtain ⟨⟩ := h; simp_all; done) | simp_all
@[simp] theorem c188_fn (x_Id : Int) (x_Kind : Int) (x_Colours : List Int) (x_SizeLow : Int) (x_SizeHigh : Int) (x_Places : List Int) (x_Span_From : Int) (x_Span_Until : Int) : c188.fn [.agg [.lit (.int .i64 x_Id), .lit (.int .i64 x_Kind), .sl false 1 (.lit (.int .i64 0)) (ML dI x_Colours), .lit (.int .i64 x_SizeLow), .lit (.int .i64 x_SizeHigh), .sl false 1 (.lit (.int .i64 0)) (ML dI x_Places), .lit (.int .i64 x_Span_From), .lit (.int .i64 x_Span_Until)]] [] = some ((fun (x : TReport) => True) ⟨x_Id, x_Kind, x_Colours, x_SizeLow, x_SizeHigh, x_Places, ⟨x_Span_From, x_Span_Until⟩⟩, (fun (x : TReport) => (dI (nReport x) : D)) ⟨x_Id, x_Kind, x_Colours, x_SizeLow, x_SizeHigh, x_Places, ⟨x_Span_From, x_Span_Until⟩⟩, (fun (x : TReport) => []) ⟨x_Id, x_Kind, x_Colours, x_SizeLow, x_SizeHigh, x_Places, ⟨x_Span_From, x_Span_Until⟩⟩) :=
  mkCon_fn (fun x y h _ => c188_inj x y h) (⟨x_Id, x_Kind, x_Colours, x_SizeLow, x_SizeHigh, x_Places, ⟨x_Span_From, x_Span_Until⟩⟩ : TReport) (by simp [nz, nz1, ML_nil, encLI, encTReport, encTSpan]) rfl
theorem c188_pc (x : TReport) : PCo Try.prog 188 [encTReport x] (Tab.of []) (dI (nReport x)) (Tab.of []) := by
  obtain ⟨x_Id, x_Kind, x_Colours, x_SizeLow, x_SizeHigh, x_Places, ⟨x_Span_From, x_Span_Until⟩⟩ := x
  refine pco_of_run [] (E := ⟨[], []⟩) (m := false) (base := 0) Env.ok_nil G_ok mix 300 6 Try.func188 (by kernel_rfl) rfl (by kernel_rfl) (by kernel_rfl) rfl ?_
  simp [Try.f188]
  all_goals first | omega | (rw [Bool.eq_iff_iff]; simp; omega) | grind
theorem c188_ok : c188.ok Try.prog := mkCon_ok fun x hpre => c188_pc x
/-- (loop.example/g03007/impl.sortedList[loop.example/g03007/impl.Report]).isValid -/
noncomputable def c109 : Con := mkCon 109 false (α := (List TReport) × Int) (fun x => (fun (l : List TReport) (lim : Int) => ([.agg [.sl false 8 yTReport (ML encTReport l), .fn (.func 188) [] []], dI lim, .fn (.func 110) [] []] : List D)) x.1 x.2) (fun x => (fun (l : List TReport) (lim : Int) => ([] : List (Nm × OO))) x.1 x.2) (fun x => (fun (l : List TReport) (lim : Int) => l.length ≤ 1099511627776 ∧ ∀ x ∈ l, smR x) x.1 x.2) (fun x => (fun (l : List TReport) (lim : Int) => (dB (decide (l.length ≤ lim) && ascBy mIsReport nReport none l) : D)) x.1 x.2) (fun x => (fun (l : List TReport) (lim : Int) => ([] : List (Nm × OO))) x.1 x.2)
@[simp] theorem c109_f : c109.f = 109 := rfl
@[simp] theorem c109_own : c109.own = false := rfl
theorem c109_inj : ∀ u_ v_ : (List TReport) × Int, ((fun x => (fun (l : List TReport) (lim : Int) => ([.agg [.sl false 8 yTReport (ML encTReport l), .fn (.func 188) [] []], dI lim, .fn (.func 110) [] []] : List D)) x.1 x.2) u_).map nz = ((fun x => (fun (l : List TReport) (lim : Int) => ([.agg [.sl false 8 yTReport (ML encTReport l), .fn (.func 188) [] []], dI lim, .fn (.func 110) [] []] : List D)) x.1 x.2) v_).map nz → (fun x => (fun (l : List TReport) (lim : Int) => ([] : List (Nm × OO))) x.1 x.2) u_ = (fun x => (fun (l : List TReport) (lim : Int) => ([] : List (Nm × OO))) x.1 x.2) v_ → u_ = v_ := by
  intro u_ v_ h h2_
  obtain ⟨l, lim⟩ := u_
  obtain ⟨l', lim'⟩ := v_
  simp [nz_lit, nz1_lit, nz_agg, nz_sl, nz1_sl, nz_sx, nz_el, nz1_el, nz_own, nz1_own, nz_ptr, nz_fn, nz_iface] at h h2_
  first | (simp [h, h2_]; done) | (obtain ⟨h3_, h4_⟩ := List.append_inj h2_ h.1; simp_all; done) | simp_all | grind
@[simp] theorem c109_fn (l : List TReport) (lim : Int) : c109.fn ([.agg [.sl false 8 yTReport (ML encTReport l), .fn (.func 188) [] []], dI lim, .fn (.func 110) [] []]) ([]) = some (l.length ≤ 1099511627776 ∧ ∀ x ∈ l, smR x, dB (decide (l.length ≤ lim) && ascBy mIsReport nReport none l), []) :=
  mkCon_fn c109_inj ((l, lim) : (List TReport) × Int) rfl rfl
theorem c109_pc (l : List TReport) (lim : Int) (hpre : l.length ≤ 1099511627776 ∧ ∀ x ∈ l, smR x) : PCo Try.prog 109 ([.agg [.sl false 8 yTReport (ML encTReport l), .fn (.func 188) [] []], dI lim, .fn (.func 110) [] []]) (Tab.of ([])) (dB (decide (l.length ≤ lim) && ascBy mIsReport nReport none l)) (Tab.of ([])) := by
  refine pco_of_run [6] (E := ⟨[c188, c110], []⟩) (m := false) (base := 0) (Env.ok_cons c188_ok (Env.ok_cons c110_ok Env.ok_nil)) G_ok mix 300 6 Try.func109 (by kernel_rfl) rfl (by kernel_rfl) (by kernel_rfl) rfl ?_
  simp [Try.f109]
  obtain ⟨hp1, hp2⟩ := hpre
  refine ⟨fun h h2 => by omega, fun hlim => ?_⟩
  refine loop_inv (fun p : Nat => p ≤ l.length ∧ ascBy mIsReport nReport none l = ascBy mIsReport nReport (prevO nReport l p) (l.drop p)) (fun p => [(2, .fn (.func 110) [] []), (3, .ptr (0, 1) 0), (6, dB false), (15, .sl false 8 yTReport (ML encTReport l)), (16, dI l.length), (17, dI p)]) (fun _ => [((0, 1), .box (.agg [.sl false 8 yTReport (ML encTReport l), .fn (.func 188) [] []]))]) 2 (fun p => l.length - p) 0 400 (by simp) (by simp) (by simp) ?_
  intro p ⟨hp, hi⟩
  simp
  refine ⟨fun hlt => ?_, fun hge => ?_⟩
  · have hx := hp2 _ (getD_mem (d := default) hlt)
    simp at hx
    rw [ascBy_at hlt] at hi; simp only [nReport, wantN] at hi
    repeat' (first | exact hx | omega | refine And.intro ?_ ?_ | intro _)
    all_goals first | exact Again.mk (p + 1) ⟨by omega, by rw [hi]; grind⟩ (by simp) (by first | omega | (simp; omega)) | (rw [hi]; grind)
  · rw [hi, ascBy_end hge]; simp; omega
theorem c109_ok : c109.ok Try.prog := mkCon_ok fun ⟨l, lim⟩ hpre => c109_pc l lim hpre
/-- (loop.example/g03007/impl.sortedList[loop.example/g03007/impl.Report]).indexOf$1 -/
noncomputable def c191 : Con := mkCon 191 false (α := TReport × (List TReport) × Int) (fun x => (fun (x : TReport) (l : List TReport) (n : Int) => ([encTReport x, .el (.agg [.sl false 8 yTReport (ML encTReport l), .fn (.func 188) [] []]), .el (dI n)] : List D)) x.1 x.2.1 x.2.2) (fun x => (fun (x : TReport) (l : List TReport) (n : Int) => ([] : List (Nm × OO))) x.1 x.2.1 x.2.2) (fun x => (fun (x : TReport) (l : List TReport) (n : Int) => True) x.1 x.2.1 x.2.2) (fun x => (fun (x : TReport) (l : List TReport) (n : Int) => (dB (wantN nReport n x) : D)) x.1 x.2.1 x.2.2) (fun x => (fun (x : TReport) (l : List TReport) (n : Int) => ([] : List (Nm × OO))) x.1 x.2.1 x.2.2)
@[simp] theorem c191_f : c191.f = 191 := rfl
@[simp] theorem c191_own : c191.own = false := rfl
theorem c191_inj : ∀ u_ v_ : TReport × (List TReport) × Int, ((fun x => (fun (x : TReport) (l : List TReport) (n : Int) => ([encTReport x, .el (.agg [.sl false 8 yTReport (ML encTReport l), .fn (.func 188) [] []]), .el (dI n)] : List D)) x.1 x.2.1 x.2.2) u_).map nz = ((fun x => (fun (x : TReport) (l : List TReport) (n : Int) => ([encTReport x, .el (.agg [.sl false 8 yTReport (ML encTReport l), .fn (.func 188) [] []]), .el (dI n)] : List D)) x.1 x.2.1 x.2.2) v_).map nz → (fun x => (fun (x : TReport) (l : List TReport) (n : Int) => ([] : List (Nm × OO))) x.1 x.2.1 x.2.2) u_ = (fun x => (fun (x : TReport) (l : List TReport) (n : Int) => ([] : List (Nm × OO))) x.1 x.2.1 x.2.2) v_ → u_ = v_ := by
  intro u_ v_ h h2_
  obtain ⟨⟨x_Id, x_Kind, x_Colours, x_SizeLow, x_SizeHigh, x_Places, ⟨x_Span_From, x_Span_Until⟩⟩, l, n⟩ := u_
  obtain ⟨⟨x_Id', x_Kind', x_Colours', x_SizeLow', x_SizeHigh', x_Places', ⟨x_Span_From', x_Span_Until'⟩⟩, l', n'⟩ := v_
  simp [nz_lit, nz1_lit, nz_agg, nz_sl, nz1_sl, nz_sx, nz_el, nz1_el, nz_own, nz1_own, nz_ptr, nz_fn, nz_iface] at h h2_
  first | (simp [h, h2_]; done) | (obtain ⟨h3_, h4_⟩ := List.append_inj h2_ h.1; simp_all; done) | simp_all | grind
@[simp] theorem c191_fn (x_Id : Int) (x_Kind : Int) (x_Colours : List Int) (x_SizeLow : Int) (x_SizeHigh : Int) (x_Places : List Int) (x_Span_From : Int) (x_Span_Until : Int) (l : List TReport) (n : Int) : c191.fn ([.agg [.lit (.int .i64 x_Id), .lit (.int .i64 x_Kind), .sl false 1 (.lit (.int .i64 0)) (ML dI x_Colours), .lit (.int .i64 x_SizeLow), .lit (.int .i64 x_SizeHigh), .sl false 1 (.lit (.int .i64 0)) (ML dI x_Places), .lit (.int .i64 x_Span_From), .lit (.int .i64 x_Span_Until)], .el (.agg [.sl false 8 yTReport (ML encTReport l), .fn (.func 188) [] []]), .el (dI n)]) ([]) = some (True, dB (wantN nReport n (⟨x_Id, x_Kind, x_Colours, x_SizeLow, x_SizeHigh, x_Places, ⟨x_Span_From, x_Span_Until⟩⟩ : TReport)), []) :=
  mkCon_fn c191_inj ((⟨x_Id, x_Kind, x_Colours, x_SizeLow, x_SizeHigh, x_Places, ⟨x_Span_From, x_Span_Until⟩⟩, l, n) : TReport × (List TReport) × Int) rfl rfl
theorem c191_pc (x : TReport) (l : List TReport) (n : Int) : PCo Try.prog 191 ([encTReport x, .el (.agg [.sl false 8 yTReport (ML encTReport l), .fn (.func 188) [] []]), .el (dI n)]) (Tab.of ([])) (dB (wantN nReport n x)) (Tab.of ([])) := by
  refine pco_of_run [1] (E := ⟨[c188], []⟩) (m := false) (base := 0) (Env.ok_cons c188_ok Env.ok_nil) G_ok mix 300 6 Try.func191 (by kernel_rfl) rfl (by kernel_rfl) (by kernel_rfl) rfl ?_
  simp [Try.f191]
  simp [wantN]; first | done | rfl
theorem c191_ok : c191.ok Try.prog := mkCon_ok fun ⟨x, l, n⟩ hpre => c191_pc x l n
/-- slices.IndexFunc[[]loop.example/g03007/impl.Repor -/
noncomputable def c190_i : Con := mkCon 190 false (α := (List TReport) × (List TReport) × Int) (fun x => (fun (l : List TReport) (l2 : List TReport) (n : Int) => ([.sl false 8 yTReport (ML encTReport l), .fn (.func 191) [] [.el (.agg [.sl false 8 yTReport (ML encTReport l2), .fn (.func 188) [] []]), .el (dI n)]] : List D)) x.1 x.2.1 x.2.2) (fun x => (fun (l : List TReport) (l2 : List TReport) (n : Int) => ([] : List (Nm × OO))) x.1 x.2.1 x.2.2) (fun x => (fun (l : List TReport) (l2 : List TReport) (n : Int) => l.length ≤ 1099511627776) x.1 x.2.1 x.2.2) (fun x => (fun (l : List TReport) (l2 : List TReport) (n : Int) => (dI (indexBy (wantN nReport n) 0 l) : D)) x.1 x.2.1 x.2.2) (fun x => (fun (l : List TReport) (l2 : List TReport) (n : Int) => ([] : List (Nm × OO))) x.1 x.2.1 x.2.2)
@[simp] theorem c190_i_f : c190_i.f = 190 := rfl
@[simp] theorem c190_i_own : c190_i.own = false := rfl
theorem c190_i_inj : ∀ u_ v_ : (List TReport) × (List TReport) × Int, ((fun x => (fun (l : List TReport) (l2 : List TReport) (n : Int) => ([.sl false 8 yTReport (ML encTReport l), .fn (.func 191) [] [.el (.agg [.sl false 8 yTReport (ML encTReport l2), .fn (.func 188) [] []]), .el (dI n)]] : List D)) x.1 x.2.1 x.2.2) u_).map nz = ((fun x => (fun (l : List TReport) (l2 : List TReport) (n : Int) => ([.sl false 8 yTReport (ML encTReport l), .fn (.func 191) [] [.el (.agg [.sl false 8 yTReport (ML encTReport l2), .fn (.func 188) [] []]), .el (dI n)]] : List D)) x.1 x.2.1 x.2.2) v_).map nz → (fun x => (fun (l : List TReport) (l2 : List TReport) (n : Int) => ([] : List (Nm × OO))) x.1 x.2.1 x.2.2) u_ = (fun x => (fun (l : List TReport) (l2 : List TReport) (n : Int) => ([] : List (Nm × OO))) x.1 x.2.1 x.2.2) v_ → u_ = v_ := by
  intro u_ v_ h h2_
  obtain ⟨l, l2, n⟩ := u_
  obtain ⟨l', l2', n'⟩ := v_
  simp [nz_lit, nz1_lit, nz_agg, nz_sl, nz1_sl, nz_sx, nz_el, nz1_el, nz_own, nz1_own, nz_ptr, nz_fn, nz_iface] at h h2_
  first | (simp [h, h2_]; done) | (obtain ⟨h3_, h4_⟩ := List.append_inj h2_ h.1; simp_all; done) | simp_all | grind
@[simp] theorem c190_i_fn (l : List TReport) (l2 : List TReport) (n : Int) : c190_i.fn ([.sl false 8 yTReport (ML encTReport l), .fn (.func 191) [] [.el (.agg [.sl false 8 yTReport (ML encTReport l2), .fn (.func 188) [] []]), .el (dI n)]]) ([]) = some (l.length ≤ 1099511627776, dI (indexBy (wantN nReport n) 0 l), []) :=
  mkCon_fn c190_i_inj ((l, l2, n) : (List TReport) × (List TReport) × Int) rfl rfl
theorem c190_i_pc (l : List TReport) (l2 : List TReport) (n : Int) (hpre : l.length ≤ 1099511627776) : PCo Try.prog 190 ([.sl false 8 yTReport (ML encTReport l), .fn (.func 191) [] [.el (.agg [.sl false 8 yTReport (ML encTReport l2), .fn (.func 188) [] []]), .el (dI n)]]) (Tab.of ([])) (dI (indexBy (wantN nReport n) 0 l)) (Tab.of ([])) := by
  refine pco_of_run [] (E := ⟨[c191], []⟩) (m := false) (base := 0) (Env.ok_cons c191_ok Env.ok_nil) G_ok mix 300 6 Try.func190 (by kernel_rfl) rfl (by kernel_rfl) (by kernel_rfl) rfl ?_
  simp [Try.f190]
  refine loop_inv (fun p : Nat => p ≤ l.length ∧ indexBy (wantN nReport n) 0 l = indexBy (wantN nReport n) p (l.drop p)) (fun p => [(0, .sl false 8 yTReport (ML encTReport l)), (1, .fn (.func 191) [] [.el (.agg [.sl false 8 yTReport (ML encTReport l2), .fn (.func 188) [] []]), .el (dI n)]), (7, dI l.length), (8, dI p)]) (fun _ => []) 1 (fun p => l.length - p) 0 400 (by simp) (by simp) (by simp) ?_
  intro p ⟨hp, hi⟩
  simp
  refine ⟨fun hlt => ?_, fun hge => ?_⟩
  · rw [indexBy_at (d := default) hlt] at hi
    repeat' (first | omega | refine And.intro ?_ ?_ | intro _)
    all_goals first | exact Again.mk (p + 1) ⟨by omega, by rw [hi]; grind⟩ (by simp) (by first | omega | (simp; omega)) | (rw [hi]; grind)
  · rw [hi, indexBy_end hge]
theorem c190_i_ok : c190_i.ok Try.prog := mkCon_ok fun ⟨l, l2, n⟩ hpre => c190_i_pc l l2 n hpre
/-- (loop.example/g03007/impl.sortedList[loop.example/g03007/impl.Report]).put$1 -/
noncomputable def c192 : Con := mkCon 192 false (α := TReport × (List TReport) × Int) (fun x => (fun (x : TReport) (l : List TReport) (n : Int) => ([encTReport x, .el (.agg [.sl false 8 yTReport (ML encTReport l), .fn (.func 188) [] []]), .el (dI n)] : List D)) x.1 x.2.1 x.2.2) (fun x => (fun (x : TReport) (l : List TReport) (n : Int) => ([] : List (Nm × OO))) x.1 x.2.1 x.2.2) (fun x => (fun (x : TReport) (l : List TReport) (n : Int) => True) x.1 x.2.1 x.2.2) (fun x => (fun (x : TReport) (l : List TReport) (n : Int) => (dB (geN nReport n x) : D)) x.1 x.2.1 x.2.2) (fun x => (fun (x : TReport) (l : List TReport) (n : Int) => ([] : List (Nm × OO))) x.1 x.2.1 x.2.2)
@[simp] theorem c192_f : c192.f = 192 := rfl
@[simp] theorem c192_own : c192.own = false := rfl
theorem c192_inj : ∀ u_ v_ : TReport × (List TReport) × Int, ((fun x => (fun (x : TReport) (l : List TReport) (n : Int) => ([encTReport x, .el (.agg [.sl false 8 yTReport (ML encTReport l), .fn (.func 188) [] []]), .el (dI n)] : List D)) x.1 x.2.1 x.2.2) u_).map nz = ((fun x => (fun (x : TReport) (l : List TReport) (n : Int) => ([encTReport x, .el (.agg [.sl false 8 yTReport (ML encTReport l), .fn (.func 188) [] []]), .el (dI n)] : List D)) x.1 x.2.1 x.2.2) v_).map nz → (fun x => (fun (x : TReport) (l : List TReport) (n : Int) => ([] : List (Nm × OO))) x.1 x.2.1 x.2.2) u_ = (fun x => (fun (x : TReport) (l : List TReport) (n : Int) => ([] : List (Nm × OO))) x.1 x.2.1 x.2.2) v_ → u_ = v_ := by
  intro u_ v_ h h2_
  obtain ⟨⟨x_Id, x_Kind, x_Colours, x_SizeLow, x_SizeHigh, x_Places, ⟨x_Span_From, x_Span_Until⟩⟩, l, n⟩ := u_
  obtain ⟨⟨x_Id', x_Kind', x_Colours', x_SizeLow', x_SizeHigh', x_Places', ⟨x_Span_From', x_Span_Until'⟩⟩, l', n'⟩ := v_
  simp [nz_lit, nz1_lit, nz_agg, nz_sl, nz1_sl, nz_sx, nz_el, nz1_el, nz_own, nz1_own, nz_ptr, nz_fn, nz_iface] at h h2_
  first | (simp [h, h2_]; done) | (obtain ⟨h3_, h4_⟩ := List.append_inj h2_ h.1; simp_all; done) | simp_all | grind
@[simp] theorem c192_fn (x_Id : Int) (x_Kind : Int) (x_Colours : List Int) (x_SizeLow : Int) (x_SizeHigh : Int) (x_Places : List Int) (x_Span_From : Int) (x_Span_Until : Int) (l : List TReport) (n : Int) : c192.fn ([.agg [.lit (.int .i64 x_Id), .lit (.int .i64 x_Kind), .sl false 1 (.lit (.int .i64 0)) (ML dI x_Colours), .lit (.int .i64 x_SizeLow), .lit (.int .i64 x_SizeHigh), .sl false 1 (.lit (.int .i64 0)) (ML dI x_Places), .lit (.int .i64 x_Span_From), .lit (.int .i64 x_Span_Until)], .el (.agg [.sl false 8 yTReport (ML encTReport l), .fn (.func 188) [] []]), .el (dI n)]) ([]) = some (True, dB (geN nReport n (⟨x_Id, x_Kind, x_Colours, x_SizeLow, x_SizeHigh, x_Places, ⟨x_Span_From, x_Span_Until⟩⟩ : TReport)), []) :=
  mkCon_fn c192_inj ((⟨x_Id, x_Kind, x_Colours, x_SizeLow, x_SizeHigh, x_Places, ⟨x_Span_From, x_Span_Until⟩⟩, l, n) : TReport × (List TReport) × Int) rfl rfl
theorem c192_pc (x : TReport) (l : List TReport) (n : Int) : PCo Try.prog 192 ([encTReport x, .el (.agg [.sl false 8 yTReport (ML encTReport l), .fn (.func 188) [] []]), .el (dI n)]) (Tab.of ([])) (dB (geN nReport n x)) (Tab.of ([])) := by
  refine pco_of_run [1] (E := ⟨[c188], []⟩) (m := false) (base := 0) (Env.ok_cons c188_ok Env.ok_nil) G_ok mix 300 6 Try.func192 (by kernel_rfl) rfl (by kernel_rfl) (by kernel_rfl) rfl ?_
  simp [Try.f192]
  simp [geN]; first | done | rfl
theorem c192_ok : c192.ok Try.prog := mkCon_ok fun ⟨x, l, n⟩ hpre => c192_pc x l n
/-- slices.IndexFunc[[]loop.example/g03007/impl.Repor -/
noncomputable def c190_p : Con := mkCon 190 false (α := (List TReport) × (List TReport) × Int) (fun x => (fun (l : List TReport) (l2 : List TReport) (n : Int) => ([.sl false 8 yTReport (ML encTReport l), .fn (.func 192) [] [.el (.agg [.sl false 8 yTReport (ML encTReport l2), .fn (.func 188) [] []]), .el (dI n)]] : List D)) x.1 x.2.1 x.2.2) (fun x => (fun (l : List TReport) (l2 : List TReport) (n : Int) => ([] : List (Nm × OO))) x.1 x.2.1 x.2.2) (fun x => (fun (l : List TReport) (l2 : List TReport) (n : Int) => l.length ≤ 1099511627776) x.1 x.2.1 x.2.2) (fun x => (fun (l : List TReport) (l2 : List TReport) (n : Int) => (dI (indexBy (geN nReport n) 0 l) : D)) x.1 x.2.1 x.2.2) (fun x => (fun (l : List TReport) (l2 : List TReport) (n : Int) => ([] : List (Nm × OO))) x.1 x.2.1 x.2.2)
@[simp] theorem c190_p_f : c190_p.f = 190 := rfl
@[simp] theorem c190_p_own : c190_p.own = false := rfl
theorem c190_p_inj : ∀ u_ v_ : (List TReport) × (List TReport) × Int, ((fun x => (fun (l : List TReport) (l2 : List TReport) (n : Int) => ([.sl false 8 yTReport (ML encTReport l), .fn (.func 192) [] [.el (.agg [.sl false 8 yTReport (ML encTReport l2), .fn (.func 188) [] []]), .el (dI n)]] : List D)) x.1 x.2.1 x.2.2) u_).map nz = ((fun x => (fun (l : List TReport) (l2 : List TReport) (n : Int) => ([.sl false 8 yTReport (ML encTReport l), .fn (.func 192) [] [.el (.agg [.sl false 8 yTReport (ML encTReport l2), .fn (.func 188) [] []]), .el (dI n)]] : List D)) x.1 x.2.1 x.2.2) v_).map nz → (fun x => (fun (l : List TReport) (l2 : List TReport) (n : Int) => ([] : List (Nm × OO))) x.1 x.2.1 x.2.2) u_ = (fun x => (fun (l : List TReport) (l2 : List TReport) (n : Int) => ([] : List (Nm × OO))) x.1 x.2.1 x.2.2) v_ → u_ = v_ := by
  intro u_ v_ h h2_
  obtain ⟨l, l2, n⟩ := u_
  obtain ⟨l', l2', n'⟩ := v_
  simp [nz_lit, nz1_lit, nz_agg, nz_sl, nz1_sl, nz_sx, nz_el, nz1_el, nz_own, nz1_own, nz_ptr, nz_fn, nz_iface] at h h2_
  first | (simp [h, h2_]; done) | (obtain ⟨h3_, h4_⟩ := List.append_inj h2_ h.1; simp_all; done) | simp_all | grind
@[simp] theorem c190_p_fn (l : List TReport) (l2 : List TReport) (n : Int) : c190_p.fn ([.sl false 8 yTReport (ML encTReport l), .fn (.func 192) [] [.el (.agg [.sl false 8 yTReport (ML encTReport l2), .fn (.func 188) [] []]), .el (dI n)]]) ([]) = some (l.length ≤ 1099511627776, dI (indexBy (geN nReport n) 0 l), []) :=
  mkCon_fn c190_p_inj ((l, l2, n) : (List TReport) × (List TReport) × Int) rfl rfl
theorem c190_p_pc (l : List TReport) (l2 : List TReport) (n : Int) (hpre : l.length ≤ 1099511627776) : PCo Try.prog 190 ([.sl false 8 yTReport (ML encTReport l), .fn (.func 192) [] [.el (.agg [.sl false 8 yTReport (ML encTReport l2), .fn (.func 188) [] []]), .el (dI n)]]) (Tab.of ([])) (dI (indexBy (geN nReport n) 0 l)) (Tab.of ([])) := by
  refine pco_of_run [] (E := ⟨[c192], []⟩) (m := false) (base := 0) (Env.ok_cons c192_ok Env.ok_nil) G_ok mix 300 6 Try.func190 (by kernel_rfl) rfl (by kernel_rfl) (by kernel_rfl) rfl ?_
  simp [Try.f190]
  refine loop_inv (fun p : Nat => p ≤ l.length ∧ indexBy (geN nReport n) 0 l = indexBy (geN nReport n) p (l.drop p)) (fun p => [(0, .sl false 8 yTReport (ML encTReport l)), (1, .fn (.func 192) [] [.el (.agg [.sl false 8 yTReport (ML encTReport l2), .fn (.func 188) [] []]), .el (dI n)]), (7, dI l.length), (8, dI p)]) (fun _ => []) 1 (fun p => l.length - p) 0 400 (by simp) (by simp) (by simp) ?_
  intro p ⟨hp, hi⟩
  simp
  refine ⟨fun hlt => ?_, fun hge => ?_⟩
  · rw [indexBy_at (d := default) hlt] at hi
    repeat' (first | omega | refine And.intro ?_ ?_ | intro _)
    all_goals first | exact Again.mk (p + 1) ⟨by omega, by rw [hi]; grind⟩ (by simp) (by first | omega | (simp; omega)) | (rw [hi]; grind)
  · rw [hi, indexBy_end hge]
theorem c190_p_ok : c190_p.ok Try.prog := mkCon_ok fun ⟨l, l2, n⟩ hpre => c190_p_pc l l2 n hpre
noncomputable def c190 : Con := selCon 190 false [([191], c190_i), ([192], c190_p)]
@[simp] theorem c190_f : c190.f = 190 := rfl
@[simp] theorem c190_own : c190.own = false := rfl
@[simp] theorem c190_fn0 (l : List TReport) (l2 : List TReport) (n : Int) : c190.fn ([.sl false 8 yTReport (ML encTReport l), .fn (.func 191) [] [.el (.agg [.sl false 8 yTReport (ML encTReport l2), .fn (.func 188) [] []]), .el (dI n)]]) ([]) = some (l.length ≤ 1099511627776, dI (indexBy (wantN nReport n) 0 l), []) := by
  rw [c190, selCon_fn]
  have h : selK [([191], c190_i), ([192], c190_p)] (keyDs ([.sl false 8 yTReport (ML encTReport l), .fn (.func 191) [] [.el (.agg [.sl false 8 yTReport (ML encTReport l2), .fn (.func 188) [] []]), .el (dI n)]])) = some c190_i := by simp
  rw [h]
  exact c190_i_fn l l2 n
@[simp] theorem c190_fn1 (l : List TReport) (l2 : List TReport) (n : Int) : c190.fn ([.sl false 8 yTReport (ML encTReport l), .fn (.func 192) [] [.el (.agg [.sl false 8 yTReport (ML encTReport l2), .fn (.func 188) [] []]), .el (dI n)]]) ([]) = some (l.length ≤ 1099511627776, dI (indexBy (geN nReport n) 0 l), []) := by
  rw [c190, selCon_fn]
  have h : selK [([191], c190_i), ([192], c190_p)] (keyDs ([.sl false 8 yTReport (ML encTReport l), .fn (.func 192) [] [.el (.agg [.sl false 8 yTReport (ML encTReport l2), .fn (.func 188) [] []]), .el (dI n)]])) = some c190_p := by simp
  rw [h]
  exact c190_p_fn l l2 n
theorem c190_ok : c190.ok Try.prog := selCon_ok fun p hp => by
  simp only [List.mem_cons, List.not_mem_nil, or_false] at hp
  rcases hp with rfl | rfl
  · exact ⟨rfl, c190_i_ok⟩
  · exact ⟨rfl, c190_p_ok⟩
/-- (loop.example/g03007/impl.sortedList[loop.example/g03007/impl.Report]).indexOf -/
noncomputable def c111 : Con := mkCon 111 false (α := (List TReport) × Int) (fun x => (fun (l : List TReport) (n : Int) => ([.agg [.sl false 8 yTReport (ML encTReport l), .fn (.func 188) [] []], dI n] : List D)) x.1 x.2) (fun x => (fun (l : List TReport) (n : Int) => ([] : List (Nm × OO))) x.1 x.2) (fun x => (fun (l : List TReport) (n : Int) => l.length ≤ 1099511627776) x.1 x.2) (fun x => (fun (l : List TReport) (n : Int) => (dI (indexBy (wantN nReport n) 0 l) : D)) x.1 x.2) (fun x => (fun (l : List TReport) (n : Int) => ([] : List (Nm × OO))) x.1 x.2)
@[simp] theorem c111_f : c111.f = 111 := rfl
@[simp] theorem c111_own : c111.own = false := rfl
theorem c111_inj : ∀ u_ v_ : (List TReport) × Int, ((fun x => (fun (l : List TReport) (n : Int) => ([.agg [.sl false 8 yTReport (ML encTReport l), .fn (.func 188) [] []], dI n] : List D)) x.1 x.2) u_).map nz = ((fun x => (fun (l : List TReport) (n : Int) => ([.agg [.sl false 8 yTReport (ML encTReport l), .fn (.func 188) [] []], dI n] : List D)) x.1 x.2) v_).map nz → (fun x => (fun (l : List TReport) (n : Int) => ([] : List (Nm × OO))) x.1 x.2) u_ = (fun x => (fun (l : List TReport) (n : Int) => ([] : List (Nm × OO))) x.1 x.2) v_ → u_ = v_ := by
  intro u_ v_ h h2_
  obtain ⟨l, n⟩ := u_
  obtain ⟨l', n'⟩ := v_
  simp [nz_lit, nz1_lit, nz_agg, nz_sl, nz1_sl, nz_sx, nz_el, nz1_el, nz_own, nz1_own, nz_ptr, nz_fn, nz_iface] at h h2_
  first | (simp [h, h2_]; done) | (obtain ⟨h3_, h4_⟩ := List.append_inj h2_ h.1; simp_all; done) | simp_all | grind
@[simp] theorem c111_fn (l : List TReport) (n : Int) : c111.fn ([.agg [.sl false 8 yTReport (ML encTReport l), .fn (.func 188) [] []], dI n]) ([]) = some (l.length ≤ 1099511627776, dI (indexBy (wantN nReport n) 0 l), []) :=
  mkCon_fn c111_inj ((l, n) : (List TReport) × Int) rfl rfl
theorem c111_pc (l : List TReport) (n : Int) (hpre : l.length ≤ 1099511627776) : PCo Try.prog 111 ([.agg [.sl false 8 yTReport (ML encTReport l), .fn (.func 188) [] []], dI n]) (Tab.of ([])) (dI (indexBy (wantN nReport n) 0 l)) (Tab.of ([])) := by
  refine pco_of_run [] (E := ⟨[c190, c191], []⟩) (m := false) (base := 0) (Env.ok_cons c190_ok (Env.ok_cons c191_ok Env.ok_nil)) G_ok mix 300 6 Try.func111 (by kernel_rfl) rfl (by kernel_rfl) (by kernel_rfl) rfl ?_
  simp [Try.f111]
  all_goals first | omega | (rw [Bool.eq_iff_iff]; simp; omega) | grind
theorem c111_ok : c111.ok Try.prog := mkCon_ok fun ⟨l, n⟩ hpre => c111_pc l n hpre
def mAreReports (l : List TReport) : Bool := decide (l.length ≤ 20) && ascBy mIsReport nReport none l
/-- loop.example/g03007/spec.AreReports -/
noncomputable def c33 : Con := mkCon 33 false (α := (List TReport)) (fun x => (fun (l : List TReport) => [encLTReport l]) x) (fun _ => []) (fun x => (fun (l : List TReport) => l.length ≤ 1099511627776 ∧ ∀ x ∈ l, smR x) x) (fun x => (fun (l : List TReport) => (dB (mAreReports l) : D)) x) (fun x => (fun (l : List TReport) => []) x)
@[simp] theorem c33_f : c33.f = 33 := rfl
@[simp] theorem c33_own : c33.own = false := rfl
theorem c33_inj : ∀ u_ v_ : (List TReport), ((fun x => (fun (l : List TReport) => [encLTReport l]) x) u_).map nz = ((fun x => (fun (l : List TReport) => [encLTReport l]) x) v_).map nz → u_ = v_ := by
  intro u_ v_ h
  obtain l := u_
  obtain l' := v_
  simp [nz_lit, nz1_lit, nz_agg, nz_sl, nz1_sl, encLTReport] at h
  first | (simp [h]; done) | (obtain ⟨⟩ := h; simp_all; done) | simp_all
@[simp] theorem c33_fn (l : List TReport) : c33.fn [.sl false 8 yTReport (ML encTReport l)] [] = some ((fun (l : List TReport) => l.length ≤ 1099511627776 ∧ ∀ x ∈ l, smR x) l, (fun (l : List TReport) => (dB (mAreReports l) : D)) l, (fun (l : List TReport) => []) l) :=
  mkCon_fn (fun x y h _ => c33_inj x y h) (l : (List TReport)) (by simp [nz, nz1, ML_nil, encLTReport]) rfl
@[simp] theorem c33_fn1 (s_l : Nat) (z_l : D) : c33.fn [.sl false s_l z_l []] [] = some ((fun (l : List TReport) => l.length ≤ 1099511627776 ∧ ∀ x ∈ l, smR x) [], (fun (l : List TReport) => (dB (mAreReports l) : D)) [], (fun (l : List TReport) => []) []) :=
  mkCon_fn (fun x y h _ => c33_inj x y h) ([] : (List TReport)) (by simp [nz, nz1, ML_nil, encLTReport]) rfl
theorem c33_pc (l : List TReport) (hpre : l.length ≤ 1099511627776 ∧ ∀ x ∈ l, smR x) : PCo Try.prog 33 [encLTReport l] (Tab.of []) (dB (mAreReports l)) (Tab.of []) := by
  refine pco_of_run [] (E := ⟨[c107], []⟩) (m := false) (base := 0) (Env.ok_cons c107_ok Env.ok_nil) G_ok mix 300 6 Try.func33 (by kernel_rfl) rfl (by kernel_rfl) (by kernel_rfl) rfl ?_
  simp [Try.f33]
  obtain ⟨hp1, hp2⟩ := hpre
  refine loop_inv (fun p : Nat => p ≤ l.length ∧ ascBy mIsReport nReport none l = ascBy mIsReport nReport (prevO nReport l p) (l.drop p)) (fun p => [(0, encLTReport l), (2, dB false), (3, dI p)]) (fun _ => []) 1 (fun p => l.length - p) 0 400 (by simp) (by simp) (by simp) ?_
  intro p ⟨hp, hi⟩
  simp
  refine ⟨fun hlt => ?_, fun hge => ?_⟩
  · have hx := hp2 _ (getD_mem (d := default) hlt)
    simp at hx
    rw [ascBy_at hlt] at hi; simp only [nReport, wantN] at hi
    refine ⟨by repeat' (first | exact hx | omega | refine And.intro ?_ ?_ | intro _), fun h => ?_, fun h1 h2 => ⟨by omega, Again.mk (p + 1) ⟨by omega, ?_⟩ (by simp) (by first | omega | (simp; omega))⟩⟩
    · rw [mAreReports, hi]; grind
    · rw [hi]; grind
  · rw [mAreReports, hi, ascBy_end hge]; simp; omega
theorem c33_ok : c33.ok Try.prog := mkCon_ok fun l hpre => c33_pc l hpre
/-- loop.example/g03007/impl.AreReports -/
noncomputable def c35 : Con := mkCon 35 false (α := (List TReport)) (fun x => (fun (l : List TReport) => [encLTReport l]) x) (fun _ => []) (fun x => (fun (l : List TReport) => l.length ≤ 1099511627776 ∧ ∀ x ∈ l, smR x) x) (fun x => (fun (l : List TReport) => (dB (mAreReports l) : D)) x) (fun x => (fun (l : List TReport) => []) x)
@[simp] theorem c35_f : c35.f = 35 := rfl
@[simp] theorem c35_own : c35.own = false := rfl
theorem c35_inj : ∀ u_ v_ : (List TReport), ((fun x => (fun (l : List TReport) => [encLTReport l]) x) u_).map nz = ((fun x => (fun (l : List TReport) => [encLTReport l]) x) v_).map nz → u_ = v_ := by
  intro u_ v_ h
  obtain l := u_
  obtain l' := v_
  simp [nz_lit, nz1_lit, nz_agg, nz_sl, nz1_sl, encLTReport] at h
  first | (simp [h]; done) | (obtain ⟨⟩ := h; simp_all; done) | simp_all
@[simp] theorem c35_fn (l : List TReport) : c35.fn [.sl false 8 yTReport (ML encTReport l)] [] = some ((fun (l : List TReport) => l.length ≤ 1099511627776 ∧ ∀ x ∈ l, smR x) l, (fun (l : List TReport) => (dB (mAreReports l) : D)) l, (fun (l : List TReport) => []) l) :=
  mkCon_fn (fun x y h _ => c35_inj x y h) (l : (List TReport)) (by simp [nz, nz1, ML_nil, encLTReport]) rfl
@[simp] theorem c35_fn1 (s_l : Nat) (z_l : D) : c35.fn [.sl false s_l z_l []] [] = some ((fun (l : List TReport) => l.length ≤ 1099511627776 ∧ ∀ x ∈ l, smR x) [], (fun (l : List TReport) => (dB (mAreReports l) : D)) [], (fun (l : List TReport) => []) []) :=
  mkCon_fn (fun x y h _ => c35_inj x y h) ([] : (List TReport)) (by simp [nz, nz1, ML_nil, encLTReport]) rfl
theorem c35_pc (l : List TReport) (hpre : l.length ≤ 1099511627776 ∧ ∀ x ∈ l, smR x) : PCo Try.prog 35 [encLTReport l] (Tab.of []) (dB (mAreReports l)) (Tab.of []) := by
  refine pco_of_run [] (E := ⟨[c108, c109, c110, c110], []⟩) (m := false) (base := 0) (Env.ok_cons c108_ok (Env.ok_cons c109_ok (Env.ok_cons c110_ok (Env.ok_cons c110_ok Env.ok_nil)))) G_ok mix 300 6 Try.func35 (by kernel_rfl) rfl (by kernel_rfl) (by kernel_rfl) rfl ?_
  simp [Try.f35]
  have h : ((l.length : Int) ≤ 20) ↔ l.length ≤ 20 := by omega
  simp at hpre
  simp [mAreReports, h, hpre]
  exact hpre.2
theorem c35_ok : c35.ok Try.prog := mkCon_ok fun l hpre => c35_pc l hpre
def mFindReport (l : List TReport) (n : Int) : Int := indexBy (wantN nReport n) 0 l
/-- loop.example/g03007/impl.FindReport -/
noncomputable def c38 : Con := mkCon 38 false (α := (List TReport) × Int) (fun x => (fun (l : List TReport) (n : Int) => [encLTReport l, dI n]) x.1 x.2) (fun _ => []) (fun x => (fun (l : List TReport) (n : Int) => l.length ≤ 1099511627776) x.1 x.2) (fun x => (fun (l : List TReport) (n : Int) => (dI (mFindReport l n) : D)) x.1 x.2) (fun x => (fun (l : List TReport) (n : Int) => []) x.1 x.2)
@[simp] theorem c38_f : c38.f = 38 := rfl
@[simp] theorem c38_own : c38.own = false := rfl
theorem c38_inj : ∀ u_ v_ : (List TReport) × Int, ((fun x => (fun (l : List TReport) (n : Int) => [encLTReport l, dI n]) x.1 x.2) u_).map nz = ((fun x => (fun (l : List TReport) (n : Int) => [encLTReport l, dI n]) x.1 x.2) v_).map nz → u_ = v_ := by
  intro u_ v_ h
  obtain ⟨l, n⟩ := u_
  obtain ⟨l', n'⟩ := v_
  simp [nz_lit, nz1_lit, nz_agg, nz_sl, nz1_sl, encLTReport] at h
  first | (simp [h]; done) | (obtain ⟨⟩ := h; simp_all; done) | simp_all
@[simp] theorem c38_fn (l : List TReport) (n : Int) : c38.fn [.sl false 8 yTReport (ML encTReport l), .lit (.int .i64 n)] [] = some ((fun (l : List TReport) (n : Int) => l.length ≤ 1099511627776) l n, (fun (l : List TReport) (n : Int) => (dI (mFindReport l n) : D)) l n, (fun (l : List TReport) (n : Int) => []) l n) :=
  mkCon_fn (fun x y h _ => c38_inj x y h) ((l, n) : (List TReport) × Int) (by simp [nz, nz1, ML_nil, encLTReport]) rfl
@[simp] theorem c38_fn1 (s_l : Nat) (z_l : D) (n : Int) : c38.fn [.sl false s_l z_l [], .lit (.int .i64 n)] [] = some ((fun (l : List TReport) (n : Int) => l.length ≤ 1099511627776) [] n, (fun (l : List TReport) (n : Int) => (dI (mFindReport l n) : D)) [] n, (fun (l : List TReport) (n : Int) => []) [] n) :=
  mkCon_fn (fun x y h _ => c38_inj x y h) (([], n) : (List TReport) × Int) (by simp [nz, nz1, ML_nil, encLTReport]) rfl
theorem c38_pc (l : List TReport) (n : Int) (hpre : l.length ≤ 1099511627776) : PCo Try.prog 38 [encLTReport l, dI n] (Tab.of []) (dI (mFindReport l n)) (Tab.of []) := by
  refine pco_of_run [] (E := ⟨[c108, c111], []⟩) (m := false) (base := 0) (Env.ok_cons c108_ok (Env.ok_cons c111_ok Env.ok_nil)) G_ok mix 300 6 Try.func38 (by kernel_rfl) rfl (by kernel_rfl) (by kernel_rfl) rfl ?_
  simp [Try.f38]
  exact ⟨hpre, rfl⟩
theorem c38_ok : c38.ok Try.prog := mkCon_ok fun ⟨l, n⟩ hpre => c38_pc l n hpre
/-- loop.example/g03007/spec.FindReport -/
noncomputable def c37 : Con := mkCon 37 false (α := (List TReport) × Int) (fun x => (fun (l : List TReport) (n : Int) => [encLTReport l, dI n]) x.1 x.2) (fun _ => []) (fun x => (fun (l : List TReport) (n : Int) => l.length ≤ 1099511627776) x.1 x.2) (fun x => (fun (l : List TReport) (n : Int) => (dI (mFindReport l n) : D)) x.1 x.2) (fun x => (fun (l : List TReport) (n : Int) => []) x.1 x.2)
@[simp] theorem c37_f : c37.f = 37 := rfl
@[simp] theorem c37_own : c37.own = false := rfl
theorem c37_inj : ∀ u_ v_ : (List TReport) × Int, ((fun x => (fun (l : List TReport) (n : Int) => [encLTReport l, dI n]) x.1 x.2) u_).map nz = ((fun x => (fun (l : List TReport) (n : Int) => [encLTReport l, dI n]) x.1 x.2) v_).map nz → u_ = v_ := by
  intro u_ v_ h
  obtain ⟨l, n⟩ := u_
  obtain ⟨l', n'⟩ := v_
  simp [nz_lit, nz1_lit, nz_agg, nz_sl, nz1_sl, encLTReport] at h
  first | (simp [h]; done) | (obtain ⟨⟩ := h; simp_all; done) | simp_all
@[simp] theorem c37_fn (l : List TReport) (n : Int) : c37.fn [.sl false 8 yTReport (ML encTReport l), .lit (.int .i64 n)] [] = some ((fun (l : List TReport) (n : Int) => l.length ≤ 1099511627776) l n, (fun (l : List TReport) (n : Int) => (dI (mFindReport l n) : D)) l n, (fun (l : List TReport) (n : Int) => []) l n) :=
  mkCon_fn (fun x y h _ => c37_inj x y h) ((l, n) : (List TReport) × Int) (by simp [nz, nz1, ML_nil, encLTReport]) rfl
@[simp] theorem c37_fn1 (s_l : Nat) (z_l : D) (n : Int) : c37.fn [.sl false s_l z_l [], .lit (.int .i64 n)] [] = some ((fun (l : List TReport) (n : Int) => l.length ≤ 1099511627776) [] n, (fun (l : List TReport) (n : Int) => (dI (mFindReport l n) : D)) [] n, (fun (l : List TReport) (n : Int) => []) [] n) :=
  mkCon_fn (fun x y h _ => c37_inj x y h) (([], n) : (List TReport) × Int) (by simp [nz, nz1, ML_nil, encLTReport]) rfl
theorem c37_pc (l : List TReport) (n : Int) (hpre : l.length ≤ 1099511627776) : PCo Try.prog 37 [encLTReport l, dI n] (Tab.of []) (dI (mFindReport l n)) (Tab.of []) := by
  refine pco_of_run [] (E := ⟨[], []⟩) (m := false) (base := 0) Env.ok_nil G_ok mix 300 6 Try.func37 (by kernel_rfl) rfl (by kernel_rfl) (by kernel_rfl) rfl ?_
  simp [Try.f37]
  refine loop_inv (fun p : Nat => p ≤ l.length ∧ mFindReport l n = indexBy (wantN nReport n) p (l.drop p)) (fun p => [(0, encLTReport l), (1, dI n), (5, dI p)]) (fun _ => []) 1 (fun p => l.length - p) 0 400 (by simp) (by simp [mFindReport]) (by simp) ?_
  intro p ⟨hp, hi⟩
  simp
  refine ⟨fun hlt => ?_, fun hge => ?_⟩
  · rw [indexBy_at (d := default) hlt] at hi; simp only [nReport, wantN] at hi
    refine ⟨by repeat' (first | omega | refine And.intro ?_ ?_ | intro _), fun h => ?_, fun h => ⟨by omega, Again.mk (p + 1) ⟨by omega, ?_⟩ (by simp) (by first | omega | (simp; omega))⟩⟩
    · rw [hi]; simp [h]
    · rw [hi]; simp [h]
  · rw [hi, indexBy_end hge]
theorem c37_ok : c37.ok Try.prog := mkCon_ok fun ⟨l, n⟩ hpre => c37_pc l n hpre
theorem wfRS {l : List TReport} (h : wfLTReport l) : l.length ≤ maxLen ∧ ∀ x ∈ l, x.Colours.length ≤ maxLen ∧ x.Places.length ≤ maxLen := ⟨h.1, fun x hx => wfR_len (h.2 x hx)⟩
/-- loop.example/g03007/laws.FnExactAreReports -/
theorem law6 (l : List TReport) (wl : wfLTReport l) : PCo Try.prog 6 [encLTReport l] (Tab.of []) (dB true) (Tab.of []) := by
  refine pco_of_run [] (E := ⟨[c32, c33, c34, c35, c36], []⟩) (m := false) (base := 0) (Env.ok_cons c32_ok (Env.ok_cons c33_ok (Env.ok_cons c34_ok (Env.ok_cons c35_ok (Env.ok_cons c36_ok Env.ok_nil))))) G_ok mix 400 6 Try.func6 (by kernel_rfl) rfl (by kernel_rfl) (by kernel_rfl) rfl ?_
  simp (config := {maxSteps := 3000000}) [Try.f6]
  have h1 := wfRS wl
  refine ⟨h1, fun h => ?_⟩
  have h2 := szRS_ok h
  have h3 : ∀ x ∈ l, x.Colours.length ≤ 1099511627776 ∧ x.Places.length ≤ 1099511627776 := fun x hx => by have := h2.2.2 x hx; omega
  repeat' (first | exact h3 | omega | refine And.intro ?_ ?_ | intro _)
theorem law6_pc (D0 : D) (h0 : Sh G 9 31 D0) : PC Try.prog 6 [D0] (dB true) [] := by
  obtain ⟨l, rfl, wl⟩ := sh31 (n := 5) h0
  exact law6 l wl
/-- loop.example/g03007/laws.FnExactFindReport -/
theorem law7 (l : List TReport) (wl : wfLTReport l) (n : Int) (wn : inR .i64 n) : PCo Try.prog 7 [encLTReport l, dI n] (Tab.of []) (dB true) (Tab.of []) := by
  refine pco_of_run [] (E := ⟨[c32, c34, c36, c37, c38], []⟩) (m := false) (base := 0) (Env.ok_cons c32_ok (Env.ok_cons c34_ok (Env.ok_cons c36_ok (Env.ok_cons c37_ok (Env.ok_cons c38_ok Env.ok_nil))))) G_ok mix 400 6 Try.func7 (by kernel_rfl) rfl (by kernel_rfl) (by kernel_rfl) rfl ?_
  simp (config := {maxSteps := 3000000}) [Try.f7]
  have h1 := wfRS wl
  refine ⟨h1, fun h => ?_⟩
  have h2 := szRS_ok h
  have h3 : ∀ x ∈ l, x.Colours.length ≤ 1099511627776 ∧ x.Places.length ≤ 1099511627776 := fun x hx => by have := h2.2.2 x hx; omega
  repeat' (first | exact h3 | omega | refine And.intro ?_ ?_ | intro _)
theorem law7_pc (D0 : D) (h0 : Sh G 9 31 D0) (D1 : D) (h1 : Sh G 9 3 D1) : PC Try.prog 7 [D0, D1] (dB true) [] := by
  obtain ⟨l, rfl, wl⟩ := sh31 (n := 5) h0
  obtain ⟨n, rfl, wn⟩ := sh3 (n := 8) h1
  exact law7 l wl n wn

end Go.Proofs.YtmhbciaolpamaaaR
