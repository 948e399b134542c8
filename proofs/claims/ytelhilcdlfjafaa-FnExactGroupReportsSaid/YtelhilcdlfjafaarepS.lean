/- Contracts of the functions that the laws run. -/
import Derived.Test.Ytelhilcdlfjafaach07b
import Derived.Test.YtelhilcdlfjafaahelpA
import Derived.Test.YtelhilcdlfjafaaEngB
namespace Go.Proofs.Ytelhilcdlfjafaa
open Go Go.Eng
set_option linter.unusedSimpArgs false
set_option linter.unusedVariables false
set_option maxRecDepth 10000
set_option maxHeartbeats 1000000
/-- loop.example/g03007/laws.toReport -/
noncomputable def c7f : Con := mkCon 7 false (α := TReport) (fun x => (fun (r : TReport) => [encTReport r]) x) (fun _ => []) (fun x => (fun (r : TReport) => smR r) x) (fun x => (fun (r : TReport) => (.agg [dI r.Id, dI r.Kind, .own (0, 1) 1 0 r.Colours.length, dI r.SizeLow, dI r.SizeHigh, .own (1, 1) 1 0 r.Places.length, dI r.Span.From, dI r.Span.Until] : D)) x) (fun x => (fun (r : TReport) => [((0, 1), .arr false 1 (dI 0) (ML dI r.Colours)), ((1, 1), .arr false 1 (dI 0) (ML dI r.Places))]) x)
@[simp] theorem c7f_f : c7f.f = 7 := rfl
@[simp] theorem c7f_own : c7f.own = false := rfl
theorem c7f_inj : ∀ u_ v_ : TReport, ((fun x => (fun (r : TReport) => [encTReport r]) x) u_).map nz = ((fun x => (fun (r : TReport) => [encTReport r]) x) v_).map nz → u_ = v_ := by
  intro u_ v_ h
  obtain ⟨r_Id, r_Kind, r_Colours, r_SizeLow, r_SizeHigh, r_Places, ⟨r_Span_From, r_Span_Until⟩⟩ := u_
  obtain ⟨r_Id', r_Kind', r_Colours', r_SizeLow', r_SizeHigh', r_Places', ⟨r_Span_From', r_Span_Until'⟩⟩ := v_
  simp [nz_lit, nz1_lit, nz_agg, nz_sl, nz1_sl, encLI, encTReport, encTSpan] at h
  first | (simp [h]; done) | (obtain ⟨⟩ := h; simp_all; done) | simp_all
@[simp] theorem c7f_fn (r_Id : Int) (r_Kind : Int) (r_Colours : List Int) (r_SizeLow : Int) (r_SizeHigh : Int) (r_Places : List Int) (r_Span_From : Int) (r_Span_Until : Int) : c7f.fn [.agg [.lit (.int .i64 r_Id), .lit (.int .i64 r_Kind), .sl false 1 (.lit (.int .i64 0)) (ML dI r_Colours), .lit (.int .i64 r_SizeLow), .lit (.int .i64 r_SizeHigh), .sl false 1 (.lit (.int .i64 0)) (ML dI r_Places), .lit (.int .i64 r_Span_From), .lit (.int .i64 r_Span_Until)]] [] = some ((fun (r : TReport) => smR r) ⟨r_Id, r_Kind, r_Colours, r_SizeLow, r_SizeHigh, r_Places, ⟨r_Span_From, r_Span_Until⟩⟩, (fun (r : TReport) => (.agg [dI r.Id, dI r.Kind, .own (0, 1) 1 0 r.Colours.length, dI r.SizeLow, dI r.SizeHigh, .own (1, 1) 1 0 r.Places.length, dI r.Span.From, dI r.Span.Until] : D)) ⟨r_Id, r_Kind, r_Colours, r_SizeLow, r_SizeHigh, r_Places, ⟨r_Span_From, r_Span_Until⟩⟩, (fun (r : TReport) => [((0, 1), .arr false 1 (dI 0) (ML dI r.Colours)), ((1, 1), .arr false 1 (dI 0) (ML dI r.Places))]) ⟨r_Id, r_Kind, r_Colours, r_SizeLow, r_SizeHigh, r_Places, ⟨r_Span_From, r_Span_Until⟩⟩) :=
  mkCon_fn (fun x y h _ => c7f_inj x y h) (⟨r_Id, r_Kind, r_Colours, r_SizeLow, r_SizeHigh, r_Places, ⟨r_Span_From, r_Span_Until⟩⟩ : TReport) (by simp [nz, nz1, ML_nil, encLI, encTReport, encTSpan]) rfl
theorem c7f_pc (r : TReport) (hpre : smR r) : PCo Try.prog 7 [encTReport r] (Tab.of []) (.agg [dI r.Id, dI r.Kind, .own (0, 1) 1 0 r.Colours.length, dI r.SizeLow, dI r.SizeHigh, .own (1, 1) 1 0 r.Places.length, dI r.Span.From, dI r.Span.Until]) (Tab.of [((0, 1), .arr false 1 (dI 0) (ML dI r.Colours)), ((1, 1), .arr false 1 (dI 0) (ML dI r.Places))]) := by
  obtain ⟨r_Id, r_Kind, r_Colours, r_SizeLow, r_SizeHigh, r_Places, ⟨r_Span_From, r_Span_Until⟩⟩ := r
  refine pco_of_run [] (E := ⟨[c22, c23], [], []⟩) (m := false) (base := 0) (Env.ok_cons c22_ok (Env.ok_cons c23_ok Env.ok_nil)) G_ok mix 300 6 Try.func7 (by kernel_rfl) rfl (by kernel_rfl) (by kernel_rfl) rfl ?_
  simp [Try.f7]
  simp at hpre
  exact hpre
theorem c7f_ok : c7f.ok Try.prog := mkCon_ok fun r hpre => c7f_pc r hpre
/-- loop.example/g03007/laws.toReportS -/
noncomputable def c12f : Con := mkCon 12 false (α := (List TReport)) (fun x => (fun (l : List TReport) => [encLTReport l]) x) (fun _ => []) (fun x => (fun (l : List TReport) => l.length ≤ 1099511627776 ∧ ∀ x ∈ l, smR x) x) (fun x => (fun (l : List TReport) => (.own (0, 1) 8 0 l.length : D)) x) (fun x => (fun (l : List TReport) => [((0, 1), .arr true 8 yTReport (ML encTReport l))]) x)
@[simp] theorem c12f_f : c12f.f = 12 := rfl
@[simp] theorem c12f_own : c12f.own = false := rfl
theorem c12f_inj : ∀ u_ v_ : (List TReport), ((fun x => (fun (l : List TReport) => [encLTReport l]) x) u_).map nz = ((fun x => (fun (l : List TReport) => [encLTReport l]) x) v_).map nz → u_ = v_ := by
  intro u_ v_ h
  obtain l := u_
  obtain l' := v_
  simp [nz_lit, nz1_lit, nz_agg, nz_sl, nz1_sl, encLTReport] at h
  first | (simp [h]; done) | (obtain ⟨⟩ := h; simp_all; done) | simp_all
@[simp] theorem c12f_fn (l : List TReport) : c12f.fn [.sl false 8 yTReport (ML encTReport l)] [] = some ((fun (l : List TReport) => l.length ≤ 1099511627776 ∧ ∀ x ∈ l, smR x) l, (fun (l : List TReport) => (.own (0, 1) 8 0 l.length : D)) l, (fun (l : List TReport) => [((0, 1), .arr true 8 yTReport (ML encTReport l))]) l) :=
  mkCon_fn (fun x y h _ => c12f_inj x y h) (l : (List TReport)) (by simp [nz, nz1, ML_nil, encLTReport]) rfl
@[simp] theorem c12f_fn1 (s_l : Nat) (z_l : D) : c12f.fn [.sl false s_l z_l []] [] = some ((fun (l : List TReport) => l.length ≤ 1099511627776 ∧ ∀ x ∈ l, smR x) [], (fun (l : List TReport) => (.own (0, 1) 8 0 l.length : D)) [], (fun (l : List TReport) => [((0, 1), .arr true 8 yTReport (ML encTReport l))]) []) :=
  mkCon_fn (fun x y h _ => c12f_inj x y h) ([] : (List TReport)) (by simp [nz, nz1, ML_nil, encLTReport]) rfl
theorem c12f_pc (l : List TReport) (hpre : l.length ≤ 1099511627776 ∧ ∀ x ∈ l, smR x) : PCo Try.prog 12 [encLTReport l] (Tab.of []) (.own (0, 1) 8 0 l.length) (Tab.of [((0, 1), .arr true 8 yTReport (ML encTReport l))]) := by
  refine pco_of_run [] (E := ⟨[c7f], [], []⟩) (m := false) (base := 0) (Env.ok_cons c7f_ok Env.ok_nil) G_ok mix 300 6 Try.func12 (by kernel_rfl) rfl (by kernel_rfl) (by kernel_rfl) rfl ?_
  simp [Try.f12]
  obtain ⟨hp1, hp2⟩ := hpre
  refine ⟨by omega, ?_⟩
  refine loop_inv (fun p : Nat => p ≤ l.length) (fun p => [(0, encLTReport l), (3, .own (0, 1) 8 0 l.length), (4, dI p)]) (fun p => [((0, 1), .arr true 8 yTReport (ML encTReport (l.take p) ++ List.replicate (l.length - p) (.agg [dI 0, dI 0, .sl true 0 .any [], dI 0, dI 0, .sl true 0 .any [], dI 0, dI 0])))]) 2 (fun p => l.length - p) 0 400 (by simp <;> exact .inr rfl) (by simp <;> exact .inr rfl) (by simp <;> exact .inr rfl) ?_
  intro p hp
  by_cases hlt : p < l.length
  · have hx := hp2 _ (getD_mem (d := default) hlt)
    simp at hx
    have hg := fun z => fillZ (e := encTReport) (z := .agg [dI 0, dI 0, .sl true 0 .any [], dI 0, dI 0, .sl true 0 .any [], dI 0, dI 0]) (d := z) hlt
    have hs := fillS (e := encTReport) (z := .agg [dI 0, dI 0, .sl true 0 .any [], dI 0, dI 0, .sl true 0 .any [], dI 0, dI 0]) (d := default) hlt rfl
    simp at hs
    simp [hg]
    refine ⟨fun _ => ?_, fun h => absurd hlt (by omega)⟩
    repeat' (first | exact hx | omega | refine And.intro ?_ ?_ | intro _)
    refine Again.mk (p + 1) (by omega) ?_ (by first | omega | (simp; omega))
    simp [hs]
  · have : p = l.length := by omega
    subst this; simp
theorem c12f_ok : c12f.ok Try.prog := mkCon_ok fun l hpre => c12f_pc l hpre
theorem ML_someR {l : List TReport} {j : Nat} (h : j < l.length) : (ML encTReport l)[j]? = some (encTReport (l[j]?.getD default)) := by
  simp [ML, h]
def totR : List TReport → Int
  | [] => 0
  | r :: t => 6 + r.Colours.length + r.Places.length + totR t
theorem totR_nn : ∀ (l : List TReport), 0 ≤ totR l
  | [] => by simp [totR]
  | r :: t => by have := totR_nn t; simp only [totR]; omega
theorem totR_at {l : List TReport} {p : Nat} (h : p < l.length) : totR (l.drop p) = 6 + (l[p]?.getD default).Colours.length + (l[p]?.getD default).Places.length + totR (l.drop (p + 1)) := by
  rw [drop_at (d := default) h, totR]
theorem totR_end {l : List TReport} {p : Nat} (h : l.length ≤ p) : totR (l.drop p) = 0 := by
  rw [List.drop_eq_nil_of_le h, totR]
theorem totR_run : ∀ (l : List TReport) (q : Int), 0 ≤ q → 0 ≤ szRun szR q l → totR l ≤ q + 6 * l.length
  | [], q, hq, _ => by simp [totR, hq]
  | r :: t, q, hq, h => by
    simp only [szRun] at h
    split at h
    · omega
    · rename_i hn
      have h1 := totR_run t (szR r q) (by omega) h
      have h2 : szR r q = q - r.Colours.length - r.Places.length := by
        simp only [szR] at hn ⊢
        split at hn
        · omega
        · rename_i h3; rw [if_neg h3]
      simp only [totR, List.length_cons]; omega
theorem totR_sz {l : List TReport} {left : Int} (h0 : l.length ≤ left) (h : 0 ≤ szDeep szR l left) : totR l ≤ left + 5 * l.length := by
  rw [szDeep, if_neg (by omega)] at h
  have := totR_run l _ (by omega) h
  omega
/-- loop.example/g03007/laws.markReportS -/
noncomputable def c16 : Con := mkCon 16 true (α := (List TReport) × Int) (fun x => (fun (l : List TReport) (k : Int) => ([.own (0, 0) 8 0 l.length, dI k] : List D)) x.1 x.2) (fun x => (fun (l : List TReport) (k : Int) => ([((0, 0), .arr true 8 yTReport (ML encTReport l))] : List (Nm × OO))) x.1 x.2) (fun x => (fun (l : List TReport) (k : Int) => l.length ≤ 1099511627776 ∧ (∀ x ∈ l, smR x) ∧ 0 ≤ k ∧ k + totR l ≤ 1099511627776) x.1 x.2) (fun x => (fun (l : List TReport) (k : Int) => (dI (k + totR l) : D)) x.1 x.2) (fun x => (fun (l : List TReport) (k : Int) => ([] : List (Nm × OO))) x.1 x.2)
@[simp] theorem c16_f : c16.f = 16 := rfl
@[simp] theorem c16_own : c16.own = true := rfl
theorem c16_inj : ∀ u_ v_ : (List TReport) × Int, ((fun x => (fun (l : List TReport) (k : Int) => ([.own (0, 0) 8 0 l.length, dI k] : List D)) x.1 x.2) u_).map nz = ((fun x => (fun (l : List TReport) (k : Int) => ([.own (0, 0) 8 0 l.length, dI k] : List D)) x.1 x.2) v_).map nz → (fun x => (fun (l : List TReport) (k : Int) => ([((0, 0), .arr true 8 yTReport (ML encTReport l))] : List (Nm × OO))) x.1 x.2) u_ = (fun x => (fun (l : List TReport) (k : Int) => ([((0, 0), .arr true 8 yTReport (ML encTReport l))] : List (Nm × OO))) x.1 x.2) v_ → u_ = v_ := by
  intro u_ v_ h h2_
  obtain ⟨l, k⟩ := u_
  obtain ⟨l', k'⟩ := v_
  simp [nz_lit, nz1_lit, nz_agg, nz_sl, nz1_sl, nz_sx, nz_el, nz1_el, nz_own, nz1_own, nz_ptr, nz_fn, nz_iface] at h h2_
  first | (simp [h, h2_]; done) | (obtain ⟨h3_, h4_⟩ := List.append_inj h2_ h.1; simp_all; done) | simp_all | grind
@[simp] theorem c16_fn (l : List TReport) (k : Int) : c16.fn ([.own (0, 0) 8 0 l.length, dI k]) ([((0, 0), .arr true 8 yTReport (ML encTReport l))]) = some (l.length ≤ 1099511627776 ∧ (∀ x ∈ l, smR x) ∧ 0 ≤ k ∧ k + totR l ≤ 1099511627776, dI (k + totR l), []) :=
  mkCon_fn c16_inj ((l, k) : (List TReport) × Int) rfl rfl
theorem c16_pc (l : List TReport) (k : Int) (hpre : l.length ≤ 1099511627776 ∧ (∀ x ∈ l, smR x) ∧ 0 ≤ k ∧ k + totR l ≤ 1099511627776) : PCo Try.prog 16 ([.own (0, 0) 8 0 l.length, dI k]) (Tab.of ([((0, 0), .arr true 8 yTReport (ML encTReport l))])) (dI (k + totR l)) (Tab.of ([])) := by
  refine pco_of_run [] (E := ⟨[c17], [], []⟩) (m := false) (base := 0) (Env.ok_cons c17_ok Env.ok_nil) G_ok mix 300 6 Try.func16 (by kernel_rfl) rfl (by kernel_rfl) (by kernel_rfl) rfl ?_
  simp [Try.f16]
  obtain ⟨hp1, hp2, hp3, hp4⟩ := hpre
  refine loop_inv (fun s : Nat × Int × List D => s.1 ≤ l.length ∧ 0 ≤ s.2.1 ∧ s.2.1 + totR (l.drop s.1) = k + totR l ∧ s.2.2.length = l.length ∧ ∀ j, s.1 ≤ j → j < l.length → s.2.2[j]? = some (encTReport (l[j]?.getD default))) (fun s => [(0, .own (0, 0) 8 0 l.length), (1, dI s.2.1), (5, dI s.1)]) (fun s => [((0, 0), .arr true 8 yTReport s.2.2)]) 1 (fun s => l.length - s.1) (0, k, ML encTReport l) 400 (by simp) ⟨by simp, hp3, by simp, by simp, fun j _ h => ML_someR h⟩ (by simp) ?_
  intro ⟨p, q, xs⟩ ⟨hp, hq, ht, hl, hx⟩
  simp only at hp hq ht hl hx
  by_cases hlt : p < l.length
  · have hm := hp2 _ (getD_mem (d := default) hlt)
    simp at hm
    have hxp := hx p (Nat.le_refl p) hlt
    have hn := totR_nn (l.drop (p + 1))
    rw [totR_at hlt] at ht
    generalize hr : l[p]?.getD default = r at *
    have hg : ∀ z, xs[p]?.getD z = .agg [dI r.Id, dI r.Kind, encLI r.Colours, dI r.SizeLow, dI r.SizeHigh, encLI r.Places, dI r.Span.From, dI r.Span.Until] := fun z => by rw [hxp]; rfl
    have hs : ∀ A, (xs.set p A)[p]? = some A := fun A => by simp [hl, hlt]
    have hpl : p < xs.length := by omega
    simp [hg, hs]
    refine ⟨fun _ => ?_, fun h => absurd hlt (by omega)⟩
    repeat' (first | omega | refine And.intro ?_ ?_ | intro _)
    refine Again.mk (p + 1, q + 1 + 1 + r.Colours.length + 1 + 1 + r.Places.length + 1 + 1, xs.set p (.agg [dI q, dI (q + 1), .any, dI (q + 1 + 1 + r.Colours.length), dI (q + 1 + 1 + r.Colours.length + 1), .any, dI (q + 1 + 1 + r.Colours.length + 1 + 1 + r.Places.length), dI (q + 1 + 1 + r.Colours.length + 1 + 1 + r.Places.length + 1)])) ⟨by simp; omega, by simp; omega, by simp; omega, by simp [hl], fun j hj hj2 => ?_⟩ ?_ (by simp; omega)
    · have hne : p ≠ j := by simp at hj; omega
      simp only [List.getElem?_set_ne hne]
      exact hx j (by simp at hj; omega) hj2
    · simp
      trace_state
  · rw [totR_end (by omega)] at ht
    simp
    exact ⟨fun h => absurd h hlt, fun _ => by omega⟩
theorem c16_ok : c16.ok Try.prog := mkCon_ok fun ⟨l, k⟩ hpre => c16_pc l k hpre

end Go.Proofs.Ytelhilcdlfjafaa
