/- Contracts of the functions that the laws run. -/
import Derived.Test.Ytnghehfdclhfdaach07
import Derived.Test.YtnghehfdclhfdaahelpA
import Derived.Test.YtnghehfdclhfdaaEngB
namespace Go.Proofs.Ytnghehfdclhfdaa
open Go Go.Eng
set_option linter.unusedSimpArgs false
set_option linter.unusedVariables false
set_option maxRecDepth 10000
set_option maxHeartbeats 1000000
theorem indexBy_mem {n : Int} : ∀ (l : List Int) (i : Int), 0 ≤ i → (0 ≤ indexBy (wantN (fun x => x) n) i l ↔ n ∈ l)
  | [], i, _ => by simp [indexBy]
  | x :: r, i, hi => by
    simp only [indexBy, List.mem_cons]
    by_cases h : x = n
    · have hw : wantN (fun x => x) n x = true := by simp [wantN, h]
      rw [if_pos hw]; simp [hi, h]
    · have hw : wantN (fun x => x) n x = false := by simp [wantN, h]
      rw [if_neg (by simp [hw]), indexBy_mem r (i + 1) (by omega)]
      constructor
      · exact .inr
      · rintro (e | e)
        · exact absurd e.symm h
        · exact e
/-- slices.Index[[]in -/
noncomputable def c141 : Con := mkCon 141 false (α := (List Int) × Int) (fun x => (fun (l : List Int) (n : Int) => [encLI l, dI n]) x.1 x.2) (fun _ => []) (fun x => (fun (l : List Int) (n : Int) => l.length ≤ 1099511627776) x.1 x.2) (fun x => (fun (l : List Int) (n : Int) => (dI (indexBy (wantN (fun x => x) n) 0 l) : D)) x.1 x.2) (fun x => (fun (l : List Int) (n : Int) => []) x.1 x.2)
@[simp] theorem c141_f : c141.f = 141 := rfl
@[simp] theorem c141_own : c141.own = false := rfl
theorem c141_inj : ∀ u_ v_ : (List Int) × Int, ((fun x => (fun (l : List Int) (n : Int) => [encLI l, dI n]) x.1 x.2) u_).map nz = ((fun x => (fun (l : List Int) (n : Int) => [encLI l, dI n]) x.1 x.2) v_).map nz → u_ = v_ := by
  intro u_ v_ h
  obtain ⟨l, n⟩ := u_
  obtain ⟨l', n'⟩ := v_
  simp [nz_lit, nz1_lit, nz_agg, nz_sl, nz1_sl, encLI] at h
  first | (simp [h]; done) | (obtain ⟨⟩ := h; simp_all; done) | simp_all
@[simp] theorem c141_fn (l : List Int) (n : Int) : c141.fn [.sl false 1 (.lit (.int .i64 0)) (ML dI l), .lit (.int .i64 n)] [] = some ((fun (l : List Int) (n : Int) => l.length ≤ 1099511627776) l n, (fun (l : List Int) (n : Int) => (dI (indexBy (wantN (fun x => x) n) 0 l) : D)) l n, (fun (l : List Int) (n : Int) => []) l n) :=
  mkCon_fn (fun x y h _ => c141_inj x y h) ((l, n) : (List Int) × Int) (by simp [nz, nz1, ML_nil, encLI]) rfl
@[simp] theorem c141_fn1 (s_l : Nat) (z_l : D) (n : Int) : c141.fn [.sl false s_l z_l [], .lit (.int .i64 n)] [] = some ((fun (l : List Int) (n : Int) => l.length ≤ 1099511627776) [] n, (fun (l : List Int) (n : Int) => (dI (indexBy (wantN (fun x => x) n) 0 l) : D)) [] n, (fun (l : List Int) (n : Int) => []) [] n) :=
  mkCon_fn (fun x y h _ => c141_inj x y h) (([], n) : (List Int) × Int) (by simp [nz, nz1, ML_nil, encLI]) rfl
theorem c141_pc (l : List Int) (n : Int) (hpre : l.length ≤ 1099511627776) : PCo Try.prog 141 [encLI l, dI n] (Tab.of []) (dI (indexBy (wantN (fun x => x) n) 0 l)) (Tab.of []) := by
  refine pco_of_run [] (E := ⟨[], [], []⟩) (m := false) (base := 0) Env.ok_nil G_ok mix 300 6 Try.func141 (by kernel_rfl) rfl (by kernel_rfl) (by kernel_rfl) rfl ?_
  simp [Try.f141]
  refine loop_inv (fun p : Nat => p ≤ l.length ∧ indexBy (wantN (fun x => x) n) 0 l = indexBy (wantN (fun x => x) n) p (l.drop p)) (fun p => [(0, encLI l), (1, dI n), (7, dI l.length), (8, dI p)]) (fun _ => []) 1 (fun p => l.length - p) 0 400 (by simp) (by simp) (by simp) ?_
  intro p ⟨hp, hi⟩
  simp
  refine ⟨fun hlt => ?_, fun hge => ?_⟩
  · rw [indexBy_at (d := 0) hlt] at hi; simp only [wantN, decide_eq_true_eq] at hi
    repeat' (first | omega | refine And.intro ?_ ?_ | intro _)
    all_goals first | exact Again.mk (p + 1) ⟨by omega, by rw [hi]; grind⟩ (by simp) (by first | omega | (simp; omega)) | (rw [hi]; grind)
  · rw [hi, indexBy_end hge]
theorem c141_ok : c141.ok Try.prog := mkCon_ok fun ⟨l, n⟩ hpre => c141_pc l n hpre
/-- slices.Contains[[]in -/
noncomputable def c110 : Con := mkCon 110 false (α := (List Int) × Int) (fun x => (fun (l : List Int) (n : Int) => [encLI l, dI n]) x.1 x.2) (fun _ => []) (fun x => (fun (l : List Int) (n : Int) => l.length ≤ 1099511627776) x.1 x.2) (fun x => (fun (l : List Int) (n : Int) => (dB (decide (n ∈ l)) : D)) x.1 x.2) (fun x => (fun (l : List Int) (n : Int) => []) x.1 x.2)
@[simp] theorem c110_f : c110.f = 110 := rfl
@[simp] theorem c110_own : c110.own = false := rfl
theorem c110_inj : ∀ u_ v_ : (List Int) × Int, ((fun x => (fun (l : List Int) (n : Int) => [encLI l, dI n]) x.1 x.2) u_).map nz = ((fun x => (fun (l : List Int) (n : Int) => [encLI l, dI n]) x.1 x.2) v_).map nz → u_ = v_ := by
  intro u_ v_ h
  obtain ⟨l, n⟩ := u_
  obtain ⟨l', n'⟩ := v_
  simp [nz_lit, nz1_lit, nz_agg, nz_sl, nz1_sl, encLI] at h
  first | (simp [h]; done) | (obtain ⟨⟩ := h; simp_all; done) | simp_all
@[simp] theorem c110_fn (l : List Int) (n : Int) : c110.fn [.sl false 1 (.lit (.int .i64 0)) (ML dI l), .lit (.int .i64 n)] [] = some ((fun (l : List Int) (n : Int) => l.length ≤ 1099511627776) l n, (fun (l : List Int) (n : Int) => (dB (decide (n ∈ l)) : D)) l n, (fun (l : List Int) (n : Int) => []) l n) :=
  mkCon_fn (fun x y h _ => c110_inj x y h) ((l, n) : (List Int) × Int) (by simp [nz, nz1, ML_nil, encLI]) rfl
@[simp] theorem c110_fn1 (s_l : Nat) (z_l : D) (n : Int) : c110.fn [.sl false s_l z_l [], .lit (.int .i64 n)] [] = some ((fun (l : List Int) (n : Int) => l.length ≤ 1099511627776) [] n, (fun (l : List Int) (n : Int) => (dB (decide (n ∈ l)) : D)) [] n, (fun (l : List Int) (n : Int) => []) [] n) :=
  mkCon_fn (fun x y h _ => c110_inj x y h) (([], n) : (List Int) × Int) (by simp [nz, nz1, ML_nil, encLI]) rfl
theorem c110_pc (l : List Int) (n : Int) (hpre : l.length ≤ 1099511627776) : PCo Try.prog 110 [encLI l, dI n] (Tab.of []) (dB (decide (n ∈ l))) (Tab.of []) := by
  refine pco_of_run [] (E := ⟨[c141], [], []⟩) (m := false) (base := 0) (Env.ok_cons c141_ok Env.ok_nil) G_ok mix 300 6 Try.func110 (by kernel_rfl) rfl (by kernel_rfl) (by kernel_rfl) rfl ?_
  simp [Try.f110]
  refine ⟨hpre, ?_⟩
  exact indexBy_mem l 0 (by omega)
theorem c110_ok : c110.ok Try.prog := mkCon_ok fun ⟨l, n⟩ hpre => c110_pc l n hpre
def mAllows (l : List Int) (n : Int) : Bool := decide (l.length = 0) || decide (n ∈ l)
/-- loop.example/g03007/impl.allows -/
noncomputable def c79 : Con := mkCon 79 false (α := (List Int) × Int) (fun x => (fun (l : List Int) (n : Int) => [encLI l, dI n]) x.1 x.2) (fun _ => []) (fun x => (fun (l : List Int) (n : Int) => l.length ≤ 1099511627776) x.1 x.2) (fun x => (fun (l : List Int) (n : Int) => (dB (mAllows l n) : D)) x.1 x.2) (fun x => (fun (l : List Int) (n : Int) => []) x.1 x.2)
@[simp] theorem c79_f : c79.f = 79 := rfl
@[simp] theorem c79_own : c79.own = false := rfl
theorem c79_inj : ∀ u_ v_ : (List Int) × Int, ((fun x => (fun (l : List Int) (n : Int) => [encLI l, dI n]) x.1 x.2) u_).map nz = ((fun x => (fun (l : List Int) (n : Int) => [encLI l, dI n]) x.1 x.2) v_).map nz → u_ = v_ := by
  intro u_ v_ h
  obtain ⟨l, n⟩ := u_
  obtain ⟨l', n'⟩ := v_
  simp [nz_lit, nz1_lit, nz_agg, nz_sl, nz1_sl, encLI] at h
  first | (simp [h]; done) | (obtain ⟨⟩ := h; simp_all; done) | simp_all
@[simp] theorem c79_fn (l : List Int) (n : Int) : c79.fn [.sl false 1 (.lit (.int .i64 0)) (ML dI l), .lit (.int .i64 n)] [] = some ((fun (l : List Int) (n : Int) => l.length ≤ 1099511627776) l n, (fun (l : List Int) (n : Int) => (dB (mAllows l n) : D)) l n, (fun (l : List Int) (n : Int) => []) l n) :=
  mkCon_fn (fun x y h _ => c79_inj x y h) ((l, n) : (List Int) × Int) (by simp [nz, nz1, ML_nil, encLI]) rfl
@[simp] theorem c79_fn1 (s_l : Nat) (z_l : D) (n : Int) : c79.fn [.sl false s_l z_l [], .lit (.int .i64 n)] [] = some ((fun (l : List Int) (n : Int) => l.length ≤ 1099511627776) [] n, (fun (l : List Int) (n : Int) => (dB (mAllows l n) : D)) [] n, (fun (l : List Int) (n : Int) => []) [] n) :=
  mkCon_fn (fun x y h _ => c79_inj x y h) (([], n) : (List Int) × Int) (by simp [nz, nz1, ML_nil, encLI]) rfl
theorem c79_pc (l : List Int) (n : Int) (hpre : l.length ≤ 1099511627776) : PCo Try.prog 79 [encLI l, dI n] (Tab.of []) (dB (mAllows l n)) (Tab.of []) := by
  refine pco_of_run [] (E := ⟨[c110], [], []⟩) (m := false) (base := 0) (Env.ok_cons c110_ok Env.ok_nil) G_ok mix 300 6 Try.func79 (by kernel_rfl) rfl (by kernel_rfl) (by kernel_rfl) rfl ?_
  simp [Try.f79]
  simp [mAllows, hpre]
  first | rfl | omega | (rw [Bool.eq_iff_iff]; simp; done) | (rw [Bool.eq_iff_iff]; simp; omega) | (rw [Bool.eq_iff_iff]; simp; grind) | grind
theorem c79_ok : c79.ok Try.prog := mkCon_ok fun ⟨l, n⟩ hpre => c79_pc l n hpre
/-- loop.example/g03007/laws.toReport -/
noncomputable def c21f : Con := mkCon 21 false (α := TReport) (fun x => (fun (r : TReport) => [encTReport r]) x) (fun _ => []) (fun x => (fun (r : TReport) => smR r) x) (fun x => (fun (r : TReport) => (.agg [dI r.Id, dI r.Kind, .own (0, 1) 1 0 r.Colours.length, dI r.SizeLow, dI r.SizeHigh, .own (1, 1) 1 0 r.Places.length, dI r.Span.From, dI r.Span.Until] : D)) x) (fun x => (fun (r : TReport) => [((0, 1), .arr false 1 (dI 0) (ML dI r.Colours)), ((1, 1), .arr false 1 (dI 0) (ML dI r.Places))]) x)
@[simp] theorem c21f_f : c21f.f = 21 := rfl
@[simp] theorem c21f_own : c21f.own = false := rfl
theorem c21f_inj : ∀ u_ v_ : TReport, ((fun x => (fun (r : TReport) => [encTReport r]) x) u_).map nz = ((fun x => (fun (r : TReport) => [encTReport r]) x) v_).map nz → u_ = v_ := by
  intro u_ v_ h
  obtain ⟨r_Id, r_Kind, r_Colours, r_SizeLow, r_SizeHigh, r_Places, ⟨r_Span_From, r_Span_Until⟩⟩ := u_
  obtain ⟨r_Id', r_Kind', r_Colours', r_SizeLow', r_SizeHigh', r_Places', ⟨r_Span_From', r_Span_Until'⟩⟩ := v_
  simp [nz_lit, nz1_lit, nz_agg, nz_sl, nz1_sl, encLI, encTReport, encTSpan] at h
  first | (simp [h]; done) | (obtain ⟨⟩ := h; simp_all; done) | simp_all
@[simp] theorem c21f_fn (r_Id : Int) (r_Kind : Int) (r_Colours : List Int) (r_SizeLow : Int) (r_SizeHigh : Int) (r_Places : List Int) (r_Span_From : Int) (r_Span_Until : Int) : c21f.fn [.agg [.lit (.int .i64 r_Id), .lit (.int .i64 r_Kind), .sl false 1 (.lit (.int .i64 0)) (ML dI r_Colours), .lit (.int .i64 r_SizeLow), .lit (.int .i64 r_SizeHigh), .sl false 1 (.lit (.int .i64 0)) (ML dI r_Places), .lit (.int .i64 r_Span_From), .lit (.int .i64 r_Span_Until)]] [] = some ((fun (r : TReport) => smR r) ⟨r_Id, r_Kind, r_Colours, r_SizeLow, r_SizeHigh, r_Places, ⟨r_Span_From, r_Span_Until⟩⟩, (fun (r : TReport) => (.agg [dI r.Id, dI r.Kind, .own (0, 1) 1 0 r.Colours.length, dI r.SizeLow, dI r.SizeHigh, .own (1, 1) 1 0 r.Places.length, dI r.Span.From, dI r.Span.Until] : D)) ⟨r_Id, r_Kind, r_Colours, r_SizeLow, r_SizeHigh, r_Places, ⟨r_Span_From, r_Span_Until⟩⟩, (fun (r : TReport) => [((0, 1), .arr false 1 (dI 0) (ML dI r.Colours)), ((1, 1), .arr false 1 (dI 0) (ML dI r.Places))]) ⟨r_Id, r_Kind, r_Colours, r_SizeLow, r_SizeHigh, r_Places, ⟨r_Span_From, r_Span_Until⟩⟩) :=
  mkCon_fn (fun x y h _ => c21f_inj x y h) (⟨r_Id, r_Kind, r_Colours, r_SizeLow, r_SizeHigh, r_Places, ⟨r_Span_From, r_Span_Until⟩⟩ : TReport) (by simp [nz, nz1, ML_nil, encLI, encTReport, encTSpan]) rfl
theorem c21f_pc (r : TReport) (hpre : smR r) : PCo Try.prog 21 [encTReport r] (Tab.of []) (.agg [dI r.Id, dI r.Kind, .own (0, 1) 1 0 r.Colours.length, dI r.SizeLow, dI r.SizeHigh, .own (1, 1) 1 0 r.Places.length, dI r.Span.From, dI r.Span.Until]) (Tab.of [((0, 1), .arr false 1 (dI 0) (ML dI r.Colours)), ((1, 1), .arr false 1 (dI 0) (ML dI r.Places))]) := by
  obtain ⟨r_Id, r_Kind, r_Colours, r_SizeLow, r_SizeHigh, r_Places, ⟨r_Span_From, r_Span_Until⟩⟩ := r
  refine pco_of_run [] (E := ⟨[c53, c54], [], []⟩) (m := false) (base := 0) (Env.ok_cons c53_ok (Env.ok_cons c54_ok Env.ok_nil)) G_ok mix 300 6 Try.func21 (by kernel_rfl) rfl (by kernel_rfl) (by kernel_rfl) rfl ?_
  simp [Try.f21]
  simp at hpre
  exact hpre
theorem c21f_ok : c21f.ok Try.prog := mkCon_ok fun r hpre => c21f_pc r hpre
/-- loop.example/g03007/laws.markReport -/
noncomputable def c26 : Con := mkCon 26 true (α := TReport × Int) (fun x => (fun (r : TReport) (k : Int) => ([.agg [dI r.Id, dI r.Kind, .own (0, 0) 1 0 r.Colours.length, dI r.SizeLow, dI r.SizeHigh, .own (1, 0) 1 0 r.Places.length, dI r.Span.From, dI r.Span.Until], dI k] : List D)) x.1 x.2) (fun x => (fun (r : TReport) (k : Int) => ([((0, 0), .arr false 1 (dI 0) (ML dI r.Colours)), ((1, 0), .arr false 1 (dI 0) (ML dI r.Places))] : List (Nm × OO))) x.1 x.2) (fun x => (fun (r : TReport) (k : Int) => r.Colours.length ≤ 1099511627776 ∧ r.Places.length ≤ 1099511627776 ∧ 0 ≤ k ∧ k ≤ 1099511627776) x.1 x.2) (fun x => (fun (r : TReport) (k : Int) => (dI (k + r.Colours.length + r.Places.length) : D)) x.1 x.2) (fun x => (fun (r : TReport) (k : Int) => ([((0, 0), .arr false 1 (dI 0) (ML dI (mkL mk_I 1 k r.Colours.length))), ((1, 0), .arr false 1 (dI 0) (ML dI (mkL mk_I 1 (k + r.Colours.length) r.Places.length)))] : List (Nm × OO))) x.1 x.2)
@[simp] theorem c26_f : c26.f = 26 := rfl
@[simp] theorem c26_own : c26.own = true := rfl
theorem c26_inj : ∀ u_ v_ : TReport × Int, ((fun x => (fun (r : TReport) (k : Int) => ([.agg [dI r.Id, dI r.Kind, .own (0, 0) 1 0 r.Colours.length, dI r.SizeLow, dI r.SizeHigh, .own (1, 0) 1 0 r.Places.length, dI r.Span.From, dI r.Span.Until], dI k] : List D)) x.1 x.2) u_).map nz = ((fun x => (fun (r : TReport) (k : Int) => ([.agg [dI r.Id, dI r.Kind, .own (0, 0) 1 0 r.Colours.length, dI r.SizeLow, dI r.SizeHigh, .own (1, 0) 1 0 r.Places.length, dI r.Span.From, dI r.Span.Until], dI k] : List D)) x.1 x.2) v_).map nz → (fun x => (fun (r : TReport) (k : Int) => ([((0, 0), .arr false 1 (dI 0) (ML dI r.Colours)), ((1, 0), .arr false 1 (dI 0) (ML dI r.Places))] : List (Nm × OO))) x.1 x.2) u_ = (fun x => (fun (r : TReport) (k : Int) => ([((0, 0), .arr false 1 (dI 0) (ML dI r.Colours)), ((1, 0), .arr false 1 (dI 0) (ML dI r.Places))] : List (Nm × OO))) x.1 x.2) v_ → u_ = v_ := by
  intro u_ v_ h h2_
  obtain ⟨⟨r_Id, r_Kind, r_Colours, r_SizeLow, r_SizeHigh, r_Places, ⟨r_Span_From, r_Span_Until⟩⟩, k⟩ := u_
  obtain ⟨⟨r_Id', r_Kind', r_Colours', r_SizeLow', r_SizeHigh', r_Places', ⟨r_Span_From', r_Span_Until'⟩⟩, k'⟩ := v_
  simp [nz_lit, nz1_lit, nz_agg, nz_sl, nz1_sl, nz_sx, nz_el, nz1_el, nz_own, nz1_own, nz_ptr, nz_fn, nz_iface] at h h2_
  first | (simp [h, h2_]; done) | (obtain ⟨h3_, h4_⟩ := List.append_inj h2_ h.1; simp_all; done) | simp_all | grind
@[simp] theorem c26_fn (r_Id : Int) (r_Kind : Int) (r_Colours : List Int) (r_SizeLow : Int) (r_SizeHigh : Int) (r_Places : List Int) (r_Span_From : Int) (r_Span_Until : Int) (k : Int) : c26.fn ([.agg [dI (⟨r_Id, r_Kind, r_Colours, r_SizeLow, r_SizeHigh, r_Places, ⟨r_Span_From, r_Span_Until⟩⟩ : TReport).Id, dI (⟨r_Id, r_Kind, r_Colours, r_SizeLow, r_SizeHigh, r_Places, ⟨r_Span_From, r_Span_Until⟩⟩ : TReport).Kind, .own (0, 0) 1 0 (⟨r_Id, r_Kind, r_Colours, r_SizeLow, r_SizeHigh, r_Places, ⟨r_Span_From, r_Span_Until⟩⟩ : TReport).Colours.length, dI (⟨r_Id, r_Kind, r_Colours, r_SizeLow, r_SizeHigh, r_Places, ⟨r_Span_From, r_Span_Until⟩⟩ : TReport).SizeLow, dI (⟨r_Id, r_Kind, r_Colours, r_SizeLow, r_SizeHigh, r_Places, ⟨r_Span_From, r_Span_Until⟩⟩ : TReport).SizeHigh, .own (1, 0) 1 0 (⟨r_Id, r_Kind, r_Colours, r_SizeLow, r_SizeHigh, r_Places, ⟨r_Span_From, r_Span_Until⟩⟩ : TReport).Places.length, dI (⟨r_Id, r_Kind, r_Colours, r_SizeLow, r_SizeHigh, r_Places, ⟨r_Span_From, r_Span_Until⟩⟩ : TReport).Span.From, dI (⟨r_Id, r_Kind, r_Colours, r_SizeLow, r_SizeHigh, r_Places, ⟨r_Span_From, r_Span_Until⟩⟩ : TReport).Span.Until], dI k]) ([((0, 0), .arr false 1 (dI 0) (ML dI (⟨r_Id, r_Kind, r_Colours, r_SizeLow, r_SizeHigh, r_Places, ⟨r_Span_From, r_Span_Until⟩⟩ : TReport).Colours)), ((1, 0), .arr false 1 (dI 0) (ML dI (⟨r_Id, r_Kind, r_Colours, r_SizeLow, r_SizeHigh, r_Places, ⟨r_Span_From, r_Span_Until⟩⟩ : TReport).Places))]) = some ((⟨r_Id, r_Kind, r_Colours, r_SizeLow, r_SizeHigh, r_Places, ⟨r_Span_From, r_Span_Until⟩⟩ : TReport).Colours.length ≤ 1099511627776 ∧ (⟨r_Id, r_Kind, r_Colours, r_SizeLow, r_SizeHigh, r_Places, ⟨r_Span_From, r_Span_Until⟩⟩ : TReport).Places.length ≤ 1099511627776 ∧ 0 ≤ k ∧ k ≤ 1099511627776, dI (k + (⟨r_Id, r_Kind, r_Colours, r_SizeLow, r_SizeHigh, r_Places, ⟨r_Span_From, r_Span_Until⟩⟩ : TReport).Colours.length + (⟨r_Id, r_Kind, r_Colours, r_SizeLow, r_SizeHigh, r_Places, ⟨r_Span_From, r_Span_Until⟩⟩ : TReport).Places.length), [((0, 0), .arr false 1 (dI 0) (ML dI (mkL mk_I 1 k (⟨r_Id, r_Kind, r_Colours, r_SizeLow, r_SizeHigh, r_Places, ⟨r_Span_From, r_Span_Until⟩⟩ : TReport).Colours.length))), ((1, 0), .arr false 1 (dI 0) (ML dI (mkL mk_I 1 (k + (⟨r_Id, r_Kind, r_Colours, r_SizeLow, r_SizeHigh, r_Places, ⟨r_Span_From, r_Span_Until⟩⟩ : TReport).Colours.length) (⟨r_Id, r_Kind, r_Colours, r_SizeLow, r_SizeHigh, r_Places, ⟨r_Span_From, r_Span_Until⟩⟩ : TReport).Places.length)))]) :=
  mkCon_fn c26_inj ((⟨r_Id, r_Kind, r_Colours, r_SizeLow, r_SizeHigh, r_Places, ⟨r_Span_From, r_Span_Until⟩⟩, k) : TReport × Int) rfl rfl
theorem c26_pc (r : TReport) (k : Int) (hpre : r.Colours.length ≤ 1099511627776 ∧ r.Places.length ≤ 1099511627776 ∧ 0 ≤ k ∧ k ≤ 1099511627776) : PCo Try.prog 26 ([.agg [dI r.Id, dI r.Kind, .own (0, 0) 1 0 r.Colours.length, dI r.SizeLow, dI r.SizeHigh, .own (1, 0) 1 0 r.Places.length, dI r.Span.From, dI r.Span.Until], dI k]) (Tab.of ([((0, 0), .arr false 1 (dI 0) (ML dI r.Colours)), ((1, 0), .arr false 1 (dI 0) (ML dI r.Places))])) (dI (k + r.Colours.length + r.Places.length)) (Tab.of ([((0, 0), .arr false 1 (dI 0) (ML dI (mkL mk_I 1 k r.Colours.length))), ((1, 0), .arr false 1 (dI 0) (ML dI (mkL mk_I 1 (k + r.Colours.length) r.Places.length)))])) := by
  refine pco_of_run [] (E := ⟨[c16], [], []⟩) (m := false) (base := 0) (Env.ok_cons c16_ok Env.ok_nil) G_ok mix 300 6 Try.func26 (by kernel_rfl) rfl (by kernel_rfl) (by kernel_rfl) rfl ?_
  simp [Try.f26]
  obtain ⟨h1, h2, h3, h4⟩ := hpre
  refine ⟨⟨by omega, by omega, by omega⟩, by omega, by omega, by omega⟩
theorem c26_ok : c26.ok Try.prog := mkCon_ok fun ⟨r, k⟩ hpre => c26_pc r k hpre
@[simp] theorem markR_fn {i kd lo hi fr un k : Int} {c p : List Int} : c26.fn [.agg [.lit (.int .i64 i), .lit (.int .i64 kd), .own (0, 0) 1 0 c.length, .lit (.int .i64 lo), .lit (.int .i64 hi), .own (1, 0) 1 0 p.length, .lit (.int .i64 fr), .lit (.int .i64 un)], .lit (.int .i64 k)] [((0, 0), .arr false 1 (.lit (.int .i64 0)) (ML dI c)), ((1, 0), .arr false 1 (.lit (.int .i64 0)) (ML dI p))] = some (c.length ≤ 1099511627776 ∧ p.length ≤ 1099511627776 ∧ 0 ≤ k ∧ k ≤ 1099511627776, dI (k + c.length + p.length), [((0, 0), .arr false 1 (dI 0) (ML dI (mkL mk_I 1 k c.length))), ((1, 0), .arr false 1 (dI 0) (ML dI (mkL mk_I 1 (k + c.length) p.length)))]) := c26_fn i kd c lo hi p fr un k

end Go.Proofs.Ytnghehfdclhfdaa
