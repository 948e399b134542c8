/- Contracts of the functions that the laws run. -/
import Derived.Test.YtbpcabaaniiggaaDoorch27u
import Derived.Test.YtbpcabaaniiggaaDoorch07
import Derived.Test.YtbpcabaaniiggaaDoorEngB
namespace Go.Proofs.YtbpcabaaniiggaaDoor
open Go Go.Eng
set_option linter.unusedSimpArgs false
set_option linter.unusedVariables false
set_option maxRecDepth 10000
set_option maxHeartbeats 1000000
theorem ascW_in {hi : Int} : ∀ {l : List Int} {lo : Int}, ascW hi lo l = true → (∀ x ∈ l, lo ≤ x ∧ x ≤ hi) ∧ ((l.length : Int) ≤ hi - lo + 1 ∨ l = [])
  | [], lo, _ => ⟨by simp, .inr rfl⟩
  | x :: r, lo, h => by
    simp only [ascW, Bool.and_eq_true] at h
    have hx := mIn_iff.1 h.1
    obtain ⟨h1, h2⟩ := ascW_in h.2
    refine ⟨fun y hy => ?_, .inl ?_⟩
    · rcases List.mem_cons.1 hy with rfl | hy
      · exact hx
      · have := h1 y hy; omega
    · rcases h2 with h2 | rfl
      · simp; omega
      · simp; omega
theorem report_in {r : TReport} (h : mIsReport r = true) : (1 ≤ r.Id ∧ r.Id ≤ 999) ∧ (r.Colours.length ≤ 8 ∧ ∀ x ∈ r.Colours, okI x) ∧ (1 ≤ r.SizeLow ∧ r.SizeLow ≤ 50) ∧ (1 ≤ r.SizeHigh ∧ r.SizeHigh ≤ 50) ∧ (r.Places.length ≤ 30 ∧ ∀ x ∈ r.Places, okI x) ∧ (0 ≤ r.Span.From ∧ r.Span.From ≤ 100000) ∧ (0 ≤ r.Span.Until ∧ r.Span.Until ≤ 100000) := by
  simp only [mIsReport, Bool.and_eq_true, decide_eq_true_eq] at h
  obtain ⟨⟨⟨⟨⟨⟨⟨⟨h1, _⟩, h2⟩, h3⟩, h4⟩, h5⟩, h6⟩, _⟩, h7⟩ := h
  have i1 := mIn_iff.1 h1
  obtain ⟨c1, c2⟩ := ascW_in h2
  obtain ⟨p1, p2⟩ := ascW_in h6
  have i7 := isSpan_of h7
  refine ⟨i1, ⟨?_, fun x hx => ?_⟩, ⟨by omega, by omega⟩, ⟨by omega, by omega⟩, ⟨?_, fun x hx => ?_⟩, ⟨by omega, by omega⟩, ⟨by omega, by omega⟩⟩
  · rcases c2 with c2 | c2
    · omega
    · rw [c2]; simp
  · have := c1 x hx; simp only [okI]; omega
  · rcases p2 with p2 | p2
    · omega
    · rw [p2]; simp
  · have := p1 x hx; simp only [okI]; omega
def da : ByteArray := ⟨#[45]⟩
def mReportText (r : TReport) : ByteArray := if mIsReport r then ((((((((((((((mInt r.Id ++ sp1) ++ mKind r.Kind) ++ sp1) ++ mListText r.Colours) ++ sp1) ++ mInt r.SizeLow) ++ da) ++ mInt r.SizeHigh) ++ sp1) ++ mListText r.Places) ++ sp1) ++ mInt r.Span.From) ++ da) ++ mInt r.Span.Until) else ⟨#[]⟩
theorem mJoin2 (a b s : ByteArray) : mJoin [a, b] s = (a ++ s) ++ b := by
  apply ByteArray.ext
  apply Array.ext'
  simp [mJoin, Go.Lib.join, List.intercalate, ByteArray.data_append]
theorem mJoin6 (a b c d e f s : ByteArray) : mJoin [a, b, c, d, e, f] s = (((((((((a ++ s) ++ b) ++ s) ++ c) ++ s) ++ d) ++ s) ++ e) ++ s) ++ f := by
  apply ByteArray.ext
  apply Array.ext'
  simp [mJoin, Go.Lib.join, List.intercalate, ByteArray.data_append]
theorem report_join {r : TReport} (h : mIsReport r = true) : mReportText r = mJoin [mInt r.Id, mKind r.Kind, mListText r.Colours, mJoin [mInt r.SizeLow, mInt r.SizeHigh] da, mListText r.Places, mJoin [mInt r.Span.From, mInt r.Span.Until] da] sp1 := by
  rw [mReportText, if_pos h, mJoin6, mJoin2, mJoin2]
  apply ByteArray.ext
  simp [ByteArray.data_append]
theorem da_size : (⟨#[45]⟩ : ByteArray).size = 1 := rfl
@[simp] theorem c60_two (a b : Int) : c60.fn [.sl false 1 (.lit (.int .i64 0)) [.lit (.int .i64 a), .lit (.int .i64 b)]] [] = some ([a, b].length ≤ 1048577 ∧ ∀ x ∈ [a, b], okI x, .sl false 1 (dS ⟨#[]⟩) [dS (mInt a), dS (mInt b)], []) := c60_fn [a, b]
/-- loop.example/g03007/spec.ReportText -/
noncomputable def c24 : Con := mkCon 24 false (α := TReport) (fun x => (fun (r : TReport) => [encTReport r]) x) (fun _ => []) (fun x => (fun (r : TReport) => smR r) x) (fun x => (fun (r : TReport) => (dS (mReportText r) : D)) x) (fun x => (fun (r : TReport) => []) x)
@[simp] theorem c24_f : c24.f = 24 := rfl
@[simp] theorem c24_own : c24.own = false := rfl
theorem c24_inj : ∀ u_ v_ : TReport, ((fun x => (fun (r : TReport) => [encTReport r]) x) u_).map nz = ((fun x => (fun (r : TReport) => [encTReport r]) x) v_).map nz → u_ = v_ := by
  intro u_ v_ h
  obtain ⟨r_Id, r_Kind, r_Colours, r_SizeLow, r_SizeHigh, r_Places, ⟨r_Span_From, r_Span_Until⟩⟩ := u_
  obtain ⟨r_Id', r_Kind', r_Colours', r_SizeLow', r_SizeHigh', r_Places', ⟨r_Span_From', r_Span_Until'⟩⟩ := v_
  simp [nz_lit, nz1_lit, nz_agg, nz_sl, nz1_sl, encLI, encTReport, encTSpan] at h
  first | (simp [h]; done) | (obtain ⟨⟩ := h; simp_all; done) | simp_all
@[simp] theorem c24_fn (r_Id : Int) (r_Kind : Int) (r_Colours : List Int) (r_SizeLow : Int) (r_SizeHigh : Int) (r_Places : List Int) (r_Span_From : Int) (r_Span_Until : Int) : c24.fn [.agg [.lit (.int .i64 r_Id), .lit (.int .i64 r_Kind), .sl false 1 (.lit (.int .i64 0)) (ML dI r_Colours), .lit (.int .i64 r_SizeLow), .lit (.int .i64 r_SizeHigh), .sl false 1 (.lit (.int .i64 0)) (ML dI r_Places), .lit (.int .i64 r_Span_From), .lit (.int .i64 r_Span_Until)]] [] = some ((fun (r : TReport) => smR r) ⟨r_Id, r_Kind, r_Colours, r_SizeLow, r_SizeHigh, r_Places, ⟨r_Span_From, r_Span_Until⟩⟩, (fun (r : TReport) => (dS (mReportText r) : D)) ⟨r_Id, r_Kind, r_Colours, r_SizeLow, r_SizeHigh, r_Places, ⟨r_Span_From, r_Span_Until⟩⟩, (fun (r : TReport) => []) ⟨r_Id, r_Kind, r_Colours, r_SizeLow, r_SizeHigh, r_Places, ⟨r_Span_From, r_Span_Until⟩⟩) :=
  mkCon_fn (fun x y h _ => c24_inj x y h) (⟨r_Id, r_Kind, r_Colours, r_SizeLow, r_SizeHigh, r_Places, ⟨r_Span_From, r_Span_Until⟩⟩ : TReport) (by simp [nz, nz1, ML_nil, encLI, encTReport, encTSpan]) rfl
theorem c24_pc (r : TReport) (hpre : smR r) : PCo Tryd.prog 24 [encTReport r] (Tab.of []) (dS (mReportText r)) (Tab.of []) := by
  refine pco_of_run [3] (E := ⟨[c14, c19, c56, c62], []⟩) (m := false) (base := 0) (Env.ok_cons c14_ok (Env.ok_cons c19_ok (Env.ok_cons c56_ok (Env.ok_cons c62_ok Env.ok_nil)))) G_ok mix 300 6 Tryd.func24 (by kernel_rfl) rfl (by kernel_rfl) (by kernel_rfl) rfl ?_
  cases h : mIsReport r with
  | true =>
    obtain ⟨b1, ⟨b2, b3⟩, b4, b5, ⟨b6, b7⟩, b8, b9⟩ := report_in h
    have s1 := mInt_size (n := r.Id) (by omega)
    have s2 := kind_size r.Kind
    have s3 := list_size b3
    have s4 := mInt_size (n := r.SizeLow) (by omega)
    have s5 := mInt_size (n := r.SizeHigh) (by omega)
    have s6 := list_size b7
    have s7 := mInt_size (n := r.Span.From) (by omega)
    have s8 := mInt_size (n := r.Span.Until) (by omega)
    have e : mReportText r = ((((((((((((((mInt r.Id ++ sp1) ++ mKind r.Kind) ++ sp1) ++ mListText r.Colours) ++ sp1) ++ mInt r.SizeLow) ++ da) ++ mInt r.SizeHigh) ++ sp1) ++ mListText r.Places) ++ sp1) ++ mInt r.Span.From) ++ da) ++ mInt r.Span.Until) := by rw [mReportText, if_pos h]
    rw [e]
    obtain ⟨r_Id, r_Kind, r_Colours, r_SizeLow, r_SizeHigh, r_Places, ⟨r_From, r_Until⟩⟩ := r
    simp only [sp1, da] at *
    simp [Tryd.f24, h, sp1_size, da_size]
    simp at hpre
    repeat' (first | with_reducible exact hpre | with_reducible exact hpre.1 | with_reducible exact hpre.2 | with_reducible exact b3 | with_reducible exact b7 | omega | with_reducible assumption | (simp only [okI]; omega) | with_reducible refine And.intro ?_ ?_)
  | false =>
    have e : mReportText r = ⟨#[]⟩ := by simp [mReportText, h]
    rw [e]
    obtain ⟨r_Id, r_Kind, r_Colours, r_SizeLow, r_SizeHigh, r_Places, ⟨r_From, r_Until⟩⟩ := r
    simp at hpre
    simp [Tryd.f24, h, hpre]
theorem c24_ok : c24.ok Tryd.prog := mkCon_ok fun r hpre => c24_pc r hpre
/-- loop.example/g03007/impl.ReportText -/
noncomputable def c26 : Con := mkCon 26 false (α := TReport) (fun x => (fun (r : TReport) => [encTReport r]) x) (fun _ => []) (fun x => (fun (r : TReport) => smR r) x) (fun x => (fun (r : TReport) => (dS (mReportText r) : D)) x) (fun x => (fun (r : TReport) => []) x)
@[simp] theorem c26_f : c26.f = 26 := rfl
@[simp] theorem c26_own : c26.own = false := rfl
theorem c26_inj : ∀ u_ v_ : TReport, ((fun x => (fun (r : TReport) => [encTReport r]) x) u_).map nz = ((fun x => (fun (r : TReport) => [encTReport r]) x) v_).map nz → u_ = v_ := by
  intro u_ v_ h
  obtain ⟨r_Id, r_Kind, r_Colours, r_SizeLow, r_SizeHigh, r_Places, ⟨r_Span_From, r_Span_Until⟩⟩ := u_
  obtain ⟨r_Id', r_Kind', r_Colours', r_SizeLow', r_SizeHigh', r_Places', ⟨r_Span_From', r_Span_Until'⟩⟩ := v_
  simp [nz_lit, nz1_lit, nz_agg, nz_sl, nz1_sl, encLI, encTReport, encTSpan] at h
  first | (simp [h]; done) | (obtain ⟨⟩ := h; simp_all; done) | simp_all
@[simp] theorem c26_fn (r_Id : Int) (r_Kind : Int) (r_Colours : List Int) (r_SizeLow : Int) (r_SizeHigh : Int) (r_Places : List Int) (r_Span_From : Int) (r_Span_Until : Int) : c26.fn [.agg [.lit (.int .i64 r_Id), .lit (.int .i64 r_Kind), .sl false 1 (.lit (.int .i64 0)) (ML dI r_Colours), .lit (.int .i64 r_SizeLow), .lit (.int .i64 r_SizeHigh), .sl false 1 (.lit (.int .i64 0)) (ML dI r_Places), .lit (.int .i64 r_Span_From), .lit (.int .i64 r_Span_Until)]] [] = some ((fun (r : TReport) => smR r) ⟨r_Id, r_Kind, r_Colours, r_SizeLow, r_SizeHigh, r_Places, ⟨r_Span_From, r_Span_Until⟩⟩, (fun (r : TReport) => (dS (mReportText r) : D)) ⟨r_Id, r_Kind, r_Colours, r_SizeLow, r_SizeHigh, r_Places, ⟨r_Span_From, r_Span_Until⟩⟩, (fun (r : TReport) => []) ⟨r_Id, r_Kind, r_Colours, r_SizeLow, r_SizeHigh, r_Places, ⟨r_Span_From, r_Span_Until⟩⟩) :=
  mkCon_fn (fun x y h _ => c26_inj x y h) (⟨r_Id, r_Kind, r_Colours, r_SizeLow, r_SizeHigh, r_Places, ⟨r_Span_From, r_Span_Until⟩⟩ : TReport) (by simp [nz, nz1, ML_nil, encLI, encTReport, encTSpan]) rfl
theorem c26_pc (r : TReport) (hpre : smR r) : PCo Tryd.prog 26 [encTReport r] (Tab.of []) (dS (mReportText r)) (Tab.of []) := by
  refine pco_of_run [1003] (E := ⟨[c15, c21, c59, c60, c64, c65], []⟩) (m := false) (base := 1000000) (Env.ok_cons c15_ok (Env.ok_cons c21_ok (Env.ok_cons c59_ok (Env.ok_cons c60_ok (Env.ok_cons c64_ok (Env.ok_cons c65_ok Env.ok_nil)))))) G_ok mix 300 6 Tryd.func26 (by kernel_rfl) rfl (by kernel_rfl) (by kernel_rfl) rfl ?_
  cases h : mIsReport r with
  | true =>
    obtain ⟨b1, ⟨b2, b3⟩, b4, b5, ⟨b6, b7⟩, b8, b9⟩ := report_in h
    have s1 := mInt_size (n := r.Id) (by omega)
    have s2 := kind_size r.Kind
    have s3 := list_size b3
    have s4 := mInt_size (n := r.SizeLow) (by omega)
    have s5 := mInt_size (n := r.SizeHigh) (by omega)
    have s6 := list_size b7
    have s7 := mInt_size (n := r.Span.From) (by omega)
    have s8 := mInt_size (n := r.Span.Until) (by omega)
    have z1 : (mJoin [mInt r.SizeLow, mInt r.SizeHigh] da).size ≤ 43 := by rw [mJoin2]; simp only [app_size, da, da_size]; omega
    have z2 : (mJoin [mInt r.Span.From, mInt r.Span.Until] da).size ≤ 43 := by rw [mJoin2]; simp only [app_size, da, da_size]; omega
    have z3 : (mJoin [mInt r.Id, mKind r.Kind, mListText r.Colours, mJoin [mInt r.SizeLow, mInt r.SizeHigh] da, mListText r.Places, mJoin [mInt r.Span.From, mInt r.Span.Until] da] sp1).size ≤ 10000 := by rw [mJoin6]; simp only [app_size, sp1, sp1_size]; omega
    rw [report_join h]
    obtain ⟨r_Id, r_Kind, r_Colours, r_SizeLow, r_SizeHigh, r_Places, ⟨r_From, r_Until⟩⟩ := r
    simp only [sp1, da] at *
    simp [Tryd.f26, h]
    simp at hpre
    repeat' (first | with_reducible exact hpre | with_reducible exact hpre.1 | with_reducible exact hpre.2 | with_reducible exact b3 | with_reducible exact b7 | omega | with_reducible assumption | (simp only [okI]; omega) | with_reducible refine And.intro ?_ ?_)
  | false =>
    have e : mReportText r = ⟨#[]⟩ := by simp [mReportText, h]
    rw [e]
    obtain ⟨r_Id, r_Kind, r_Colours, r_SizeLow, r_SizeHigh, r_Places, ⟨r_From, r_Until⟩⟩ := r
    simp at hpre
    simp [Tryd.f26, h, hpre]
theorem c26_ok : c26.ok Tryd.prog := mkCon_ok fun r hpre => c26_pc r hpre
/-- loop.example/g03007/laws.FnExactReportText -/
theorem law6 (r : TReport) (wr : wfTReport r) : PCo Tryd.prog 6 [encTReport r] (Tab.of []) (dB true) (Tab.of []) := by
  obtain ⟨r_Id, r_Kind, r_Colours, r_SizeLow, r_SizeHigh, r_Places, ⟨r_Span_From, r_Span_Until⟩⟩ := r
  refine pco_of_run [1000025] (E := ⟨[c23, c24, c25, c26, c27], []⟩) (m := false) (base := 0) (Env.ok_cons c23_ok (Env.ok_cons c24_ok (Env.ok_cons c25_ok (Env.ok_cons c26_ok (Env.ok_cons c27_ok Env.ok_nil))))) G_ok mix 400 6 Tryd.func6 (by kernel_rfl) rfl (by kernel_rfl) (by kernel_rfl) rfl ?_
  simp (config := {maxSteps := 3000000}) [Tryd.f6]
  have h1 := wfR_len wr
  simp at h1
  refine ⟨h1, fun h => ?_⟩
  have h2 := szR_len h
  simp at h2
  repeat' (first | omega | refine And.intro ?_ ?_ | intro _)
theorem law6_pc (D0 : D) (h0 : Sh G 9 38 D0) : PC Tryd.prog 6 [D0] (dB true) [] := by
  obtain ⟨r, rfl, wr⟩ := sh38 (n := 6) h0
  exact law6 r wr

end Go.Proofs.YtbpcabaaniiggaaDoor
