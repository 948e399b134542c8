/- Contracts of the functions that the laws run. -/
import Derived.Test.Ytelhilcdlfjafaach09e
import Derived.Test.YtelhilcdlfjafaaEngB
namespace Go.Proofs.Ytelhilcdlfjafaa
open Go Go.Eng
set_option linter.unusedSimpArgs false
set_option linter.unusedVariables false
set_option maxRecDepth 10000
set_option maxHeartbeats 1000000
@[simp] theorem size4 : ({ data := #[99, 115, 112, 116] } : ByteArray).size = 4 := rfl
@[simp] theorem dec4_0 : Utf8.decode ({ data := #[99, 115, 112, 116] } : ByteArray) 0 = (99, 1) := by first | rfl | decide
@[simp] theorem dec4_1 : Utf8.decode ({ data := #[99, 115, 112, 116] } : ByteArray) 1 = (115, 1) := by first | rfl | decide
@[simp] theorem dec4_2 : Utf8.decode ({ data := #[99, 115, 112, 116] } : ByteArray) 2 = (112, 1) := by first | rfl | decide
@[simp] theorem dec4_3 : Utf8.decode ({ data := #[99, 115, 112, 116] } : ByteArray) 3 = (116, 1) := by first | rfl | decide
def shD (a b : TReport) : TReport := ⟨a.Id, a.Kind, bothL a.Colours b.Colours, max a.SizeLow b.SizeLow, min a.SizeHigh b.SizeHigh, bothL a.Places b.Places, ⟨max a.Span.From b.Span.From, max (max a.Span.From b.Span.From) (min a.Span.Until b.Span.Until)⟩⟩
def shV (a b : TReport) : Bool := mIsReport a && mIsReport b && decide (a.Kind = b.Kind)
def shOk (a b : TReport) : Bool := shV a b && bothK a.Colours b.Colours && decide (max a.SizeLow b.SizeLow ≤ min a.SizeHigh b.SizeHigh) && bothK a.Places b.Places
def shR (a b : TReport) : TReport := if shOk a b then shD a b else ⟨0, 0, [], 0, 0, [], ⟨0, 0⟩⟩
theorem shD_ok {a b : TReport} (hA : mIsReport a = true) (hB : mIsReport b = true) : mIsReport (shD a b) = decide (max a.SizeLow b.SizeLow ≤ min a.SizeHigh b.SizeHigh) := by
  simp only [mIsReport, Bool.and_eq_true] at hA hB
  obtain ⟨⟨⟨⟨⟨⟨⟨⟨a1, a2⟩, a3⟩, a4⟩, a5⟩, a6⟩, a7⟩, a8⟩, a9⟩ := hA
  obtain ⟨⟨⟨⟨⟨⟨⟨⟨b1, b2⟩, b3⟩, b4⟩, b5⟩, b6⟩, b7⟩, b8⟩, b9⟩ := hB
  have a4 := of_decide_eq_true a4; have a5 := of_decide_eq_true a5; have a6 := of_decide_eq_true a6; have a8 := of_decide_eq_true a8
  have b4 := of_decide_eq_true b4; have b5 := of_decide_eq_true b5; have b6 := of_decide_eq_true b6; have b8 := of_decide_eq_true b8
  simp only [mIsSpan, Bool.and_eq_true] at a9 b9
  have c1 := of_decide_eq_true a9.1.1; have c2 := of_decide_eq_true a9.1.2; have c3 := of_decide_eq_true a9.2
  have d1 := of_decide_eq_true b9.1.1; have d2 := of_decide_eq_true b9.1.2; have d3 := of_decide_eq_true b9.2
  have h3 := bothL_cap (n := 10) a8 b8
  have key : mIsReport (shD a b) = true ↔ max a.SizeLow b.SizeLow ≤ min a.SizeHigh b.SizeHigh := by
    constructor
    · intro h
      simp only [mIsReport, Bool.and_eq_true] at h
      exact of_decide_eq_true h.1.1.1.1.2
    · intro h
      simp only [mIsReport, Bool.and_eq_true]
      refine ⟨⟨⟨⟨⟨⟨⟨⟨a1, a2⟩, bothL_asc a3 b3⟩, decide_eq_true ?_⟩, decide_eq_true h⟩, decide_eq_true ?_⟩, bothL_asc a7 b7⟩, decide_eq_true h3⟩, ?_⟩
      · show 1 ≤ max a.SizeLow b.SizeLow; omega
      · show min a.SizeHigh b.SizeHigh ≤ 50; omega
      · simp only [mIsSpan, Bool.and_eq_true]
        refine ⟨⟨decide_eq_true ?_, decide_eq_true ?_⟩, decide_eq_true ?_⟩
        · show 0 ≤ max a.Span.From b.Span.From; omega
        · show max a.Span.From b.Span.From ≤ max (max a.Span.From b.Span.From) (min a.Span.Until b.Span.Until); omega
        · show max (max a.Span.From b.Span.From) (min a.Span.Until b.Span.Until) ≤ 100000; omega
  by_cases h : max a.SizeLow b.SizeLow ≤ min a.SizeHigh b.SizeHigh
  · rw [key.2 h, decide_eq_true h]
  · rw [decide_eq_false h]
    cases hm : mIsReport (shD a b) with
    | true => exact absurd (key.1 hm) h
    | false => rfl
@[simp] def smRh (r : TReport) : Prop := r.Colours.length ≤ 500000000 ∧ r.Places.length ≤ 500000000
/-- loop.example/g03007/impl.Sharpen -/
noncomputable def c24 : Con := mkCon 24 false (α := TReport × TReport) (fun x => (fun (a : TReport) (b : TReport) => [encTReport a, encTReport b]) x.1 x.2) (fun _ => []) (fun x => (fun (a : TReport) (b : TReport) => smRh a ∧ smRh b) x.1 x.2) (fun x => (fun (a : TReport) (b : TReport) => (.tup [.agg [dI (shR a b).Id, dI (shR a b).Kind, .own (0, 1) 1 0 (shR a b).Colours.length, dI (shR a b).SizeLow, dI (shR a b).SizeHigh, .own (1, 1) 1 0 (shR a b).Places.length, dI (shR a b).Span.From, dI (shR a b).Span.Until], dB (shOk a b)] : D)) x.1 x.2) (fun x => (fun (a : TReport) (b : TReport) => [((0, 1), .arr false 1 (dI 0) (ML dI (shR a b).Colours)), ((1, 1), .arr false 1 (dI 0) (ML dI (shR a b).Places))]) x.1 x.2)
@[simp] theorem c24_f : c24.f = 24 := rfl
@[simp] theorem c24_own : c24.own = false := rfl
theorem c24_inj : ∀ u_ v_ : TReport × TReport, ((fun x => (fun (a : TReport) (b : TReport) => [encTReport a, encTReport b]) x.1 x.2) u_).map nz = ((fun x => (fun (a : TReport) (b : TReport) => [encTReport a, encTReport b]) x.1 x.2) v_).map nz → u_ = v_ := by
  intro u_ v_ h
  obtain ⟨⟨a_Id, a_Kind, a_Colours, a_SizeLow, a_SizeHigh, a_Places, ⟨a_Span_From, a_Span_Until⟩⟩, ⟨b_Id, b_Kind, b_Colours, b_SizeLow, b_SizeHigh, b_Places, ⟨b_Span_From, b_Span_Until⟩⟩⟩ := u_
  obtain ⟨⟨a_Id', a_Kind', a_Colours', a_SizeLow', a_SizeHigh', a_Places', ⟨a_Span_From', a_Span_Until'⟩⟩, ⟨b_Id', b_Kind', b_Colours', b_SizeLow', b_SizeHigh', b_Places', ⟨b_Span_From', b_Span_Until'⟩⟩⟩ := v_
  simp [nz_lit, nz1_lit, nz_agg, nz_sl, nz1_sl, encLI, encTReport, encTSpan] at h
  first | (simp [h]; done) | (obtain ⟨⟩ := h; simp_all; done) | simp_all
@[simp] theorem c24_fn (a_Id : Int) (a_Kind : Int) (a_Colours : List Int) (a_SizeLow : Int) (a_SizeHigh : Int) (a_Places : List Int) (a_Span_From : Int) (a_Span_Until : Int) (b_Id : Int) (b_Kind : Int) (b_Colours : List Int) (b_SizeLow : Int) (b_SizeHigh : Int) (b_Places : List Int) (b_Span_From : Int) (b_Span_Until : Int) : c24.fn [.agg [.lit (.int .i64 a_Id), .lit (.int .i64 a_Kind), .sl false 1 (.lit (.int .i64 0)) (ML dI a_Colours), .lit (.int .i64 a_SizeLow), .lit (.int .i64 a_SizeHigh), .sl false 1 (.lit (.int .i64 0)) (ML dI a_Places), .lit (.int .i64 a_Span_From), .lit (.int .i64 a_Span_Until)], .agg [.lit (.int .i64 b_Id), .lit (.int .i64 b_Kind), .sl false 1 (.lit (.int .i64 0)) (ML dI b_Colours), .lit (.int .i64 b_SizeLow), .lit (.int .i64 b_SizeHigh), .sl false 1 (.lit (.int .i64 0)) (ML dI b_Places), .lit (.int .i64 b_Span_From), .lit (.int .i64 b_Span_Until)]] [] = some ((fun (a : TReport) (b : TReport) => smRh a ∧ smRh b) ⟨a_Id, a_Kind, a_Colours, a_SizeLow, a_SizeHigh, a_Places, ⟨a_Span_From, a_Span_Until⟩⟩ ⟨b_Id, b_Kind, b_Colours, b_SizeLow, b_SizeHigh, b_Places, ⟨b_Span_From, b_Span_Until⟩⟩, (fun (a : TReport) (b : TReport) => (.tup [.agg [dI (shR a b).Id, dI (shR a b).Kind, .own (0, 1) 1 0 (shR a b).Colours.length, dI (shR a b).SizeLow, dI (shR a b).SizeHigh, .own (1, 1) 1 0 (shR a b).Places.length, dI (shR a b).Span.From, dI (shR a b).Span.Until], dB (shOk a b)] : D)) ⟨a_Id, a_Kind, a_Colours, a_SizeLow, a_SizeHigh, a_Places, ⟨a_Span_From, a_Span_Until⟩⟩ ⟨b_Id, b_Kind, b_Colours, b_SizeLow, b_SizeHigh, b_Places, ⟨b_Span_From, b_Span_Until⟩⟩, (fun (a : TReport) (b : TReport) => [((0, 1), .arr false 1 (dI 0) (ML dI (shR a b).Colours)), ((1, 1), .arr false 1 (dI 0) (ML dI (shR a b).Places))]) ⟨a_Id, a_Kind, a_Colours, a_SizeLow, a_SizeHigh, a_Places, ⟨a_Span_From, a_Span_Until⟩⟩ ⟨b_Id, b_Kind, b_Colours, b_SizeLow, b_SizeHigh, b_Places, ⟨b_Span_From, b_Span_Until⟩⟩) :=
  mkCon_fn (fun x y h _ => c24_inj x y h) ((⟨a_Id, a_Kind, a_Colours, a_SizeLow, a_SizeHigh, a_Places, ⟨a_Span_From, a_Span_Until⟩⟩, ⟨b_Id, b_Kind, b_Colours, b_SizeLow, b_SizeHigh, b_Places, ⟨b_Span_From, b_Span_Until⟩⟩) : TReport × TReport) (by simp [nz, nz1, ML_nil, encLI, encTReport, encTSpan]) rfl
theorem c24_pc (a : TReport) (b : TReport) (hpre : smRh a ∧ smRh b) : PCo Try.prog 24 [encTReport a, encTReport b] (Tab.of []) (.tup [.agg [dI (shR a b).Id, dI (shR a b).Kind, .own (0, 1) 1 0 (shR a b).Colours.length, dI (shR a b).SizeLow, dI (shR a b).SizeHigh, .own (1, 1) 1 0 (shR a b).Places.length, dI (shR a b).Span.From, dI (shR a b).Span.Until], dB (shOk a b)]) (Tab.of [((0, 1), .arr false 1 (dI 0) (ML dI (shR a b).Colours)), ((1, 1), .arr false 1 (dI 0) (ML dI (shR a b).Places))]) := by
  obtain ⟨⟨p1, p2⟩, p3, p4⟩ := hpre
  have q1 := bothL_len a.Colours b.Colours
  have q2 := bothL_len a.Places b.Places
  cases hc : shOk a b with
  | true =>
    have hd : shR a b = shD a b := by rw [shR, if_pos hc]
    rw [hd]
    simp only [shOk, shV, Bool.and_eq_true, decide_eq_true_eq] at hc
    obtain ⟨⟨⟨⟨⟨hA, hB⟩, hK⟩, hC⟩, hS⟩, hP⟩ := hc
    have hK' := eq_true hK
    refine pco_of_run [1007] (tin := []) (E := ⟨[c34, c35, c36, c48, c49, c50, c51, c54, c66, c56, c67], [], []⟩) (m := false) (base := 0) (Env.ok_cons c34_ok (Env.ok_cons c35_ok (Env.ok_cons c36_ok (Env.ok_cons c48_ok (Env.ok_cons c49_ok (Env.ok_cons c50_ok (Env.ok_cons c51_ok (Env.ok_cons c54_ok (Env.ok_cons c66_ok (Env.ok_cons c56_ok (Env.ok_cons c67_ok Env.ok_nil))))))))))) G_ok mix 300 6 Try.func24 (by kernel_rfl) rfl (by kernel_rfl) (by kernel_rfl) rfl ?_
    simp [Try.f24, hA, hB, hK']
    refine ⟨⟨⟨by omega, by omega⟩, by omega, by omega⟩, ⟨by omega, by omega⟩, loop_unroll 400 ?_⟩
    simp (config := {maxSteps := 3000000}) [hC, hS, hP]
    simp only [shD]
    repeat' (first | omega | rfl | assumption | refine And.intro ?_ ?_ | intro _)
    all_goals (first | done | simp | trace_state)
  | false =>
    have hd : shR a b = ⟨0, 0, [], 0, 0, [], ⟨0, 0⟩⟩ := by rw [shR, if_neg (by simp [hc])]
    rw [hd]
    refine pc_nils (.lit (.lit (.sl (s := 0) (z := .any) (.lit (.lit (.sl (s := 0) (z := .any) (.lit (.lit .nil)))))))) ?_
    refine pco_of_run [1007] (tin := []) (E := ⟨[c34, c35, c36, c48, c49, c50, c51, c54, c66, c56, c67], [], []⟩) (m := false) (base := 0) (Env.ok_cons c34_ok (Env.ok_cons c35_ok (Env.ok_cons c36_ok (Env.ok_cons c48_ok (Env.ok_cons c49_ok (Env.ok_cons c50_ok (Env.ok_cons c51_ok (Env.ok_cons c54_ok (Env.ok_cons c66_ok (Env.ok_cons c56_ok (Env.ok_cons c67_ok Env.ok_nil))))))))))) G_ok mix 300 6 Try.func24 (by kernel_rfl) rfl (by kernel_rfl) (by kernel_rfl) rfl ?_
    cases hA : mIsReport a with
    | false => simp [Try.f24, hA]; repeat' (first | omega | rfl | assumption | refine And.intro ?_ ?_ | intro _)
    | true =>
      cases hB : mIsReport b with
      | false => simp [Try.f24, hA, hB]; repeat' (first | omega | rfl | assumption | refine And.intro ?_ ?_ | intro _)
      | true =>
        by_cases hK : a.Kind = b.Kind
        · have hK' := eq_true hK
          simp [Try.f24, hA, hB, hK']
          refine ⟨⟨⟨by omega, by omega⟩, by omega, by omega⟩, ⟨by omega, by omega⟩, loop_unroll 400 ?_⟩
          cases hC : bothK a.Colours b.Colours with
          | false => simp (config := {maxSteps := 3000000}) [hC]; repeat' (first | omega | rfl | assumption | refine And.intro ?_ ?_ | intro _)
          | true =>
            by_cases hS : max a.SizeLow b.SizeLow ≤ min a.SizeHigh b.SizeHigh
            · cases hP : bothK a.Places b.Places with
              | false => simp (config := {maxSteps := 3000000}) [hC, hS, hP]; repeat' (first | omega | rfl | assumption | refine And.intro ?_ ?_ | intro _)
              | true => simp [shOk, shV, hA, hB, hK, hC, hS, hP] at hc
            · simp (config := {maxSteps := 3000000}) [hC, hS]; repeat' (first | omega | rfl | assumption | refine And.intro ?_ ?_ | intro _)
        · have hK' := eq_false hK
          simp [Try.f24, hA, hB, hK']
          repeat' (first | omega | rfl | assumption | refine And.intro ?_ ?_ | intro _)
theorem c24_ok : c24.ok Try.prog := mkCon_ok fun ⟨a, b⟩ hpre => c24_pc a b hpre
/-- loop.example/g03007/spec.Sharpen -/
noncomputable def c20 : Con := mkCon 20 false (α := TReport × TReport) (fun x => (fun (a : TReport) (b : TReport) => [encTReport a, encTReport b]) x.1 x.2) (fun _ => []) (fun x => (fun (a : TReport) (b : TReport) => smRh a ∧ smRh b) x.1 x.2) (fun x => (fun (a : TReport) (b : TReport) => (.tup [.agg [dI (shR a b).Id, dI (shR a b).Kind, .own (0, 1) 1 0 (shR a b).Colours.length, dI (shR a b).SizeLow, dI (shR a b).SizeHigh, .own (1, 1) 1 0 (shR a b).Places.length, dI (shR a b).Span.From, dI (shR a b).Span.Until], dB (shOk a b)] : D)) x.1 x.2) (fun x => (fun (a : TReport) (b : TReport) => [((0, 1), .arr false 1 (dI 0) (ML dI (shR a b).Colours)), ((1, 1), .arr false 1 (dI 0) (ML dI (shR a b).Places))]) x.1 x.2)
@[simp] theorem c20_f : c20.f = 20 := rfl
@[simp] theorem c20_own : c20.own = false := rfl
theorem c20_inj : ∀ u_ v_ : TReport × TReport, ((fun x => (fun (a : TReport) (b : TReport) => [encTReport a, encTReport b]) x.1 x.2) u_).map nz = ((fun x => (fun (a : TReport) (b : TReport) => [encTReport a, encTReport b]) x.1 x.2) v_).map nz → u_ = v_ := by
  intro u_ v_ h
  obtain ⟨⟨a_Id, a_Kind, a_Colours, a_SizeLow, a_SizeHigh, a_Places, ⟨a_Span_From, a_Span_Until⟩⟩, ⟨b_Id, b_Kind, b_Colours, b_SizeLow, b_SizeHigh, b_Places, ⟨b_Span_From, b_Span_Until⟩⟩⟩ := u_
  obtain ⟨⟨a_Id', a_Kind', a_Colours', a_SizeLow', a_SizeHigh', a_Places', ⟨a_Span_From', a_Span_Until'⟩⟩, ⟨b_Id', b_Kind', b_Colours', b_SizeLow', b_SizeHigh', b_Places', ⟨b_Span_From', b_Span_Until'⟩⟩⟩ := v_
  simp [nz_lit, nz1_lit, nz_agg, nz_sl, nz1_sl, encLI, encTReport, encTSpan] at h
  first | (simp [h]; done) | (obtain ⟨⟩ := h; simp_all; done) | simp_all
@[simp] theorem c20_fn (a_Id : Int) (a_Kind : Int) (a_Colours : List Int) (a_SizeLow : Int) (a_SizeHigh : Int) (a_Places : List Int) (a_Span_From : Int) (a_Span_Until : Int) (b_Id : Int) (b_Kind : Int) (b_Colours : List Int) (b_SizeLow : Int) (b_SizeHigh : Int) (b_Places : List Int) (b_Span_From : Int) (b_Span_Until : Int) : c20.fn [.agg [.lit (.int .i64 a_Id), .lit (.int .i64 a_Kind), .sl false 1 (.lit (.int .i64 0)) (ML dI a_Colours), .lit (.int .i64 a_SizeLow), .lit (.int .i64 a_SizeHigh), .sl false 1 (.lit (.int .i64 0)) (ML dI a_Places), .lit (.int .i64 a_Span_From), .lit (.int .i64 a_Span_Until)], .agg [.lit (.int .i64 b_Id), .lit (.int .i64 b_Kind), .sl false 1 (.lit (.int .i64 0)) (ML dI b_Colours), .lit (.int .i64 b_SizeLow), .lit (.int .i64 b_SizeHigh), .sl false 1 (.lit (.int .i64 0)) (ML dI b_Places), .lit (.int .i64 b_Span_From), .lit (.int .i64 b_Span_Until)]] [] = some ((fun (a : TReport) (b : TReport) => smRh a ∧ smRh b) ⟨a_Id, a_Kind, a_Colours, a_SizeLow, a_SizeHigh, a_Places, ⟨a_Span_From, a_Span_Until⟩⟩ ⟨b_Id, b_Kind, b_Colours, b_SizeLow, b_SizeHigh, b_Places, ⟨b_Span_From, b_Span_Until⟩⟩, (fun (a : TReport) (b : TReport) => (.tup [.agg [dI (shR a b).Id, dI (shR a b).Kind, .own (0, 1) 1 0 (shR a b).Colours.length, dI (shR a b).SizeLow, dI (shR a b).SizeHigh, .own (1, 1) 1 0 (shR a b).Places.length, dI (shR a b).Span.From, dI (shR a b).Span.Until], dB (shOk a b)] : D)) ⟨a_Id, a_Kind, a_Colours, a_SizeLow, a_SizeHigh, a_Places, ⟨a_Span_From, a_Span_Until⟩⟩ ⟨b_Id, b_Kind, b_Colours, b_SizeLow, b_SizeHigh, b_Places, ⟨b_Span_From, b_Span_Until⟩⟩, (fun (a : TReport) (b : TReport) => [((0, 1), .arr false 1 (dI 0) (ML dI (shR a b).Colours)), ((1, 1), .arr false 1 (dI 0) (ML dI (shR a b).Places))]) ⟨a_Id, a_Kind, a_Colours, a_SizeLow, a_SizeHigh, a_Places, ⟨a_Span_From, a_Span_Until⟩⟩ ⟨b_Id, b_Kind, b_Colours, b_SizeLow, b_SizeHigh, b_Places, ⟨b_Span_From, b_Span_Until⟩⟩) :=
  mkCon_fn (fun x y h _ => c20_inj x y h) ((⟨a_Id, a_Kind, a_Colours, a_SizeLow, a_SizeHigh, a_Places, ⟨a_Span_From, a_Span_Until⟩⟩, ⟨b_Id, b_Kind, b_Colours, b_SizeLow, b_SizeHigh, b_Places, ⟨b_Span_From, b_Span_Until⟩⟩) : TReport × TReport) (by simp [nz, nz1, ML_nil, encLI, encTReport, encTSpan]) rfl
theorem c20_pc (a : TReport) (b : TReport) (hpre : smRh a ∧ smRh b) : PCo Try.prog 20 [encTReport a, encTReport b] (Tab.of []) (.tup [.agg [dI (shR a b).Id, dI (shR a b).Kind, .own (0, 1) 1 0 (shR a b).Colours.length, dI (shR a b).SizeLow, dI (shR a b).SizeHigh, .own (1, 1) 1 0 (shR a b).Places.length, dI (shR a b).Span.From, dI (shR a b).Span.Until], dB (shOk a b)]) (Tab.of [((0, 1), .arr false 1 (dI 0) (ML dI (shR a b).Colours)), ((1, 1), .arr false 1 (dI 0) (ML dI (shR a b).Places))]) := by
  obtain ⟨⟨p1, p2⟩, p3, p4⟩ := hpre
  have q1 := bothL_len a.Colours b.Colours
  have q2 := bothL_len a.Places b.Places
  have hsd : shD a b = ⟨a.Id, a.Kind, bothL a.Colours b.Colours, max a.SizeLow b.SizeLow, min a.SizeHigh b.SizeHigh, bothL a.Places b.Places, ⟨max a.Span.From b.Span.From, max (max a.Span.From b.Span.From) (min a.Span.Until b.Span.Until)⟩⟩ := rfl
  cases hc : shOk a b with
  | true =>
    have hd : shR a b = shD a b := by rw [shR, if_pos hc]
    rw [hd]
    simp only [shOk, shV, Bool.and_eq_true, decide_eq_true_eq] at hc
    obtain ⟨⟨⟨⟨⟨hA, hB⟩, hK⟩, hC⟩, hS⟩, hP⟩ := hc
    have hK' := eq_true hK
    have hJ := shD_ok hA hB
    rw [decide_eq_true hS, hsd] at hJ
    simp at hJ
    refine pco_of_run [1006] (tin := []) (E := ⟨[c29, c30, c31, c32], [], []⟩) (m := false) (base := 0) (Env.ok_cons c29_ok (Env.ok_cons c30_ok (Env.ok_cons c31_ok (Env.ok_cons c32_ok Env.ok_nil)))) G_ok mix 300 6 Try.func20 (by kernel_rfl) rfl (by kernel_rfl) (by kernel_rfl) rfl ?_
    simp (config := {maxSteps := 3000000}) [Try.f20, hA, hB, hK', hC, hP, hJ]
    simp only [shD]
    repeat' (first | omega | rfl | assumption | refine And.intro ?_ ?_ | intro _)
    all_goals (first | done | simp | trace_state)
  | false =>
    have hd : shR a b = ⟨0, 0, [], 0, 0, [], ⟨0, 0⟩⟩ := by rw [shR, if_neg (by simp [hc])]
    rw [hd]
    refine pc_nils (.lit (.lit (.sl (s := 0) (z := .any) (.lit (.lit (.sl (s := 0) (z := .any) (.lit (.lit .nil)))))))) ?_
    refine pco_of_run [1006] (tin := []) (E := ⟨[c29, c30, c31, c32], [], []⟩) (m := false) (base := 0) (Env.ok_cons c29_ok (Env.ok_cons c30_ok (Env.ok_cons c31_ok (Env.ok_cons c32_ok Env.ok_nil)))) G_ok mix 300 6 Try.func20 (by kernel_rfl) rfl (by kernel_rfl) (by kernel_rfl) rfl ?_
    cases hA : mIsReport a with
    | false => simp (config := {maxSteps := 3000000}) [Try.f20, hA]; repeat' (first | omega | rfl | assumption | refine And.intro ?_ ?_ | intro _)
    | true =>
      cases hB : mIsReport b with
      | false => simp (config := {maxSteps := 3000000}) [Try.f20, hA, hB]; repeat' (first | omega | rfl | assumption | refine And.intro ?_ ?_ | intro _)
      | true =>
        by_cases hK : a.Kind = b.Kind
        · have hK' := eq_true hK
          cases hC : bothK a.Colours b.Colours with
          | false => simp (config := {maxSteps := 3000000}) [Try.f20, hA, hB, hK', hC]; repeat' (first | omega | rfl | assumption | refine And.intro ?_ ?_ | intro _)
          | true =>
            cases hP : bothK a.Places b.Places with
            | false => simp (config := {maxSteps := 3000000}) [Try.f20, hA, hB, hK', hC, hP]; repeat' (first | omega | rfl | assumption | refine And.intro ?_ ?_ | intro _)
            | true =>
              have hS : ¬ (max a.SizeLow b.SizeLow ≤ min a.SizeHigh b.SizeHigh) := fun hS => by simp [shOk, shV, hA, hB, hK, hC, hS, hP] at hc
              have hJ := shD_ok hA hB
              rw [decide_eq_false hS, hsd] at hJ
              simp at hJ
              simp (config := {maxSteps := 3000000}) [Try.f20, hA, hB, hK', hC, hP, hJ]; repeat' (first | omega | rfl | assumption | refine And.intro ?_ ?_ | intro _)
        · have hK' := eq_false hK
          simp (config := {maxSteps := 3000000}) [Try.f20, hA, hB, hK']
          repeat' (first | omega | rfl | assumption | refine And.intro ?_ ?_ | intro _)
theorem c20_ok : c20.ok Try.prog := mkCon_ok fun ⟨a, b⟩ hpre => c20_pc a b hpre

end Go.Proofs.Ytelhilcdlfjafaa
