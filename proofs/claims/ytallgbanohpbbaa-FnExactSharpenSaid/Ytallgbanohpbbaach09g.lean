/- Contracts of the functions that the laws run. -/
import Derived.Test.Ytallgbanohpbbaach09f
import Derived.Test.YtallgbanohpbbaarepM
import Derived.Test.YtallgbanohpbbaaEngB
namespace Go.Proofs.Ytallgbanohpbbaa
open Go Go.Eng
set_option linter.unusedSimpArgs false
set_option linter.unusedVariables false
set_option maxRecDepth 10000
set_option maxHeartbeats 1000000
/-- loop.example/g03007/laws.toReport -/
noncomputable def c17f : Con := mkCon 17 false (α := TReport) (fun x => (fun (r : TReport) => [encTReport r]) x) (fun _ => []) (fun x => (fun (r : TReport) => smR r) x) (fun x => (fun (r : TReport) => (.agg [dI r.Id, dI r.Kind, .own (0, 1) 1 0 r.Colours.length, dI r.SizeLow, dI r.SizeHigh, .own (1, 1) 1 0 r.Places.length, dI r.Span.From, dI r.Span.Until] : D)) x) (fun x => (fun (r : TReport) => [((0, 1), .arr false 1 (dI 0) (ML dI r.Colours)), ((1, 1), .arr false 1 (dI 0) (ML dI r.Places))]) x)
@[simp] theorem c17f_f : c17f.f = 17 := rfl
@[simp] theorem c17f_own : c17f.own = false := rfl
theorem c17f_inj : ∀ u_ v_ : TReport, ((fun x => (fun (r : TReport) => [encTReport r]) x) u_).map nz = ((fun x => (fun (r : TReport) => [encTReport r]) x) v_).map nz → u_ = v_ := by
  intro u_ v_ h
  obtain ⟨r_Id, r_Kind, r_Colours, r_SizeLow, r_SizeHigh, r_Places, ⟨r_Span_From, r_Span_Until⟩⟩ := u_
  obtain ⟨r_Id', r_Kind', r_Colours', r_SizeLow', r_SizeHigh', r_Places', ⟨r_Span_From', r_Span_Until'⟩⟩ := v_
  simp [nz_lit, nz1_lit, nz_agg, nz_sl, nz1_sl, encLI, encTReport, encTSpan] at h
  first | (simp [h]; done) | (obtain ⟨⟩ := h; simp_all; done) | simp_all
@[simp] theorem c17f_fn (r_Id : Int) (r_Kind : Int) (r_Colours : List Int) (r_SizeLow : Int) (r_SizeHigh : Int) (r_Places : List Int) (r_Span_From : Int) (r_Span_Until : Int) : c17f.fn [.agg [.lit (.int .i64 r_Id), .lit (.int .i64 r_Kind), .sl false 1 (.lit (.int .i64 0)) (ML dI r_Colours), .lit (.int .i64 r_SizeLow), .lit (.int .i64 r_SizeHigh), .sl false 1 (.lit (.int .i64 0)) (ML dI r_Places), .lit (.int .i64 r_Span_From), .lit (.int .i64 r_Span_Until)]] [] = some ((fun (r : TReport) => smR r) ⟨r_Id, r_Kind, r_Colours, r_SizeLow, r_SizeHigh, r_Places, ⟨r_Span_From, r_Span_Until⟩⟩, (fun (r : TReport) => (.agg [dI r.Id, dI r.Kind, .own (0, 1) 1 0 r.Colours.length, dI r.SizeLow, dI r.SizeHigh, .own (1, 1) 1 0 r.Places.length, dI r.Span.From, dI r.Span.Until] : D)) ⟨r_Id, r_Kind, r_Colours, r_SizeLow, r_SizeHigh, r_Places, ⟨r_Span_From, r_Span_Until⟩⟩, (fun (r : TReport) => [((0, 1), .arr false 1 (dI 0) (ML dI r.Colours)), ((1, 1), .arr false 1 (dI 0) (ML dI r.Places))]) ⟨r_Id, r_Kind, r_Colours, r_SizeLow, r_SizeHigh, r_Places, ⟨r_Span_From, r_Span_Until⟩⟩) :=
  mkCon_fn (fun x y h _ => c17f_inj x y h) (⟨r_Id, r_Kind, r_Colours, r_SizeLow, r_SizeHigh, r_Places, ⟨r_Span_From, r_Span_Until⟩⟩ : TReport) (by simp [nz, nz1, ML_nil, encLI, encTReport, encTSpan]) rfl
theorem c17f_pc (r : TReport) (hpre : smR r) : PCo Try.prog 17 [encTReport r] (Tab.of []) (.agg [dI r.Id, dI r.Kind, .own (0, 1) 1 0 r.Colours.length, dI r.SizeLow, dI r.SizeHigh, .own (1, 1) 1 0 r.Places.length, dI r.Span.From, dI r.Span.Until]) (Tab.of [((0, 1), .arr false 1 (dI 0) (ML dI r.Colours)), ((1, 1), .arr false 1 (dI 0) (ML dI r.Places))]) := by
  obtain ⟨r_Id, r_Kind, r_Colours, r_SizeLow, r_SizeHigh, r_Places, ⟨r_Span_From, r_Span_Until⟩⟩ := r
  refine pco_of_run [] (E := ⟨[c27, c44], [], []⟩) (m := false) (base := 0) (Env.ok_cons c27_ok (Env.ok_cons c44_ok Env.ok_nil)) G_ok mix 300 6 Try.func17 (by kernel_rfl) rfl (by kernel_rfl) (by kernel_rfl) rfl ?_
  simp [Try.f17]
  simp at hpre
  exact hpre
theorem c17f_ok : c17f.ok Try.prog := mkCon_ok fun r hpre => c17f_pc r hpre
theorem shR_len (a b : TReport) : (shR a b).Colours.length ≤ a.Colours.length + b.Colours.length ∧ (shR a b).Places.length ≤ a.Places.length + b.Places.length := by
  have q1 := bothL_len a.Colours b.Colours
  have q2 := bothL_len a.Places b.Places
  rw [shR]; split
  · exact ⟨q1, q2⟩
  · simp
/-- loop.example/g03007/laws.FnExactSharpen -/
theorem law4 (a : TReport) (wa : wfTReport a) (b : TReport) (wb : wfTReport b) : PCo Try.prog 4 [encTReport a, encTReport b] (Tab.of []) (dB true) (Tab.of []) := by
  obtain ⟨a_Id, a_Kind, a_Colours, a_SizeLow, a_SizeHigh, a_Places, ⟨a_Span_From, a_Span_Until⟩⟩ := a
  obtain ⟨b_Id, b_Kind, b_Colours, b_SizeLow, b_SizeHigh, b_Places, ⟨b_Span_From, b_Span_Until⟩⟩ := b
  refine pco_of_run [1008, 1014, 1016, 1031, 2000010, 7000017] (E := ⟨[c10, c13, c14, c15, c16, c17f, c18, c17], [], []⟩) (m := false) (base := 0) (Env.ok_cons c10_ok (Env.ok_cons c13_ok (Env.ok_cons c14_ok (Env.ok_cons c15_ok (Env.ok_cons c16_ok (Env.ok_cons c17f_ok (Env.ok_cons c18_ok (Env.ok_cons c17_ok Env.ok_nil)))))))) G_ok mix 400 6 Try.func4 (by kernel_rfl) rfl (by kernel_rfl) (by kernel_rfl) rfl ?_
  simp (config := {maxSteps := 3000000}) [Try.f4]
  have h1 := wfR_len wa
  have h2 := wfR_len wb
  simp at h1 h2
  have hj := shR_len ⟨a_Id, a_Kind, a_Colours, a_SizeLow, a_SizeHigh, a_Places, ⟨a_Span_From, a_Span_Until⟩⟩ ⟨b_Id, b_Kind, b_Colours, b_SizeLow, b_SizeHigh, b_Places, ⟨b_Span_From, b_Span_Until⟩⟩
  simp only at hj
  refine ⟨h1, fun h => ?_⟩
  have h3 := szR_len h
  simp only at h3
  refine ⟨⟨h2, h, by omega⟩, fun h' => ?_⟩
  have h4 := szR_len h'
  simp only at h4
  repeat' (first | omega | assumption | refine And.intro ?_ ?_ | intro _)
theorem law4_pc (D0 : D) (h0 : Sh G 9 49 D0) (D1 : D) (h1 : Sh G 9 49 D1) : PC Try.prog 4 [D0, D1] (dB true) [] := by
  obtain ⟨a, rfl, wa⟩ := sh49 (n := 6) h0
  obtain ⟨b, rfl, wb⟩ := sh49 (n := 6) h1
  exact law4 a wa b wb

end Go.Proofs.Ytallgbanohpbbaa
