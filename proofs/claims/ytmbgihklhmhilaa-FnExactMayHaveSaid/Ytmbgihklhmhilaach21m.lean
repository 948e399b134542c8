/- Contracts of the functions that the laws run. -/
import Derived.Test.Ytmbgihklhmhilaach21f
import Derived.Test.YtmbgihklhmhilaaEngB
namespace Go.Proofs.Ytmbgihklhmhilaa
open Go Go.Eng
set_option linter.unusedSimpArgs false
set_option linter.unusedVariables false
set_option maxRecDepth 10000
set_option maxHeartbeats 1000000
def mMayHave (r : TReport) (h : List Int) (salt : Int) : Bool := decide (0 < mShared (mHintsFor r salt) h)
/-- loop.example/g03007/impl.MayHave -/
noncomputable def c81 : Con := mkCon 81 false (α := TReport × (List Int) × Int) (fun x => (fun (r : TReport) (h : List Int) (salt : Int) => [encTReport r, encLI h, dI salt]) x.1 x.2.1 x.2.2) (fun _ => []) (fun x => (fun (r : TReport) (h : List Int) (salt : Int) => smR r ∧ h.length ≤ 1073741823) x.1 x.2.1 x.2.2) (fun x => (fun (r : TReport) (h : List Int) (salt : Int) => (dB (mMayHave r h salt) : D)) x.1 x.2.1 x.2.2) (fun x => (fun (r : TReport) (h : List Int) (salt : Int) => []) x.1 x.2.1 x.2.2)
@[simp] theorem c81_f : c81.f = 81 := rfl
@[simp] theorem c81_own : c81.own = false := rfl
theorem c81_inj : ∀ u_ v_ : TReport × (List Int) × Int, ((fun x => (fun (r : TReport) (h : List Int) (salt : Int) => [encTReport r, encLI h, dI salt]) x.1 x.2.1 x.2.2) u_).map nz = ((fun x => (fun (r : TReport) (h : List Int) (salt : Int) => [encTReport r, encLI h, dI salt]) x.1 x.2.1 x.2.2) v_).map nz → u_ = v_ := by
  intro u_ v_ h
  obtain ⟨⟨r_Id, r_Kind, r_Colours, r_SizeLow, r_SizeHigh, r_Places, ⟨r_Span_From, r_Span_Until⟩⟩, h, salt⟩ := u_
  obtain ⟨⟨r_Id', r_Kind', r_Colours', r_SizeLow', r_SizeHigh', r_Places', ⟨r_Span_From', r_Span_Until'⟩⟩, h', salt'⟩ := v_
  simp [nz_lit, nz1_lit, nz_agg, nz_sl, nz1_sl, encLI, encTReport, encTSpan] at h
  first | (simp [h]; done) | (obtain ⟨⟩ := h; simp_all; done) | simp_all
@[simp] theorem c81_fn (r_Id : Int) (r_Kind : Int) (r_Colours : List Int) (r_SizeLow : Int) (r_SizeHigh : Int) (r_Places : List Int) (r_Span_From : Int) (r_Span_Until : Int) (h : List Int) (salt : Int) : c81.fn [.agg [.lit (.int .i64 r_Id), .lit (.int .i64 r_Kind), .sl false 1 (.lit (.int .i64 0)) (ML dI r_Colours), .lit (.int .i64 r_SizeLow), .lit (.int .i64 r_SizeHigh), .sl false 1 (.lit (.int .i64 0)) (ML dI r_Places), .lit (.int .i64 r_Span_From), .lit (.int .i64 r_Span_Until)], .sl false 1 (.lit (.int .i64 0)) (ML dI h), .lit (.int .i64 salt)] [] = some ((fun (r : TReport) (h : List Int) (salt : Int) => smR r ∧ h.length ≤ 1073741823) ⟨r_Id, r_Kind, r_Colours, r_SizeLow, r_SizeHigh, r_Places, ⟨r_Span_From, r_Span_Until⟩⟩ h salt, (fun (r : TReport) (h : List Int) (salt : Int) => (dB (mMayHave r h salt) : D)) ⟨r_Id, r_Kind, r_Colours, r_SizeLow, r_SizeHigh, r_Places, ⟨r_Span_From, r_Span_Until⟩⟩ h salt, (fun (r : TReport) (h : List Int) (salt : Int) => []) ⟨r_Id, r_Kind, r_Colours, r_SizeLow, r_SizeHigh, r_Places, ⟨r_Span_From, r_Span_Until⟩⟩ h salt) :=
  mkCon_fn (fun x y h _ => c81_inj x y h) ((⟨r_Id, r_Kind, r_Colours, r_SizeLow, r_SizeHigh, r_Places, ⟨r_Span_From, r_Span_Until⟩⟩, h, salt) : TReport × (List Int) × Int) (by simp [nz, nz1, ML_nil, encLI, encTReport, encTSpan]) rfl
@[simp] theorem c81_fn1 (r_Id : Int) (r_Kind : Int) (r_Colours : List Int) (r_SizeLow : Int) (r_SizeHigh : Int) (r_Places : List Int) (r_Span_From : Int) (r_Span_Until : Int) (s_h : Nat) (z_h : D) (salt : Int) : c81.fn [.agg [.lit (.int .i64 r_Id), .lit (.int .i64 r_Kind), .sl false 1 (.lit (.int .i64 0)) (ML dI r_Colours), .lit (.int .i64 r_SizeLow), .lit (.int .i64 r_SizeHigh), .sl false 1 (.lit (.int .i64 0)) (ML dI r_Places), .lit (.int .i64 r_Span_From), .lit (.int .i64 r_Span_Until)], .sl false s_h z_h [], .lit (.int .i64 salt)] [] = some ((fun (r : TReport) (h : List Int) (salt : Int) => smR r ∧ h.length ≤ 1073741823) ⟨r_Id, r_Kind, r_Colours, r_SizeLow, r_SizeHigh, r_Places, ⟨r_Span_From, r_Span_Until⟩⟩ [] salt, (fun (r : TReport) (h : List Int) (salt : Int) => (dB (mMayHave r h salt) : D)) ⟨r_Id, r_Kind, r_Colours, r_SizeLow, r_SizeHigh, r_Places, ⟨r_Span_From, r_Span_Until⟩⟩ [] salt, (fun (r : TReport) (h : List Int) (salt : Int) => []) ⟨r_Id, r_Kind, r_Colours, r_SizeLow, r_SizeHigh, r_Places, ⟨r_Span_From, r_Span_Until⟩⟩ [] salt) :=
  mkCon_fn (fun x y h _ => c81_inj x y h) ((⟨r_Id, r_Kind, r_Colours, r_SizeLow, r_SizeHigh, r_Places, ⟨r_Span_From, r_Span_Until⟩⟩, [], salt) : TReport × (List Int) × Int) (by simp [nz, nz1, ML_nil, encLI, encTReport, encTSpan]) rfl
theorem c81_pc (r : TReport) (h : List Int) (salt : Int) (hpre : smR r ∧ h.length ≤ 1073741823) : PCo Try.prog 81 [encTReport r, encLI h, dI salt] (Tab.of []) (dB (mMayHave r h salt)) (Tab.of []) := by
  refine pco_of_run [] (E := ⟨[c78, c177], []⟩) (m := false) (base := 0) (Env.ok_cons c78_ok (Env.ok_cons c177_ok Env.ok_nil)) G_ok mix 300 6 Try.func81 (by kernel_rfl) rfl (by kernel_rfl) (by kernel_rfl) rfl ?_
  have hb := mHintsFor_len r salt
  obtain ⟨hp, hh⟩ := hpre
  simp at hp
  simp [Try.f81, hp, mMayHave]
  omega
theorem c81_ok : c81.ok Try.prog := mkCon_ok fun ⟨r, h, salt⟩ hpre => c81_pc r h salt hpre
/-- loop.example/g03007/spec.MayHave -/
noncomputable def c79 : Con := mkCon 79 false (α := TReport × (List Int) × Int) (fun x => (fun (r : TReport) (h : List Int) (salt : Int) => [encTReport r, encLI h, dI salt]) x.1 x.2.1 x.2.2) (fun _ => []) (fun x => (fun (r : TReport) (h : List Int) (salt : Int) => smR r ∧ h.length ≤ 1073741823) x.1 x.2.1 x.2.2) (fun x => (fun (r : TReport) (h : List Int) (salt : Int) => (dB (mMayHave r h salt) : D)) x.1 x.2.1 x.2.2) (fun x => (fun (r : TReport) (h : List Int) (salt : Int) => []) x.1 x.2.1 x.2.2)
@[simp] theorem c79_f : c79.f = 79 := rfl
@[simp] theorem c79_own : c79.own = false := rfl
theorem c79_inj : ∀ u_ v_ : TReport × (List Int) × Int, ((fun x => (fun (r : TReport) (h : List Int) (salt : Int) => [encTReport r, encLI h, dI salt]) x.1 x.2.1 x.2.2) u_).map nz = ((fun x => (fun (r : TReport) (h : List Int) (salt : Int) => [encTReport r, encLI h, dI salt]) x.1 x.2.1 x.2.2) v_).map nz → u_ = v_ := by
  intro u_ v_ h
  obtain ⟨⟨r_Id, r_Kind, r_Colours, r_SizeLow, r_SizeHigh, r_Places, ⟨r_Span_From, r_Span_Until⟩⟩, h, salt⟩ := u_
  obtain ⟨⟨r_Id', r_Kind', r_Colours', r_SizeLow', r_SizeHigh', r_Places', ⟨r_Span_From', r_Span_Until'⟩⟩, h', salt'⟩ := v_
  simp [nz_lit, nz1_lit, nz_agg, nz_sl, nz1_sl, encLI, encTReport, encTSpan] at h
  first | (simp [h]; done) | (obtain ⟨⟩ := h; simp_all; done) | simp_all
@[simp] theorem c79_fn (r_Id : Int) (r_Kind : Int) (r_Colours : List Int) (r_SizeLow : Int) (r_SizeHigh : Int) (r_Places : List Int) (r_Span_From : Int) (r_Span_Until : Int) (h : List Int) (salt : Int) : c79.fn [.agg [.lit (.int .i64 r_Id), .lit (.int .i64 r_Kind), .sl false 1 (.lit (.int .i64 0)) (ML dI r_Colours), .lit (.int .i64 r_SizeLow), .lit (.int .i64 r_SizeHigh), .sl false 1 (.lit (.int .i64 0)) (ML dI r_Places), .lit (.int .i64 r_Span_From), .lit (.int .i64 r_Span_Until)], .sl false 1 (.lit (.int .i64 0)) (ML dI h), .lit (.int .i64 salt)] [] = some ((fun (r : TReport) (h : List Int) (salt : Int) => smR r ∧ h.length ≤ 1073741823) ⟨r_Id, r_Kind, r_Colours, r_SizeLow, r_SizeHigh, r_Places, ⟨r_Span_From, r_Span_Until⟩⟩ h salt, (fun (r : TReport) (h : List Int) (salt : Int) => (dB (mMayHave r h salt) : D)) ⟨r_Id, r_Kind, r_Colours, r_SizeLow, r_SizeHigh, r_Places, ⟨r_Span_From, r_Span_Until⟩⟩ h salt, (fun (r : TReport) (h : List Int) (salt : Int) => []) ⟨r_Id, r_Kind, r_Colours, r_SizeLow, r_SizeHigh, r_Places, ⟨r_Span_From, r_Span_Until⟩⟩ h salt) :=
  mkCon_fn (fun x y h _ => c79_inj x y h) ((⟨r_Id, r_Kind, r_Colours, r_SizeLow, r_SizeHigh, r_Places, ⟨r_Span_From, r_Span_Until⟩⟩, h, salt) : TReport × (List Int) × Int) (by simp [nz, nz1, ML_nil, encLI, encTReport, encTSpan]) rfl
@[simp] theorem c79_fn1 (r_Id : Int) (r_Kind : Int) (r_Colours : List Int) (r_SizeLow : Int) (r_SizeHigh : Int) (r_Places : List Int) (r_Span_From : Int) (r_Span_Until : Int) (s_h : Nat) (z_h : D) (salt : Int) : c79.fn [.agg [.lit (.int .i64 r_Id), .lit (.int .i64 r_Kind), .sl false 1 (.lit (.int .i64 0)) (ML dI r_Colours), .lit (.int .i64 r_SizeLow), .lit (.int .i64 r_SizeHigh), .sl false 1 (.lit (.int .i64 0)) (ML dI r_Places), .lit (.int .i64 r_Span_From), .lit (.int .i64 r_Span_Until)], .sl false s_h z_h [], .lit (.int .i64 salt)] [] = some ((fun (r : TReport) (h : List Int) (salt : Int) => smR r ∧ h.length ≤ 1073741823) ⟨r_Id, r_Kind, r_Colours, r_SizeLow, r_SizeHigh, r_Places, ⟨r_Span_From, r_Span_Until⟩⟩ [] salt, (fun (r : TReport) (h : List Int) (salt : Int) => (dB (mMayHave r h salt) : D)) ⟨r_Id, r_Kind, r_Colours, r_SizeLow, r_SizeHigh, r_Places, ⟨r_Span_From, r_Span_Until⟩⟩ [] salt, (fun (r : TReport) (h : List Int) (salt : Int) => []) ⟨r_Id, r_Kind, r_Colours, r_SizeLow, r_SizeHigh, r_Places, ⟨r_Span_From, r_Span_Until⟩⟩ [] salt) :=
  mkCon_fn (fun x y h _ => c79_inj x y h) ((⟨r_Id, r_Kind, r_Colours, r_SizeLow, r_SizeHigh, r_Places, ⟨r_Span_From, r_Span_Until⟩⟩, [], salt) : TReport × (List Int) × Int) (by simp [nz, nz1, ML_nil, encLI, encTReport, encTSpan]) rfl
theorem c79_pc (r : TReport) (h : List Int) (salt : Int) (hpre : smR r ∧ h.length ≤ 1073741823) : PCo Try.prog 79 [encTReport r, encLI h, dI salt] (Tab.of []) (dB (mMayHave r h salt)) (Tab.of []) := by
  refine pco_of_run [] (E := ⟨[c76, c176], []⟩) (m := false) (base := 0) (Env.ok_cons c76_ok (Env.ok_cons c176_ok Env.ok_nil)) G_ok mix 300 6 Try.func79 (by kernel_rfl) rfl (by kernel_rfl) (by kernel_rfl) rfl ?_
  have hb := mHintsFor_len r salt
  obtain ⟨hp, hh⟩ := hpre
  simp at hp
  simp [Try.f79, hp, mMayHave]
  omega
theorem c79_ok : c79.ok Try.prog := mkCon_ok fun ⟨r, h, salt⟩ hpre => c79_pc r h salt hpre
/-- loop.example/g03007/laws.FnExactMayHave -/
theorem law13 (r : TReport) (wr : wfTReport r) (hints : List Int) (whints : wfLI hints) (salt : Int) (wsalt : inR .i64 salt) : PCo Try.prog 13 [encTReport r, encLI hints, dI salt] (Tab.of []) (dB true) (Tab.of []) := by
  obtain ⟨r_Id, r_Kind, r_Colours, r_SizeLow, r_SizeHigh, r_Places, ⟨r_Span_From, r_Span_Until⟩⟩ := r
  refine pco_of_run [1000077] (E := ⟨[c37, c52, c75, c77, c79, c80, c81], []⟩) (m := false) (base := 0) (Env.ok_cons c37_ok (Env.ok_cons c52_ok (Env.ok_cons c75_ok (Env.ok_cons c77_ok (Env.ok_cons c79_ok (Env.ok_cons c80_ok (Env.ok_cons c81_ok Env.ok_nil))))))) G_ok mix 400 6 Try.func13 (by kernel_rfl) rfl (by kernel_rfl) (by kernel_rfl) rfl ?_
  simp (config := {maxSteps := 3000000}) [Try.f13]
  have h1 := wfR_len wr
  simp at h1
  have h2 : hints.length ≤ maxLen := whints.1
  refine fun hm => ⟨h1, fun h => ?_⟩
  have hl := szR_len h
  simp at hl
  repeat' (first | omega | assumption | refine And.intro ?_ ?_ | intro _)
theorem law13_pc (D0 : D) (h0 : Sh G 9 93 D0) (D1 : D) (h1 : Sh G 9 32 D1) (D2 : D) (h2 : Sh G 9 3 D2) : PC Try.prog 13 [D0, D1, D2] (dB true) [] := by
  obtain ⟨r, rfl, wr⟩ := sh93 (n := 6) h0
  obtain ⟨hints, rfl, whints⟩ := sh32 (n := 7) h1
  obtain ⟨salt, rfl, wsalt⟩ := sh3 (n := 8) h2
  exact law13 r wr hints whints salt wsalt

end Go.Proofs.Ytmbgihklhmhilaa
