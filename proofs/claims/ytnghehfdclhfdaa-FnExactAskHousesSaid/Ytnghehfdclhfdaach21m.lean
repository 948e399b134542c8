/- Contracts of the functions that the laws run. -/
import Derived.Test.Ytnghehfdclhfdaach21f
import Derived.Test.YtnghehfdclhfdaaEngB
namespace Go.Proofs.Ytnghehfdclhfdaa
open Go Go.Eng
set_option linter.unusedSimpArgs false
set_option linter.unusedVariables false
set_option maxRecDepth 10000
set_option maxHeartbeats 1000000
def mMayHave (r : TReport) (h : List Int) (salt : Int) : Bool := decide (0 < mShared (mHintsFor r salt) h)
/-- loop.example/g03007/spec.MayHave -/
noncomputable def c52 : Con := mkCon 52 false (α := TReport × (List Int) × Int) (fun x => (fun (r : TReport) (h : List Int) (salt : Int) => [encTReport r, encLI h, dI salt]) x.1 x.2.1 x.2.2) (fun _ => []) (fun x => (fun (r : TReport) (h : List Int) (salt : Int) => smR r ∧ h.length ≤ 1073741823) x.1 x.2.1 x.2.2) (fun x => (fun (r : TReport) (h : List Int) (salt : Int) => (dB (mMayHave r h salt) : D)) x.1 x.2.1 x.2.2) (fun x => (fun (r : TReport) (h : List Int) (salt : Int) => []) x.1 x.2.1 x.2.2)
@[simp] theorem c52_f : c52.f = 52 := rfl
@[simp] theorem c52_own : c52.own = false := rfl
theorem c52_inj : ∀ u_ v_ : TReport × (List Int) × Int, ((fun x => (fun (r : TReport) (h : List Int) (salt : Int) => [encTReport r, encLI h, dI salt]) x.1 x.2.1 x.2.2) u_).map nz = ((fun x => (fun (r : TReport) (h : List Int) (salt : Int) => [encTReport r, encLI h, dI salt]) x.1 x.2.1 x.2.2) v_).map nz → u_ = v_ := by
  intro u_ v_ h
  obtain ⟨⟨r_Id, r_Kind, r_Colours, r_SizeLow, r_SizeHigh, r_Places, ⟨r_Span_From, r_Span_Until⟩⟩, h, salt⟩ := u_
  obtain ⟨⟨r_Id', r_Kind', r_Colours', r_SizeLow', r_SizeHigh', r_Places', ⟨r_Span_From', r_Span_Until'⟩⟩, h', salt'⟩ := v_
  simp [nz_lit, nz1_lit, nz_agg, nz_sl, nz1_sl, encLI, encTReport, encTSpan] at h
  first | (simp [h]; done) | (obtain ⟨⟩ := h; simp_all; done) | simp_all
@[simp] theorem c52_fn (r_Id : Int) (r_Kind : Int) (r_Colours : List Int) (r_SizeLow : Int) (r_SizeHigh : Int) (r_Places : List Int) (r_Span_From : Int) (r_Span_Until : Int) (h : List Int) (salt : Int) : c52.fn [.agg [.lit (.int .i64 r_Id), .lit (.int .i64 r_Kind), .sl false 1 (.lit (.int .i64 0)) (ML dI r_Colours), .lit (.int .i64 r_SizeLow), .lit (.int .i64 r_SizeHigh), .sl false 1 (.lit (.int .i64 0)) (ML dI r_Places), .lit (.int .i64 r_Span_From), .lit (.int .i64 r_Span_Until)], .sl false 1 (.lit (.int .i64 0)) (ML dI h), .lit (.int .i64 salt)] [] = some ((fun (r : TReport) (h : List Int) (salt : Int) => smR r ∧ h.length ≤ 1073741823) ⟨r_Id, r_Kind, r_Colours, r_SizeLow, r_SizeHigh, r_Places, ⟨r_Span_From, r_Span_Until⟩⟩ h salt, (fun (r : TReport) (h : List Int) (salt : Int) => (dB (mMayHave r h salt) : D)) ⟨r_Id, r_Kind, r_Colours, r_SizeLow, r_SizeHigh, r_Places, ⟨r_Span_From, r_Span_Until⟩⟩ h salt, (fun (r : TReport) (h : List Int) (salt : Int) => []) ⟨r_Id, r_Kind, r_Colours, r_SizeLow, r_SizeHigh, r_Places, ⟨r_Span_From, r_Span_Until⟩⟩ h salt) :=
  mkCon_fn (fun x y h _ => c52_inj x y h) ((⟨r_Id, r_Kind, r_Colours, r_SizeLow, r_SizeHigh, r_Places, ⟨r_Span_From, r_Span_Until⟩⟩, h, salt) : TReport × (List Int) × Int) (by simp [nz, nz1, ML_nil, encLI, encTReport, encTSpan]) rfl
@[simp] theorem c52_fn1 (r_Id : Int) (r_Kind : Int) (r_Colours : List Int) (r_SizeLow : Int) (r_SizeHigh : Int) (r_Places : List Int) (r_Span_From : Int) (r_Span_Until : Int) (s_h : Nat) (z_h : D) (salt : Int) : c52.fn [.agg [.lit (.int .i64 r_Id), .lit (.int .i64 r_Kind), .sl false 1 (.lit (.int .i64 0)) (ML dI r_Colours), .lit (.int .i64 r_SizeLow), .lit (.int .i64 r_SizeHigh), .sl false 1 (.lit (.int .i64 0)) (ML dI r_Places), .lit (.int .i64 r_Span_From), .lit (.int .i64 r_Span_Until)], .sl false s_h z_h [], .lit (.int .i64 salt)] [] = some ((fun (r : TReport) (h : List Int) (salt : Int) => smR r ∧ h.length ≤ 1073741823) ⟨r_Id, r_Kind, r_Colours, r_SizeLow, r_SizeHigh, r_Places, ⟨r_Span_From, r_Span_Until⟩⟩ [] salt, (fun (r : TReport) (h : List Int) (salt : Int) => (dB (mMayHave r h salt) : D)) ⟨r_Id, r_Kind, r_Colours, r_SizeLow, r_SizeHigh, r_Places, ⟨r_Span_From, r_Span_Until⟩⟩ [] salt, (fun (r : TReport) (h : List Int) (salt : Int) => []) ⟨r_Id, r_Kind, r_Colours, r_SizeLow, r_SizeHigh, r_Places, ⟨r_Span_From, r_Span_Until⟩⟩ [] salt) :=
  mkCon_fn (fun x y h _ => c52_inj x y h) ((⟨r_Id, r_Kind, r_Colours, r_SizeLow, r_SizeHigh, r_Places, ⟨r_Span_From, r_Span_Until⟩⟩, [], salt) : TReport × (List Int) × Int) (by simp [nz, nz1, ML_nil, encLI, encTReport, encTSpan]) rfl
theorem c52_pc (r : TReport) (h : List Int) (salt : Int) (hpre : smR r ∧ h.length ≤ 1073741823) : PCo Try.prog 52 [encTReport r, encLI h, dI salt] (Tab.of []) (dB (mMayHave r h salt)) (Tab.of []) := by
  refine pco_of_run [] (E := ⟨[c76, c77], [], []⟩) (m := false) (base := 0) (Env.ok_cons c76_ok (Env.ok_cons c77_ok Env.ok_nil)) G_ok mix 300 6 Try.func52 (by kernel_rfl) rfl (by kernel_rfl) (by kernel_rfl) rfl ?_
  have hb := mHintsFor_len r salt
  obtain ⟨hp, hh⟩ := hpre
  simp at hp
  simp [Try.f52, hp, mMayHave]
  omega
theorem c52_ok : c52.ok Try.prog := mkCon_ok fun ⟨r, h, salt⟩ hpre => c52_pc r h salt hpre
end Go.Proofs.Ytnghehfdclhfdaa
