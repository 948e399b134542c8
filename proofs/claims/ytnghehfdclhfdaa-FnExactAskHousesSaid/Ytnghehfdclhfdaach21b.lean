/- Contracts of the functions that the laws run. -/
import Derived.Test.Ytnghehfdclhfdaach21a
import Derived.Test.YtnghehfdclhfdaaEngB
namespace Go.Proofs.Ytnghehfdclhfdaa
open Go Go.Eng
set_option linter.unusedSimpArgs false
set_option linter.unusedVariables false
set_option maxRecDepth 10000
set_option maxHeartbeats 1000000
def askI (r : TReport) (salt : Int) (l : List (List Int)) : Nat → List Int
  | 0 => []
  | p + 1 => if mMayHave r (l[p]?.getD []) salt then askI r salt l p ++ [(p : Int)] else askI r salt l p
theorem askI_len (r : TReport) (salt : Int) (l : List (List Int)) : ∀ p, (askI r salt l p).length ≤ p
  | 0 => by simp [askI]
  | p + 1 => by
    have := askI_len r salt l p
    simp only [askI]; split
    · simp; omega
    · omega
theorem askI_yes {r : TReport} {salt : Int} {l : List (List Int)} {p : Nat} (h : mMayHave r (l[p]?.getD []) salt = true) : askI r salt l (p + 1) = askI r salt l p ++ [(p : Int)] := by simp [askI, h]
theorem askI_no {r : TReport} {salt : Int} {l : List (List Int)} {p : Nat} (h : mMayHave r (l[p]?.getD []) salt = false) : askI r salt l (p + 1) = askI r salt l p := by simp [askI, h]
/-- loop.example/g03007/spec.AskHouses -/
noncomputable def c20 : Con := mkCon 20 false (α := TReport × (List (List Int)) × Int) (fun x => (fun (r : TReport) (l : List (List Int)) (salt : Int) => [encTReport r, encLLI l, dI salt]) x.1 x.2.1 x.2.2) (fun _ => []) (fun x => (fun (r : TReport) (l : List (List Int)) (salt : Int) => smR r ∧ l.length ≤ 1073741823 ∧ ∀ x ∈ l, x.length ≤ 1073741823) x.1 x.2.1 x.2.2) (fun x => (fun (r : TReport) (l : List (List Int)) (salt : Int) => (.own (0, 1) 1 0 (askI r salt l l.length).length : D)) x.1 x.2.1 x.2.2) (fun x => (fun (r : TReport) (l : List (List Int)) (salt : Int) => [((0, 1), .arr false 1 (dI 0) (ML dI (askI r salt l l.length)))]) x.1 x.2.1 x.2.2)
@[simp] theorem c20_f : c20.f = 20 := rfl
@[simp] theorem c20_own : c20.own = false := rfl
theorem c20_inj : ∀ u_ v_ : TReport × (List (List Int)) × Int, ((fun x => (fun (r : TReport) (l : List (List Int)) (salt : Int) => [encTReport r, encLLI l, dI salt]) x.1 x.2.1 x.2.2) u_).map nz = ((fun x => (fun (r : TReport) (l : List (List Int)) (salt : Int) => [encTReport r, encLLI l, dI salt]) x.1 x.2.1 x.2.2) v_).map nz → u_ = v_ := by
  intro u_ v_ h
  obtain ⟨⟨r_Id, r_Kind, r_Colours, r_SizeLow, r_SizeHigh, r_Places, ⟨r_Span_From, r_Span_Until⟩⟩, l, salt⟩ := u_
  obtain ⟨⟨r_Id', r_Kind', r_Colours', r_SizeLow', r_SizeHigh', r_Places', ⟨r_Span_From', r_Span_Until'⟩⟩, l', salt'⟩ := v_
  simp [nz_lit, nz1_lit, nz_agg, nz_sl, nz1_sl, encLI, encLLI, encTReport, encTSpan] at h
  first | (simp [h]; done) | (obtain ⟨⟩ := h; simp_all; done) | simp_all
@[simp] theorem c20_fn (r_Id : Int) (r_Kind : Int) (r_Colours : List Int) (r_SizeLow : Int) (r_SizeHigh : Int) (r_Places : List Int) (r_Span_From : Int) (r_Span_Until : Int) (l : List (List Int)) (salt : Int) : c20.fn [.agg [.lit (.int .i64 r_Id), .lit (.int .i64 r_Kind), .sl false 1 (.lit (.int .i64 0)) (ML dI r_Colours), .lit (.int .i64 r_SizeLow), .lit (.int .i64 r_SizeHigh), .sl false 1 (.lit (.int .i64 0)) (ML dI r_Places), .lit (.int .i64 r_Span_From), .lit (.int .i64 r_Span_Until)], .sl false 1 yLI (ML encLI l), .lit (.int .i64 salt)] [] = some ((fun (r : TReport) (l : List (List Int)) (salt : Int) => smR r ∧ l.length ≤ 1073741823 ∧ ∀ x ∈ l, x.length ≤ 1073741823) ⟨r_Id, r_Kind, r_Colours, r_SizeLow, r_SizeHigh, r_Places, ⟨r_Span_From, r_Span_Until⟩⟩ l salt, (fun (r : TReport) (l : List (List Int)) (salt : Int) => (.own (0, 1) 1 0 (askI r salt l l.length).length : D)) ⟨r_Id, r_Kind, r_Colours, r_SizeLow, r_SizeHigh, r_Places, ⟨r_Span_From, r_Span_Until⟩⟩ l salt, (fun (r : TReport) (l : List (List Int)) (salt : Int) => [((0, 1), .arr false 1 (dI 0) (ML dI (askI r salt l l.length)))]) ⟨r_Id, r_Kind, r_Colours, r_SizeLow, r_SizeHigh, r_Places, ⟨r_Span_From, r_Span_Until⟩⟩ l salt) :=
  mkCon_fn (fun x y h _ => c20_inj x y h) ((⟨r_Id, r_Kind, r_Colours, r_SizeLow, r_SizeHigh, r_Places, ⟨r_Span_From, r_Span_Until⟩⟩, l, salt) : TReport × (List (List Int)) × Int) (by simp [nz, nz1, ML_nil, encLI, encLLI, encTReport, encTSpan]) rfl
@[simp] theorem c20_fn1 (r_Id : Int) (r_Kind : Int) (r_Colours : List Int) (r_SizeLow : Int) (r_SizeHigh : Int) (r_Places : List Int) (r_Span_From : Int) (r_Span_Until : Int) (s_l : Nat) (z_l : D) (salt : Int) : c20.fn [.agg [.lit (.int .i64 r_Id), .lit (.int .i64 r_Kind), .sl false 1 (.lit (.int .i64 0)) (ML dI r_Colours), .lit (.int .i64 r_SizeLow), .lit (.int .i64 r_SizeHigh), .sl false 1 (.lit (.int .i64 0)) (ML dI r_Places), .lit (.int .i64 r_Span_From), .lit (.int .i64 r_Span_Until)], .sl false s_l z_l [], .lit (.int .i64 salt)] [] = some ((fun (r : TReport) (l : List (List Int)) (salt : Int) => smR r ∧ l.length ≤ 1073741823 ∧ ∀ x ∈ l, x.length ≤ 1073741823) ⟨r_Id, r_Kind, r_Colours, r_SizeLow, r_SizeHigh, r_Places, ⟨r_Span_From, r_Span_Until⟩⟩ [] salt, (fun (r : TReport) (l : List (List Int)) (salt : Int) => (.own (0, 1) 1 0 (askI r salt l l.length).length : D)) ⟨r_Id, r_Kind, r_Colours, r_SizeLow, r_SizeHigh, r_Places, ⟨r_Span_From, r_Span_Until⟩⟩ [] salt, (fun (r : TReport) (l : List (List Int)) (salt : Int) => [((0, 1), .arr false 1 (dI 0) (ML dI (askI r salt l l.length)))]) ⟨r_Id, r_Kind, r_Colours, r_SizeLow, r_SizeHigh, r_Places, ⟨r_Span_From, r_Span_Until⟩⟩ [] salt) :=
  mkCon_fn (fun x y h _ => c20_inj x y h) ((⟨r_Id, r_Kind, r_Colours, r_SizeLow, r_SizeHigh, r_Places, ⟨r_Span_From, r_Span_Until⟩⟩, [], salt) : TReport × (List (List Int)) × Int) (by simp [nz, nz1, ML_nil, encLI, encLLI, encTReport, encTSpan]) rfl
theorem c20_pc (r : TReport) (l : List (List Int)) (salt : Int) (hpre : smR r ∧ l.length ≤ 1073741823 ∧ ∀ x ∈ l, x.length ≤ 1073741823) : PCo Try.prog 20 [encTReport r, encLLI l, dI salt] (Tab.of []) (.own (0, 1) 1 0 (askI r salt l l.length).length) (Tab.of [((0, 1), .arr false 1 (dI 0) (ML dI (askI r salt l l.length)))]) := by
  refine pco_of_run [] (E := ⟨[c52], [], []⟩) (m := false) (base := 0) (Env.ok_cons c52_ok Env.ok_nil) G_ok mix 300 6 Try.func20 (by kernel_rfl) rfl (by kernel_rfl) (by kernel_rfl) rfl ?_
  simp [Try.f20]
  obtain ⟨hpr, hpl, hpx⟩ := hpre
  simp at hpr
  refine loop_inv (fun p : Nat => p ≤ l.length) (fun p => [(1, encLLI l), (2, dI salt), (3, .ptr (0, 1) 0), (7, .own (1, 1) 1 0 (askI r salt l p).length), (8, dI p)]) (fun p => [((0, 1), .box (encTReport r)), ((1, 1), .arr false 1 (dI 0) (ML dI (askI r salt l p)))]) 2 (fun p => l.length - p) 0 400 (by simp) (by simp) (by simp [askI]) ?_
  intro p hp
  have hb := askI_len r salt l p
  simp
  refine ⟨fun hlt => ?_, fun hge => ?_⟩
  · have hx := hpx _ (mem_getL hlt)
    have hy := askI_yes (r := r) (salt := salt) (l := l) (p := p)
    have hn := askI_no (r := r) (salt := salt) (l := l) (p := p)
    repeat' (first | omega | refine And.intro ?_ ?_ | intro _)
    all_goals first | (have hw := hy (by assumption); exact Again.mk (p + 1) (by omega) (by simp [hw]) (by first | omega | (simp; omega))) | (have hw := hn (by assumption); exact Again.mk (p + 1) (by omega) (by simp [hw]) (by first | omega | (simp; omega))) | trace_state
  · have : p = l.length := by omega
    subst this; simp
theorem c20_ok : c20.ok Try.prog := mkCon_ok fun ⟨r, l, salt⟩ hpre => c20_pc r l salt hpre
/-- loop.example/g03007/impl.AskHouses -/
noncomputable def c23 : Con := mkCon 23 false (α := TReport × (List (List Int)) × Int) (fun x => (fun (r : TReport) (l : List (List Int)) (salt : Int) => [encTReport r, encLLI l, dI salt]) x.1 x.2.1 x.2.2) (fun _ => []) (fun x => (fun (r : TReport) (l : List (List Int)) (salt : Int) => smR r ∧ l.length ≤ 1073741823 ∧ ∀ x ∈ l, x.length ≤ 1073741823) x.1 x.2.1 x.2.2) (fun x => (fun (r : TReport) (l : List (List Int)) (salt : Int) => (.own (0, 1) 1 0 (askI r salt l l.length).length : D)) x.1 x.2.1 x.2.2) (fun x => (fun (r : TReport) (l : List (List Int)) (salt : Int) => [((0, 1), .arr false 1 (dI 0) (ML dI (askI r salt l l.length)))]) x.1 x.2.1 x.2.2)
@[simp] theorem c23_f : c23.f = 23 := rfl
@[simp] theorem c23_own : c23.own = false := rfl
theorem c23_inj : ∀ u_ v_ : TReport × (List (List Int)) × Int, ((fun x => (fun (r : TReport) (l : List (List Int)) (salt : Int) => [encTReport r, encLLI l, dI salt]) x.1 x.2.1 x.2.2) u_).map nz = ((fun x => (fun (r : TReport) (l : List (List Int)) (salt : Int) => [encTReport r, encLLI l, dI salt]) x.1 x.2.1 x.2.2) v_).map nz → u_ = v_ := by
  intro u_ v_ h
  obtain ⟨⟨r_Id, r_Kind, r_Colours, r_SizeLow, r_SizeHigh, r_Places, ⟨r_Span_From, r_Span_Until⟩⟩, l, salt⟩ := u_
  obtain ⟨⟨r_Id', r_Kind', r_Colours', r_SizeLow', r_SizeHigh', r_Places', ⟨r_Span_From', r_Span_Until'⟩⟩, l', salt'⟩ := v_
  simp [nz_lit, nz1_lit, nz_agg, nz_sl, nz1_sl, encLI, encLLI, encTReport, encTSpan] at h
  first | (simp [h]; done) | (obtain ⟨⟩ := h; simp_all; done) | simp_all
@[simp] theorem c23_fn (r_Id : Int) (r_Kind : Int) (r_Colours : List Int) (r_SizeLow : Int) (r_SizeHigh : Int) (r_Places : List Int) (r_Span_From : Int) (r_Span_Until : Int) (l : List (List Int)) (salt : Int) : c23.fn [.agg [.lit (.int .i64 r_Id), .lit (.int .i64 r_Kind), .sl false 1 (.lit (.int .i64 0)) (ML dI r_Colours), .lit (.int .i64 r_SizeLow), .lit (.int .i64 r_SizeHigh), .sl false 1 (.lit (.int .i64 0)) (ML dI r_Places), .lit (.int .i64 r_Span_From), .lit (.int .i64 r_Span_Until)], .sl false 1 yLI (ML encLI l), .lit (.int .i64 salt)] [] = some ((fun (r : TReport) (l : List (List Int)) (salt : Int) => smR r ∧ l.length ≤ 1073741823 ∧ ∀ x ∈ l, x.length ≤ 1073741823) ⟨r_Id, r_Kind, r_Colours, r_SizeLow, r_SizeHigh, r_Places, ⟨r_Span_From, r_Span_Until⟩⟩ l salt, (fun (r : TReport) (l : List (List Int)) (salt : Int) => (.own (0, 1) 1 0 (askI r salt l l.length).length : D)) ⟨r_Id, r_Kind, r_Colours, r_SizeLow, r_SizeHigh, r_Places, ⟨r_Span_From, r_Span_Until⟩⟩ l salt, (fun (r : TReport) (l : List (List Int)) (salt : Int) => [((0, 1), .arr false 1 (dI 0) (ML dI (askI r salt l l.length)))]) ⟨r_Id, r_Kind, r_Colours, r_SizeLow, r_SizeHigh, r_Places, ⟨r_Span_From, r_Span_Until⟩⟩ l salt) :=
  mkCon_fn (fun x y h _ => c23_inj x y h) ((⟨r_Id, r_Kind, r_Colours, r_SizeLow, r_SizeHigh, r_Places, ⟨r_Span_From, r_Span_Until⟩⟩, l, salt) : TReport × (List (List Int)) × Int) (by simp [nz, nz1, ML_nil, encLI, encLLI, encTReport, encTSpan]) rfl
@[simp] theorem c23_fn1 (r_Id : Int) (r_Kind : Int) (r_Colours : List Int) (r_SizeLow : Int) (r_SizeHigh : Int) (r_Places : List Int) (r_Span_From : Int) (r_Span_Until : Int) (s_l : Nat) (z_l : D) (salt : Int) : c23.fn [.agg [.lit (.int .i64 r_Id), .lit (.int .i64 r_Kind), .sl false 1 (.lit (.int .i64 0)) (ML dI r_Colours), .lit (.int .i64 r_SizeLow), .lit (.int .i64 r_SizeHigh), .sl false 1 (.lit (.int .i64 0)) (ML dI r_Places), .lit (.int .i64 r_Span_From), .lit (.int .i64 r_Span_Until)], .sl false s_l z_l [], .lit (.int .i64 salt)] [] = some ((fun (r : TReport) (l : List (List Int)) (salt : Int) => smR r ∧ l.length ≤ 1073741823 ∧ ∀ x ∈ l, x.length ≤ 1073741823) ⟨r_Id, r_Kind, r_Colours, r_SizeLow, r_SizeHigh, r_Places, ⟨r_Span_From, r_Span_Until⟩⟩ [] salt, (fun (r : TReport) (l : List (List Int)) (salt : Int) => (.own (0, 1) 1 0 (askI r salt l l.length).length : D)) ⟨r_Id, r_Kind, r_Colours, r_SizeLow, r_SizeHigh, r_Places, ⟨r_Span_From, r_Span_Until⟩⟩ [] salt, (fun (r : TReport) (l : List (List Int)) (salt : Int) => [((0, 1), .arr false 1 (dI 0) (ML dI (askI r salt l l.length)))]) ⟨r_Id, r_Kind, r_Colours, r_SizeLow, r_SizeHigh, r_Places, ⟨r_Span_From, r_Span_Until⟩⟩ [] salt) :=
  mkCon_fn (fun x y h _ => c23_inj x y h) ((⟨r_Id, r_Kind, r_Colours, r_SizeLow, r_SizeHigh, r_Places, ⟨r_Span_From, r_Span_Until⟩⟩, [], salt) : TReport × (List (List Int)) × Int) (by simp [nz, nz1, ML_nil, encLI, encLLI, encTReport, encTSpan]) rfl
theorem c23_pc (r : TReport) (l : List (List Int)) (salt : Int) (hpre : smR r ∧ l.length ≤ 1073741823 ∧ ∀ x ∈ l, x.length ≤ 1073741823) : PCo Try.prog 23 [encTReport r, encLLI l, dI salt] (Tab.of []) (.own (0, 1) 1 0 (askI r salt l l.length).length) (Tab.of [((0, 1), .arr false 1 (dI 0) (ML dI (askI r salt l l.length)))]) := by
  refine pco_of_run [] (E := ⟨[c55, c56], [], []⟩) (m := false) (base := 0) (Env.ok_cons c55_ok (Env.ok_cons c56_ok Env.ok_nil)) G_ok mix 300 6 Try.func23 (by kernel_rfl) rfl (by kernel_rfl) (by kernel_rfl) rfl ?_
  simp [Try.f23]
  obtain ⟨hpr, hpl, hpx⟩ := hpre
  simp at hpr
  have hh := mHintsFor_len r salt
  refine ⟨hpr, ?_⟩
  refine loop_inv (fun p : Nat => p ≤ l.length) (fun p => [(7, .own (1, 1) 1 0 (askI r salt l p).length), (8, .own (0, 1) 1 0 (mHintsFor r salt).length), (15, encLLI l), (16, dI l.length), (17, dI p)]) (fun p => [((0, 1), .arr false 1 (dI 0) (ML dI (mHintsFor r salt))), ((1, 1), .arr false 1 (dI 0) (ML dI (askI r salt l p)))]) 2 (fun p => l.length - p) 0 400 (by simp) (by simp) (by simp [askI]) ?_
  intro p hp
  have hb := askI_len r salt l p
  simp
  refine ⟨fun hlt => ?_, fun hge => ?_⟩
  · have hx := hpx _ (mem_getL hlt)
    have hm : mMayHave r (l[p]?.getD []) salt = decide (0 < mShared (mHintsFor r salt) (l[p]?.getD [])) := rfl
    have hy := fun e => askI_yes (r := r) (salt := salt) (l := l) (p := p) (hm.trans (decide_eq_true e))
    have hn := fun e => askI_no (r := r) (salt := salt) (l := l) (p := p) (hm.trans (decide_eq_false e))
    repeat' (first | omega | refine And.intro ?_ ?_ | intro _)
    all_goals first | (have hw := hy (by omega); exact Again.mk (p + 1) (by omega) (by simp [hw]) (by first | omega | (simp; omega))) | (have hw := hn (by omega); exact Again.mk (p + 1) (by omega) (by simp [hw]) (by first | omega | (simp; omega))) | trace_state
  · have : p = l.length := by omega
    subst this; simp
theorem c23_ok : c23.ok Try.prog := mkCon_ok fun ⟨r, l, salt⟩ hpre => c23_pc r l salt hpre

end Go.Proofs.Ytnghehfdclhfdaa
