/- Contracts of the functions that the laws run. -/
import Derived.Test.Ytelhilcdlfjafaach06
import Derived.Test.YtelhilcdlfjafaahelpA
import Derived.Test.YtelhilcdlfjafaaEngB
namespace Go.Proofs.Ytelhilcdlfjafaa
open Go Go.Eng
set_option linter.unusedSimpArgs false
set_option linter.unusedVariables false
set_option maxRecDepth 10000
set_option maxHeartbeats 1000000
def ascW (hi : Int) : Int → List Int → Bool
  | _, [] => true
  | lo, x :: r => mIn x lo hi && ascW hi (x + 1) r
theorem ascW_at {hi lo : Int} {l : List Int} {p : Nat} (h : p < l.length) : ascW hi lo (l.drop p) = (mIn (l[p]?.getD 0) lo hi && ascW hi (l[p]?.getD 0 + 1) (l.drop (p + 1))) := by
  rw [drop_at (d := 0) h, ascW]
theorem ascW_end {hi lo : Int} {l : List Int} {p : Nat} (h : l.length ≤ p) : ascW hi lo (l.drop p) = true := by
  rw [List.drop_eq_nil_of_le h, ascW]
theorem ascW_by {hi lo : Int} : ∀ (l : List Int) (q : Int), lo ≤ q + 1 → ascW hi (q + 1) l = ascBy (fun x => mIn x lo hi) (fun x => x) (some q) l
  | [], _, _ => rfl
  | x :: r, q, hq => by
    simp only [ascW, ascBy]
    cases h : mIn x (q + 1) hi with
    | false =>
      have hn : (mIn x lo hi && decide (q < x)) = false := by
        rw [← Bool.not_eq_true, mIn_iff] at h
        rw [← Bool.not_eq_true, Bool.and_eq_true, mIn_iff, decide_eq_true_eq]; omega
      rw [hn]; simp
    | true =>
      rw [mIn_iff] at h
      have h1 : mIn x lo hi = true := mIn_iff.2 (by omega)
      rw [ascW_by (lo := lo) r x (by omega), h1]
      have : q < x := by omega
      simp [this]
theorem ascW_eq (hi lo : Int) : ∀ (l : List Int), ascW hi lo l = ascBy (fun x => mIn x lo hi) (fun x => x) none l
  | [] => rfl
  | x :: r => by
    simp only [ascW, ascBy]
    cases h : mIn x lo hi with
    | false => simp
    | true =>
      rw [mIn_iff] at h
      rw [ascW_by r x (lo := lo) (by omega)]; simp
/-- loop.example/g03007/impl.ascendWithin -/
noncomputable def c44 : Con := mkCon 44 false (α := (List Int) × Int × Int) (fun x => (fun (l : List Int) (lo : Int) (hi : Int) => [encLI l, dI lo, dI hi]) x.1 x.2.1 x.2.2) (fun _ => []) (fun x => (fun (l : List Int) (lo : Int) (hi : Int) => l.length ≤ 1099511627776 ∧ -1000 ≤ lo ∧ hi ≤ 1000000) x.1 x.2.1 x.2.2) (fun x => (fun (l : List Int) (lo : Int) (hi : Int) => (dB (ascW hi lo l) : D)) x.1 x.2.1 x.2.2) (fun x => (fun (l : List Int) (lo : Int) (hi : Int) => []) x.1 x.2.1 x.2.2)
@[simp] theorem c44_f : c44.f = 44 := rfl
@[simp] theorem c44_own : c44.own = false := rfl
theorem c44_inj : ∀ u_ v_ : (List Int) × Int × Int, ((fun x => (fun (l : List Int) (lo : Int) (hi : Int) => [encLI l, dI lo, dI hi]) x.1 x.2.1 x.2.2) u_).map nz = ((fun x => (fun (l : List Int) (lo : Int) (hi : Int) => [encLI l, dI lo, dI hi]) x.1 x.2.1 x.2.2) v_).map nz → u_ = v_ := by
  intro u_ v_ h
  obtain ⟨l, lo, hi⟩ := u_
  obtain ⟨l', lo', hi'⟩ := v_
  simp [nz_lit, nz1_lit, nz_agg, nz_sl, nz1_sl, encLI] at h
  first | (simp [h]; done) | (obtain ⟨⟩ := h; simp_all; done) | simp_all
@[simp] theorem c44_fn (l : List Int) (lo : Int) (hi : Int) : c44.fn [.sl false 1 (.lit (.int .i64 0)) (ML dI l), .lit (.int .i64 lo), .lit (.int .i64 hi)] [] = some ((fun (l : List Int) (lo : Int) (hi : Int) => l.length ≤ 1099511627776 ∧ -1000 ≤ lo ∧ hi ≤ 1000000) l lo hi, (fun (l : List Int) (lo : Int) (hi : Int) => (dB (ascW hi lo l) : D)) l lo hi, (fun (l : List Int) (lo : Int) (hi : Int) => []) l lo hi) :=
  mkCon_fn (fun x y h _ => c44_inj x y h) ((l, lo, hi) : (List Int) × Int × Int) (by simp [nz, nz1, ML_nil, encLI]) rfl
@[simp] theorem c44_fn1 (s_l : Nat) (z_l : D) (lo : Int) (hi : Int) : c44.fn [.sl false s_l z_l [], .lit (.int .i64 lo), .lit (.int .i64 hi)] [] = some ((fun (l : List Int) (lo : Int) (hi : Int) => l.length ≤ 1099511627776 ∧ -1000 ≤ lo ∧ hi ≤ 1000000) [] lo hi, (fun (l : List Int) (lo : Int) (hi : Int) => (dB (ascW hi lo l) : D)) [] lo hi, (fun (l : List Int) (lo : Int) (hi : Int) => []) [] lo hi) :=
  mkCon_fn (fun x y h _ => c44_inj x y h) (([], lo, hi) : (List Int) × Int × Int) (by simp [nz, nz1, ML_nil, encLI]) rfl
theorem c44_pc (l : List Int) (lo : Int) (hi : Int) (hpre : l.length ≤ 1099511627776 ∧ -1000 ≤ lo ∧ hi ≤ 1000000) : PCo Try.prog 44 [encLI l, dI lo, dI hi] (Tab.of []) (dB (ascW hi lo l)) (Tab.of []) := by
  refine pco_of_run [] (E := ⟨[c43], [], []⟩) (m := false) (base := 0) (Env.ok_cons c43_ok Env.ok_nil) G_ok mix 300 6 Try.func44 (by kernel_rfl) rfl (by kernel_rfl) (by kernel_rfl) rfl ?_
  simp [Try.f44]
  refine loop_inv (fun p : Nat × Int => p.1 ≤ l.length ∧ -1000 ≤ p.2 ∧ ascW hi lo l = ascW hi p.2 (l.drop p.1)) (fun p => [(1, dI p.2), (2, dI hi), (6, dB false), (9, encLI l), (10, dI l.length), (11, dI p.1)]) (fun _ => []) 1 (fun p => l.length - p.1) (0, lo) 400 (by simp) (by simp; omega) (by simp) ?_
  intro ⟨p, q⟩ ⟨hp, hq, hi_⟩
  simp at hp hq hi_ ⊢
  refine ⟨fun hlt => ?_, fun hge => ?_⟩
  · rw [ascW_at hlt] at hi_
    have hm := mIn_iff (x := l[p]?.getD 0) (y := q) (z := hi)
    refine ⟨hlt, fun h => by rw [hi_, h]; simp, fun h => ?_⟩
    have h2 := hm.1 h
    repeat' (first | omega | refine And.intro ?_ ?_ | intro _)
    exact Again.mk (p + 1, l[p]?.getD 0 + 1) ⟨by omega, by simp; omega, by rw [hi_, h]; simp⟩ (by simp) (by first | omega | (simp; omega))
  · rw [hi_, ascW_end hge]
theorem c44_ok : c44.ok Try.prog := mkCon_ok fun ⟨l, lo, hi⟩ hpre => c44_pc l lo hi hpre
/-- loop.example/g03007/spec.l7Ids -/
noncomputable def c42 : Con := mkCon 42 false (α := (List Int) × Int × Int) (fun x => (fun (l : List Int) (lo : Int) (hi : Int) => [encLI l, dI lo, dI hi]) x.1 x.2.1 x.2.2) (fun _ => []) (fun x => (fun (l : List Int) (lo : Int) (hi : Int) => l.length ≤ 1099511627776 ∧ -1000 ≤ lo ∧ hi ≤ 1000000) x.1 x.2.1 x.2.2) (fun x => (fun (l : List Int) (lo : Int) (hi : Int) => (dB (ascW hi lo l) : D)) x.1 x.2.1 x.2.2) (fun x => (fun (l : List Int) (lo : Int) (hi : Int) => []) x.1 x.2.1 x.2.2)
@[simp] theorem c42_f : c42.f = 42 := rfl
@[simp] theorem c42_own : c42.own = false := rfl
theorem c42_inj : ∀ u_ v_ : (List Int) × Int × Int, ((fun x => (fun (l : List Int) (lo : Int) (hi : Int) => [encLI l, dI lo, dI hi]) x.1 x.2.1 x.2.2) u_).map nz = ((fun x => (fun (l : List Int) (lo : Int) (hi : Int) => [encLI l, dI lo, dI hi]) x.1 x.2.1 x.2.2) v_).map nz → u_ = v_ := by
  intro u_ v_ h
  obtain ⟨l, lo, hi⟩ := u_
  obtain ⟨l', lo', hi'⟩ := v_
  simp [nz_lit, nz1_lit, nz_agg, nz_sl, nz1_sl, encLI] at h
  first | (simp [h]; done) | (obtain ⟨⟩ := h; simp_all; done) | simp_all
@[simp] theorem c42_fn (l : List Int) (lo : Int) (hi : Int) : c42.fn [.sl false 1 (.lit (.int .i64 0)) (ML dI l), .lit (.int .i64 lo), .lit (.int .i64 hi)] [] = some ((fun (l : List Int) (lo : Int) (hi : Int) => l.length ≤ 1099511627776 ∧ -1000 ≤ lo ∧ hi ≤ 1000000) l lo hi, (fun (l : List Int) (lo : Int) (hi : Int) => (dB (ascW hi lo l) : D)) l lo hi, (fun (l : List Int) (lo : Int) (hi : Int) => []) l lo hi) :=
  mkCon_fn (fun x y h _ => c42_inj x y h) ((l, lo, hi) : (List Int) × Int × Int) (by simp [nz, nz1, ML_nil, encLI]) rfl
@[simp] theorem c42_fn1 (s_l : Nat) (z_l : D) (lo : Int) (hi : Int) : c42.fn [.sl false s_l z_l [], .lit (.int .i64 lo), .lit (.int .i64 hi)] [] = some ((fun (l : List Int) (lo : Int) (hi : Int) => l.length ≤ 1099511627776 ∧ -1000 ≤ lo ∧ hi ≤ 1000000) [] lo hi, (fun (l : List Int) (lo : Int) (hi : Int) => (dB (ascW hi lo l) : D)) [] lo hi, (fun (l : List Int) (lo : Int) (hi : Int) => []) [] lo hi) :=
  mkCon_fn (fun x y h _ => c42_inj x y h) (([], lo, hi) : (List Int) × Int × Int) (by simp [nz, nz1, ML_nil, encLI]) rfl
theorem c42_pc (l : List Int) (lo : Int) (hi : Int) (hpre : l.length ≤ 1099511627776 ∧ -1000 ≤ lo ∧ hi ≤ 1000000) : PCo Try.prog 42 [encLI l, dI lo, dI hi] (Tab.of []) (dB (ascW hi lo l)) (Tab.of []) := by
  refine pco_of_run [] (E := ⟨[c41], [], []⟩) (m := false) (base := 0) (Env.ok_cons c41_ok Env.ok_nil) G_ok mix 300 6 Try.func42 (by kernel_rfl) rfl (by kernel_rfl) (by kernel_rfl) rfl ?_
  simp [Try.f42]
  rw [ascW_eq]
  refine loop_inv (fun p : Nat => p ≤ l.length ∧ ascBy (fun x => mIn x lo hi) (fun x => x) none l = ascBy (fun x => mIn x lo hi) (fun x => x) (prevO (fun x => x) l p) (l.drop p)) (fun p => [(0, encLI l), (1, dI lo), (2, dI hi), (6, dB false), (7, dI p)]) (fun _ => []) 1 (fun p => l.length - p) 0 400 (by simp) (by simp) (by simp) ?_
  intro p ⟨hp, hi_⟩
  simp
  refine ⟨fun hlt => ?_, fun hge => ?_⟩
  · rw [ascBy_at hlt] at hi_
    simp only [show (default : Int) = 0 from rfl] at hi_
    repeat' (first | omega | refine And.intro ?_ ?_ | intro _)
    all_goals first | exact Again.mk (p + 1) ⟨by omega, by rw [hi_]; grind⟩ (by simp) (by first | omega | (simp; omega)) | (rw [hi_]; grind)
  · rw [hi_, ascBy_end hge]
theorem c42_ok : c42.ok Try.prog := mkCon_ok fun ⟨l, lo, hi⟩ hpre => c42_pc l lo hi hpre
@[simp] def smR (r : TReport) : Prop := r.Colours.length ≤ 1099511627776 ∧ r.Places.length ≤ 1099511627776
def mIsReport (r : TReport) : Bool := mIn r.Id 1 999 && mIn r.Kind 1 8 && ascW 7 0 r.Colours && decide (1 ≤ r.SizeLow) && decide (r.SizeLow ≤ r.SizeHigh) && decide (r.SizeHigh ≤ 50) && ascW 30 1 r.Places && decide (r.Places.length ≤ 10) && mIsSpan r.Span
/-- loop.example/g03007/spec.IsReport -/
noncomputable def c30 : Con := mkCon 30 false (α := TReport) (fun x => (fun (r : TReport) => [encTReport r]) x) (fun _ => []) (fun x => (fun (r : TReport) => smR r) x) (fun x => (fun (r : TReport) => (dB (mIsReport r) : D)) x) (fun x => (fun (r : TReport) => []) x)
@[simp] theorem c30_f : c30.f = 30 := rfl
@[simp] theorem c30_own : c30.own = false := rfl
theorem c30_inj : ∀ u_ v_ : TReport, ((fun x => (fun (r : TReport) => [encTReport r]) x) u_).map nz = ((fun x => (fun (r : TReport) => [encTReport r]) x) v_).map nz → u_ = v_ := by
  intro u_ v_ h
  obtain ⟨r_Id, r_Kind, r_Colours, r_SizeLow, r_SizeHigh, r_Places, ⟨r_Span_From, r_Span_Until⟩⟩ := u_
  obtain ⟨r_Id', r_Kind', r_Colours', r_SizeLow', r_SizeHigh', r_Places', ⟨r_Span_From', r_Span_Until'⟩⟩ := v_
  simp [nz_lit, nz1_lit, nz_agg, nz_sl, nz1_sl, encLI, encTReport, encTSpan] at h
  first | (simp [h]; done) | (obtain ⟨⟩ := h; simp_all; done) | simp_all
@[simp] theorem c30_fn (r_Id : Int) (r_Kind : Int) (r_Colours : List Int) (r_SizeLow : Int) (r_SizeHigh : Int) (r_Places : List Int) (r_Span_From : Int) (r_Span_Until : Int) : c30.fn [.agg [.lit (.int .i64 r_Id), .lit (.int .i64 r_Kind), .sl false 1 (.lit (.int .i64 0)) (ML dI r_Colours), .lit (.int .i64 r_SizeLow), .lit (.int .i64 r_SizeHigh), .sl false 1 (.lit (.int .i64 0)) (ML dI r_Places), .lit (.int .i64 r_Span_From), .lit (.int .i64 r_Span_Until)]] [] = some ((fun (r : TReport) => smR r) ⟨r_Id, r_Kind, r_Colours, r_SizeLow, r_SizeHigh, r_Places, ⟨r_Span_From, r_Span_Until⟩⟩, (fun (r : TReport) => (dB (mIsReport r) : D)) ⟨r_Id, r_Kind, r_Colours, r_SizeLow, r_SizeHigh, r_Places, ⟨r_Span_From, r_Span_Until⟩⟩, (fun (r : TReport) => []) ⟨r_Id, r_Kind, r_Colours, r_SizeLow, r_SizeHigh, r_Places, ⟨r_Span_From, r_Span_Until⟩⟩) :=
  mkCon_fn (fun x y h _ => c30_inj x y h) (⟨r_Id, r_Kind, r_Colours, r_SizeLow, r_SizeHigh, r_Places, ⟨r_Span_From, r_Span_Until⟩⟩ : TReport) (by simp [nz, nz1, ML_nil, encLI, encTReport, encTSpan]) rfl
theorem c30_pc (r : TReport) (hpre : smR r) : PCo Try.prog 30 [encTReport r] (Tab.of []) (dB (mIsReport r)) (Tab.of []) := by
  obtain ⟨r_Id, r_Kind, r_Colours, r_SizeLow, r_SizeHigh, r_Places, ⟨r_Span_From, r_Span_Until⟩⟩ := r
  refine pco_of_run [] (E := ⟨[c33, c41, c42], [], []⟩) (m := false) (base := 0) (Env.ok_cons c33_ok (Env.ok_cons c41_ok (Env.ok_cons c42_ok Env.ok_nil))) G_ok mix 300 6 Try.func30 (by kernel_rfl) rfl (by kernel_rfl) (by kernel_rfl) rfl ?_
  simp [Try.f30]
  simp at hpre
  simp [mIsReport, hpre]
  first | rfl | omega | (rw [Bool.eq_iff_iff]; simp; done) | (rw [Bool.eq_iff_iff]; simp; omega) | (rw [Bool.eq_iff_iff]; simp; grind) | grind
theorem c30_ok : c30.ok Try.prog := mkCon_ok fun r hpre => c30_pc r hpre
/-- loop.example/g03007/impl.IsReport -/
noncomputable def c34 : Con := mkCon 34 false (α := TReport) (fun x => (fun (r : TReport) => [encTReport r]) x) (fun _ => []) (fun x => (fun (r : TReport) => smR r) x) (fun x => (fun (r : TReport) => (dB (mIsReport r) : D)) x) (fun x => (fun (r : TReport) => []) x)
@[simp] theorem c34_f : c34.f = 34 := rfl
@[simp] theorem c34_own : c34.own = false := rfl
theorem c34_inj : ∀ u_ v_ : TReport, ((fun x => (fun (r : TReport) => [encTReport r]) x) u_).map nz = ((fun x => (fun (r : TReport) => [encTReport r]) x) v_).map nz → u_ = v_ := by
  intro u_ v_ h
  obtain ⟨r_Id, r_Kind, r_Colours, r_SizeLow, r_SizeHigh, r_Places, ⟨r_Span_From, r_Span_Until⟩⟩ := u_
  obtain ⟨r_Id', r_Kind', r_Colours', r_SizeLow', r_SizeHigh', r_Places', ⟨r_Span_From', r_Span_Until'⟩⟩ := v_
  simp [nz_lit, nz1_lit, nz_agg, nz_sl, nz1_sl, encLI, encTReport, encTSpan] at h
  first | (simp [h]; done) | (obtain ⟨⟩ := h; simp_all; done) | simp_all
@[simp] theorem c34_fn (r_Id : Int) (r_Kind : Int) (r_Colours : List Int) (r_SizeLow : Int) (r_SizeHigh : Int) (r_Places : List Int) (r_Span_From : Int) (r_Span_Until : Int) : c34.fn [.agg [.lit (.int .i64 r_Id), .lit (.int .i64 r_Kind), .sl false 1 (.lit (.int .i64 0)) (ML dI r_Colours), .lit (.int .i64 r_SizeLow), .lit (.int .i64 r_SizeHigh), .sl false 1 (.lit (.int .i64 0)) (ML dI r_Places), .lit (.int .i64 r_Span_From), .lit (.int .i64 r_Span_Until)]] [] = some ((fun (r : TReport) => smR r) ⟨r_Id, r_Kind, r_Colours, r_SizeLow, r_SizeHigh, r_Places, ⟨r_Span_From, r_Span_Until⟩⟩, (fun (r : TReport) => (dB (mIsReport r) : D)) ⟨r_Id, r_Kind, r_Colours, r_SizeLow, r_SizeHigh, r_Places, ⟨r_Span_From, r_Span_Until⟩⟩, (fun (r : TReport) => []) ⟨r_Id, r_Kind, r_Colours, r_SizeLow, r_SizeHigh, r_Places, ⟨r_Span_From, r_Span_Until⟩⟩) :=
  mkCon_fn (fun x y h _ => c34_inj x y h) (⟨r_Id, r_Kind, r_Colours, r_SizeLow, r_SizeHigh, r_Places, ⟨r_Span_From, r_Span_Until⟩⟩ : TReport) (by simp [nz, nz1, ML_nil, encLI, encTReport, encTSpan]) rfl
theorem c34_pc (r : TReport) (hpre : smR r) : PCo Try.prog 34 [encTReport r] (Tab.of []) (dB (mIsReport r)) (Tab.of []) := by
  obtain ⟨r_Id, r_Kind, r_Colours, r_SizeLow, r_SizeHigh, r_Places, ⟨r_Span_From, r_Span_Until⟩⟩ := r
  refine pco_of_run [] (E := ⟨[c43, c44, c45], [], []⟩) (m := false) (base := 0) (Env.ok_cons c43_ok (Env.ok_cons c44_ok (Env.ok_cons c45_ok Env.ok_nil))) G_ok mix 300 6 Try.func34 (by kernel_rfl) rfl (by kernel_rfl) (by kernel_rfl) rfl ?_
  simp [Try.f34]
  simp at hpre
  simp [mIsReport, hpre]
  first | rfl | omega | (rw [Bool.eq_iff_iff]; simp; done) | (rw [Bool.eq_iff_iff]; simp; omega) | (rw [Bool.eq_iff_iff]; simp; grind) | grind
theorem c34_ok : c34.ok Try.prog := mkCon_ok fun r hpre => c34_pc r hpre
def mIsVague (r : TReport) : Bool := mIsReport r && decide (r.Colours.length = 0) && decide (r.Places.length = 0) && decide (r.SizeLow = 1) && decide (r.SizeHigh = 50)
/-- loop.example/g03007/laws.szIntS -/
noncomputable def c19 : Con := mkCon 19 false (α := (List Int) × Int) (fun x => (fun (l : List Int) (left : Int) => [encLI l, dI left]) x.1 x.2) (fun _ => []) (fun x => (fun (l : List Int) (left : Int) => l.length ≤ maxLen ∧ 0 ≤ left ∧ left ≤ 1099511627776) x.1 x.2) (fun x => (fun (l : List Int) (left : Int) => (dI (if left - l.length < 0 then -1 else left - l.length) : D)) x.1 x.2) (fun x => (fun (l : List Int) (left : Int) => []) x.1 x.2)
@[simp] theorem c19_f : c19.f = 19 := rfl
@[simp] theorem c19_own : c19.own = false := rfl
theorem c19_inj : ∀ u_ v_ : (List Int) × Int, ((fun x => (fun (l : List Int) (left : Int) => [encLI l, dI left]) x.1 x.2) u_).map nz = ((fun x => (fun (l : List Int) (left : Int) => [encLI l, dI left]) x.1 x.2) v_).map nz → u_ = v_ := by
  intro u_ v_ h
  obtain ⟨l, left⟩ := u_
  obtain ⟨l', left'⟩ := v_
  simp [nz_lit, nz1_lit, nz_agg, nz_sl, nz1_sl, encLI] at h
  first | (simp [h]; done) | (obtain ⟨⟩ := h; simp_all; done) | simp_all
@[simp] theorem c19_fn (l : List Int) (left : Int) : c19.fn [.sl false 1 (.lit (.int .i64 0)) (ML dI l), .lit (.int .i64 left)] [] = some ((fun (l : List Int) (left : Int) => l.length ≤ maxLen ∧ 0 ≤ left ∧ left ≤ 1099511627776) l left, (fun (l : List Int) (left : Int) => (dI (if left - l.length < 0 then -1 else left - l.length) : D)) l left, (fun (l : List Int) (left : Int) => []) l left) :=
  mkCon_fn (fun x y h _ => c19_inj x y h) ((l, left) : (List Int) × Int) (by simp [nz, nz1, ML_nil, encLI]) rfl
@[simp] theorem c19_fn1 (s_l : Nat) (z_l : D) (left : Int) : c19.fn [.sl false s_l z_l [], .lit (.int .i64 left)] [] = some ((fun (l : List Int) (left : Int) => l.length ≤ maxLen ∧ 0 ≤ left ∧ left ≤ 1099511627776) [] left, (fun (l : List Int) (left : Int) => (dI (if left - l.length < 0 then -1 else left - l.length) : D)) [] left, (fun (l : List Int) (left : Int) => []) [] left) :=
  mkCon_fn (fun x y h _ => c19_inj x y h) (([], left) : (List Int) × Int) (by simp [nz, nz1, ML_nil, encLI]) rfl
theorem c19_pc (l : List Int) (left : Int) (hpre : l.length ≤ maxLen ∧ 0 ≤ left ∧ left ≤ 1099511627776) : PCo Try.prog 19 [encLI l, dI left] (Tab.of []) (dI (if left - l.length < 0 then -1 else left - l.length)) (Tab.of []) := by
  refine pco_of_run [] (E := ⟨[], [], []⟩) (m := false) (base := 0) Env.ok_nil G_ok mix 300 6 Try.func19 (by kernel_rfl) rfl (by kernel_rfl) (by kernel_rfl) rfl ?_
  simp [Try.f19]
  simp [maxLen] at hpre
  all_goals omega
theorem c19_ok : c19.ok Try.prog := mkCon_ok fun ⟨l, left⟩ hpre => c19_pc l left hpre
@[simp] def smM (r : TReport) : Prop := r.Colours.length ≤ maxLen ∧ r.Places.length ≤ maxLen
def szR (r : TReport) (left : Int) : Int := if left - r.Colours.length < 0 ∨ left - r.Colours.length - r.Places.length < 0 then -1 else left - r.Colours.length - r.Places.length
/-- loop.example/g03007/laws.toReport -/
noncomputable def c7 : Con := mkCon 7 false (α := TReport) (fun x => (fun (r : TReport) => [encTReport r]) x) (fun _ => []) (fun x => (fun (r : TReport) => smR r) x) (fun x => (fun (r : TReport) => (encTReport r : D)) x) (fun x => (fun (r : TReport) => []) x)
@[simp] theorem c7_f : c7.f = 7 := rfl
@[simp] theorem c7_own : c7.own = false := rfl
theorem c7_inj : ∀ u_ v_ : TReport, ((fun x => (fun (r : TReport) => [encTReport r]) x) u_).map nz = ((fun x => (fun (r : TReport) => [encTReport r]) x) v_).map nz → u_ = v_ := by
  intro u_ v_ h
  obtain ⟨r_Id, r_Kind, r_Colours, r_SizeLow, r_SizeHigh, r_Places, ⟨r_Span_From, r_Span_Until⟩⟩ := u_
  obtain ⟨r_Id', r_Kind', r_Colours', r_SizeLow', r_SizeHigh', r_Places', ⟨r_Span_From', r_Span_Until'⟩⟩ := v_
  simp [nz_lit, nz1_lit, nz_agg, nz_sl, nz1_sl, encLI, encTReport, encTSpan] at h
  first | (simp [h]; done) | (obtain ⟨⟩ := h; simp_all; done) | simp_all
@[simp] theorem c7_fn (r_Id : Int) (r_Kind : Int) (r_Colours : List Int) (r_SizeLow : Int) (r_SizeHigh : Int) (r_Places : List Int) (r_Span_From : Int) (r_Span_Until : Int) : c7.fn [.agg [.lit (.int .i64 r_Id), .lit (.int .i64 r_Kind), .sl false 1 (.lit (.int .i64 0)) (ML dI r_Colours), .lit (.int .i64 r_SizeLow), .lit (.int .i64 r_SizeHigh), .sl false 1 (.lit (.int .i64 0)) (ML dI r_Places), .lit (.int .i64 r_Span_From), .lit (.int .i64 r_Span_Until)]] [] = some ((fun (r : TReport) => smR r) ⟨r_Id, r_Kind, r_Colours, r_SizeLow, r_SizeHigh, r_Places, ⟨r_Span_From, r_Span_Until⟩⟩, (fun (r : TReport) => (encTReport r : D)) ⟨r_Id, r_Kind, r_Colours, r_SizeLow, r_SizeHigh, r_Places, ⟨r_Span_From, r_Span_Until⟩⟩, (fun (r : TReport) => []) ⟨r_Id, r_Kind, r_Colours, r_SizeLow, r_SizeHigh, r_Places, ⟨r_Span_From, r_Span_Until⟩⟩) :=
  mkCon_fn (fun x y h _ => c7_inj x y h) (⟨r_Id, r_Kind, r_Colours, r_SizeLow, r_SizeHigh, r_Places, ⟨r_Span_From, r_Span_Until⟩⟩ : TReport) (by simp [nz, nz1, ML_nil, encLI, encTReport, encTSpan]) rfl
theorem c7_pc (r : TReport) (hpre : smR r) : PCo Try.prog 7 [encTReport r] (Tab.of []) (encTReport r) (Tab.of []) := by
  obtain ⟨r_Id, r_Kind, r_Colours, r_SizeLow, r_SizeHigh, r_Places, ⟨r_Span_From, r_Span_Until⟩⟩ := r
  refine pco_of_run [] (E := ⟨[c22, c23], [], []⟩) (m := false) (base := 0) (Env.ok_cons c22_ok (Env.ok_cons c23_ok Env.ok_nil)) G_ok mix 300 6 Try.func7 (by kernel_rfl) rfl (by kernel_rfl) (by kernel_rfl) rfl ?_
  simp [Try.f7]
  simp at hpre
  exact hpre
theorem c7_ok : c7.ok Try.prog := mkCon_ok fun r hpre => c7_pc r hpre
/-- loop.example/g03007/laws.eqReport -/
noncomputable def c9 : Con := mkCon 9 false (α := TReport × TReport) (fun x => (fun (a : TReport) (b : TReport) => [encTReport a, encTReport b]) x.1 x.2) (fun _ => []) (fun x => (fun (a : TReport) (b : TReport) => smR a ∧ smR b) x.1 x.2) (fun x => (fun (a : TReport) (b : TReport) => (dB (decide (a = b)) : D)) x.1 x.2) (fun x => (fun (a : TReport) (b : TReport) => []) x.1 x.2)
@[simp] theorem c9_f : c9.f = 9 := rfl
@[simp] theorem c9_own : c9.own = false := rfl
theorem c9_inj : ∀ u_ v_ : TReport × TReport, ((fun x => (fun (a : TReport) (b : TReport) => [encTReport a, encTReport b]) x.1 x.2) u_).map nz = ((fun x => (fun (a : TReport) (b : TReport) => [encTReport a, encTReport b]) x.1 x.2) v_).map nz → u_ = v_ := by
  intro u_ v_ h
  obtain ⟨⟨a_Id, a_Kind, a_Colours, a_SizeLow, a_SizeHigh, a_Places, ⟨a_Span_From, a_Span_Until⟩⟩, ⟨b_Id, b_Kind, b_Colours, b_SizeLow, b_SizeHigh, b_Places, ⟨b_Span_From, b_Span_Until⟩⟩⟩ := u_
  obtain ⟨⟨a_Id', a_Kind', a_Colours', a_SizeLow', a_SizeHigh', a_Places', ⟨a_Span_From', a_Span_Until'⟩⟩, ⟨b_Id', b_Kind', b_Colours', b_SizeLow', b_SizeHigh', b_Places', ⟨b_Span_From', b_Span_Until'⟩⟩⟩ := v_
  simp [nz_lit, nz1_lit, nz_agg, nz_sl, nz1_sl, encLI, encTReport, encTSpan] at h
  first | (simp [h]; done) | (obtain ⟨⟩ := h; simp_all; done) | simp_all
@[simp] theorem c9_fn (a_Id : Int) (a_Kind : Int) (a_Colours : List Int) (a_SizeLow : Int) (a_SizeHigh : Int) (a_Places : List Int) (a_Span_From : Int) (a_Span_Until : Int) (b_Id : Int) (b_Kind : Int) (b_Colours : List Int) (b_SizeLow : Int) (b_SizeHigh : Int) (b_Places : List Int) (b_Span_From : Int) (b_Span_Until : Int) : c9.fn [.agg [.lit (.int .i64 a_Id), .lit (.int .i64 a_Kind), .sl false 1 (.lit (.int .i64 0)) (ML dI a_Colours), .lit (.int .i64 a_SizeLow), .lit (.int .i64 a_SizeHigh), .sl false 1 (.lit (.int .i64 0)) (ML dI a_Places), .lit (.int .i64 a_Span_From), .lit (.int .i64 a_Span_Until)], .agg [.lit (.int .i64 b_Id), .lit (.int .i64 b_Kind), .sl false 1 (.lit (.int .i64 0)) (ML dI b_Colours), .lit (.int .i64 b_SizeLow), .lit (.int .i64 b_SizeHigh), .sl false 1 (.lit (.int .i64 0)) (ML dI b_Places), .lit (.int .i64 b_Span_From), .lit (.int .i64 b_Span_Until)]] [] = some ((fun (a : TReport) (b : TReport) => smR a ∧ smR b) ⟨a_Id, a_Kind, a_Colours, a_SizeLow, a_SizeHigh, a_Places, ⟨a_Span_From, a_Span_Until⟩⟩ ⟨b_Id, b_Kind, b_Colours, b_SizeLow, b_SizeHigh, b_Places, ⟨b_Span_From, b_Span_Until⟩⟩, (fun (a : TReport) (b : TReport) => (dB (decide (a = b)) : D)) ⟨a_Id, a_Kind, a_Colours, a_SizeLow, a_SizeHigh, a_Places, ⟨a_Span_From, a_Span_Until⟩⟩ ⟨b_Id, b_Kind, b_Colours, b_SizeLow, b_SizeHigh, b_Places, ⟨b_Span_From, b_Span_Until⟩⟩, (fun (a : TReport) (b : TReport) => []) ⟨a_Id, a_Kind, a_Colours, a_SizeLow, a_SizeHigh, a_Places, ⟨a_Span_From, a_Span_Until⟩⟩ ⟨b_Id, b_Kind, b_Colours, b_SizeLow, b_SizeHigh, b_Places, ⟨b_Span_From, b_Span_Until⟩⟩) :=
  mkCon_fn (fun x y h _ => c9_inj x y h) ((⟨a_Id, a_Kind, a_Colours, a_SizeLow, a_SizeHigh, a_Places, ⟨a_Span_From, a_Span_Until⟩⟩, ⟨b_Id, b_Kind, b_Colours, b_SizeLow, b_SizeHigh, b_Places, ⟨b_Span_From, b_Span_Until⟩⟩) : TReport × TReport) (by simp [nz, nz1, ML_nil, encLI, encTReport, encTSpan]) rfl
theorem c9_pc (a : TReport) (b : TReport) (hpre : smR a ∧ smR b) : PCo Try.prog 9 [encTReport a, encTReport b] (Tab.of []) (dB (decide (a = b))) (Tab.of []) := by
  obtain ⟨a_Id, a_Kind, a_Colours, a_SizeLow, a_SizeHigh, a_Places, ⟨a_Span_From, a_Span_Until⟩⟩ := a
  obtain ⟨b_Id, b_Kind, b_Colours, b_SizeLow, b_SizeHigh, b_Places, ⟨b_Span_From, b_Span_Until⟩⟩ := b
  refine pco_of_run [] (E := ⟨[c14, c26], [], []⟩) (m := false) (base := 0) (Env.ok_cons c14_ok (Env.ok_cons c26_ok Env.ok_nil)) G_ok mix 300 6 Try.func9 (by kernel_rfl) rfl (by kernel_rfl) (by kernel_rfl) rfl ?_
  simp [Try.f9]
  simp at hpre
  repeat' (first | omega | refine And.intro ?_ ?_ | intro _)
  all_goals grind
theorem c9_ok : c9.ok Try.prog := mkCon_ok fun ⟨a, b⟩ hpre => c9_pc a b hpre
/-- loop.example/g03007/laws.szReport -/
noncomputable def c5 : Con := mkCon 5 false (α := TReport × Int) (fun x => (fun (r : TReport) (left : Int) => [encTReport r, dI left]) x.1 x.2) (fun _ => []) (fun x => (fun (r : TReport) (left : Int) => smM r ∧ 0 ≤ left ∧ left ≤ 1099511627776) x.1 x.2) (fun x => (fun (r : TReport) (left : Int) => (dI (szR r left) : D)) x.1 x.2) (fun x => (fun (r : TReport) (left : Int) => []) x.1 x.2)
@[simp] theorem c5_f : c5.f = 5 := rfl
@[simp] theorem c5_own : c5.own = false := rfl
theorem c5_inj : ∀ u_ v_ : TReport × Int, ((fun x => (fun (r : TReport) (left : Int) => [encTReport r, dI left]) x.1 x.2) u_).map nz = ((fun x => (fun (r : TReport) (left : Int) => [encTReport r, dI left]) x.1 x.2) v_).map nz → u_ = v_ := by
  intro u_ v_ h
  obtain ⟨⟨r_Id, r_Kind, r_Colours, r_SizeLow, r_SizeHigh, r_Places, ⟨r_Span_From, r_Span_Until⟩⟩, left⟩ := u_
  obtain ⟨⟨r_Id', r_Kind', r_Colours', r_SizeLow', r_SizeHigh', r_Places', ⟨r_Span_From', r_Span_Until'⟩⟩, left'⟩ := v_
  simp [nz_lit, nz1_lit, nz_agg, nz_sl, nz1_sl, encLI, encTReport, encTSpan] at h
  first | (simp [h]; done) | (obtain ⟨⟩ := h; simp_all; done) | simp_all
@[simp] theorem c5_fn (r_Id : Int) (r_Kind : Int) (r_Colours : List Int) (r_SizeLow : Int) (r_SizeHigh : Int) (r_Places : List Int) (r_Span_From : Int) (r_Span_Until : Int) (left : Int) : c5.fn [.agg [.lit (.int .i64 r_Id), .lit (.int .i64 r_Kind), .sl false 1 (.lit (.int .i64 0)) (ML dI r_Colours), .lit (.int .i64 r_SizeLow), .lit (.int .i64 r_SizeHigh), .sl false 1 (.lit (.int .i64 0)) (ML dI r_Places), .lit (.int .i64 r_Span_From), .lit (.int .i64 r_Span_Until)], .lit (.int .i64 left)] [] = some ((fun (r : TReport) (left : Int) => smM r ∧ 0 ≤ left ∧ left ≤ 1099511627776) ⟨r_Id, r_Kind, r_Colours, r_SizeLow, r_SizeHigh, r_Places, ⟨r_Span_From, r_Span_Until⟩⟩ left, (fun (r : TReport) (left : Int) => (dI (szR r left) : D)) ⟨r_Id, r_Kind, r_Colours, r_SizeLow, r_SizeHigh, r_Places, ⟨r_Span_From, r_Span_Until⟩⟩ left, (fun (r : TReport) (left : Int) => []) ⟨r_Id, r_Kind, r_Colours, r_SizeLow, r_SizeHigh, r_Places, ⟨r_Span_From, r_Span_Until⟩⟩ left) :=
  mkCon_fn (fun x y h _ => c5_inj x y h) ((⟨r_Id, r_Kind, r_Colours, r_SizeLow, r_SizeHigh, r_Places, ⟨r_Span_From, r_Span_Until⟩⟩, left) : TReport × Int) (by simp [nz, nz1, ML_nil, encLI, encTReport, encTSpan]) rfl
theorem c5_pc (r : TReport) (left : Int) (hpre : smM r ∧ 0 ≤ left ∧ left ≤ 1099511627776) : PCo Try.prog 5 [encTReport r, dI left] (Tab.of []) (dI (szR r left)) (Tab.of []) := by
  obtain ⟨r_Id, r_Kind, r_Colours, r_SizeLow, r_SizeHigh, r_Places, ⟨r_Span_From, r_Span_Until⟩⟩ := r
  refine pco_of_run [] (E := ⟨[c19], [], []⟩) (m := false) (base := 0) (Env.ok_cons c19_ok Env.ok_nil) G_ok mix 300 6 Try.func5 (by kernel_rfl) rfl (by kernel_rfl) (by kernel_rfl) rfl ?_
  simp [Try.f5]
  simp at hpre
  repeat' (first | omega | refine And.intro ?_ ?_ | intro _)
  all_goals (simp only [szR]; (repeat' split) <;> omega)
theorem c5_ok : c5.ok Try.prog := mkCon_ok fun ⟨r, left⟩ hpre => c5_pc r left hpre
theorem wfR_len {r : TReport} (h : wfTReport r) : r.Colours.length ≤ maxLen ∧ r.Places.length ≤ maxLen := ⟨h.2.2.1.1, h.2.2.2.2.2.1.1⟩
theorem szR_len {r : TReport} {left : Int} (h : 0 ≤ szR r left) : r.Colours.length ≤ left ∧ r.Places.length ≤ left ∧ szR r left ≤ left := by
  simp only [szR] at h ⊢
  split at h
  · omega
  · rename_i h2; rw [if_neg h2]; omega
end Go.Proofs.Ytelhilcdlfjafaa
