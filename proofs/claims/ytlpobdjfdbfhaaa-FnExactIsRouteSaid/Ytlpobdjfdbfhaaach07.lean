/- Contracts of the functions that the laws run. -/
import Derived.Test.Ytlpobdjfdbfhaaach06
import Derived.Test.YtlpobdjfdbfhaaahelpA
import Derived.Test.YtlpobdjfdbfhaaaEngB
namespace Go.Proofs.Ytlpobdjfdbfhaaa
open Go Go.Eng
set_option linter.unusedSimpArgs false
set_option linter.unusedVariables false
set_option maxRecDepth 10000
set_option maxHeartbeats 1000000
def ascW (hi : Int) : Int → List Int → Bool
  | _, [] => true
  | lo, x :: r => mIn x lo hi && ascW hi (x + 1) r
theorem ascW_at {hi lo : Int} {l : List Int} {p : Nat} (h : p < l.length) : ascW hi lo (l.drop p) = (mIn (l[p]?.getD 0) lo hi && ascW hi (l[p]?.getD 0 + 1) (l.drop (p + 1))) := by
  rw [drop_at (d := 0) h, ascW]
theorem ascW_end {hi lo : Int} {l : List Int} {p : Nat} (h : l.length ≤ p) : ascW hi lo (l.drop p) = true := by
  rw [List.drop_eq_nil_of_le h, ascW]
theorem ascW_by {hi lo : Int} : ∀ (l : List Int) (q : Int), lo ≤ q + 1 → ascW hi (q + 1) l = ascBy (fun x => mIn x lo hi) (fun x => x) (some q) l
  | [], _, _ => rfl
  | x :: r, q, hq => by
    simp only [ascW, ascBy]
    cases h : mIn x (q + 1) hi with
    | false =>
      have hn : (mIn x lo hi && decide (q < x)) = false := by
        rw [← Bool.not_eq_true, mIn_iff] at h
        rw [← Bool.not_eq_true, Bool.and_eq_true, mIn_iff, decide_eq_true_eq]; omega
      rw [hn]; simp
    | true =>
      rw [mIn_iff] at h
      have h1 : mIn x lo hi = true := mIn_iff.2 (by omega)
      rw [ascW_by (lo := lo) r x (by omega), h1]
      have : q < x := by omega
      simp [this]
theorem ascW_eq (hi lo : Int) : ∀ (l : List Int), ascW hi lo l = ascBy (fun x => mIn x lo hi) (fun x => x) none l
  | [] => rfl
  | x :: r => by
    simp only [ascW, ascBy]
    cases h : mIn x lo hi with
    | false => simp
    | true =>
      rw [mIn_iff] at h
      rw [ascW_by r x (lo := lo) (by omega)]; simp
/-- loop.example/g03007/impl.ascendWithin -/
noncomputable def c136 : Con := mkCon 136 false (α := (List Int) × Int × Int) (fun x => (fun (l : List Int) (lo : Int) (hi : Int) => [encLI l, dI lo, dI hi]) x.1 x.2.1 x.2.2) (fun _ => []) (fun x => (fun (l : List Int) (lo : Int) (hi : Int) => l.length ≤ 1099511627776 ∧ -1000 ≤ lo ∧ hi ≤ 1000000) x.1 x.2.1 x.2.2) (fun x => (fun (l : List Int) (lo : Int) (hi : Int) => (dB (ascW hi lo l) : D)) x.1 x.2.1 x.2.2) (fun x => (fun (l : List Int) (lo : Int) (hi : Int) => []) x.1 x.2.1 x.2.2)
@[simp] theorem c136_f : c136.f = 136 := rfl
@[simp] theorem c136_own : c136.own = false := rfl
theorem c136_inj : ∀ u_ v_ : (List Int) × Int × Int, ((fun x => (fun (l : List Int) (lo : Int) (hi : Int) => [encLI l, dI lo, dI hi]) x.1 x.2.1 x.2.2) u_).map nz = ((fun x => (fun (l : List Int) (lo : Int) (hi : Int) => [encLI l, dI lo, dI hi]) x.1 x.2.1 x.2.2) v_).map nz → u_ = v_ := by
  intro u_ v_ h
  obtain ⟨l, lo, hi⟩ := u_
  obtain ⟨l', lo', hi'⟩ := v_
  simp [nz_lit, nz1_lit, nz_agg, nz_sl, nz1_sl, encLI] at h
  first | (simp [h]; done) | (obtain ⟨⟩ := h; simp_all; done) | simp_all
@[simp] theorem c136_fn (l : List Int) (lo : Int) (hi : Int) : c136.fn [.sl false 1 (.lit (.int .i64 0)) (ML dI l), .lit (.int .i64 lo), .lit (.int .i64 hi)] [] = some ((fun (l : List Int) (lo : Int) (hi : Int) => l.length ≤ 1099511627776 ∧ -1000 ≤ lo ∧ hi ≤ 1000000) l lo hi, (fun (l : List Int) (lo : Int) (hi : Int) => (dB (ascW hi lo l) : D)) l lo hi, (fun (l : List Int) (lo : Int) (hi : Int) => []) l lo hi) :=
  mkCon_fn (fun x y h _ => c136_inj x y h) ((l, lo, hi) : (List Int) × Int × Int) (by simp [nz, nz1, ML_nil, encLI]) rfl
@[simp] theorem c136_fn1 (s_l : Nat) (z_l : D) (lo : Int) (hi : Int) : c136.fn [.sl false s_l z_l [], .lit (.int .i64 lo), .lit (.int .i64 hi)] [] = some ((fun (l : List Int) (lo : Int) (hi : Int) => l.length ≤ 1099511627776 ∧ -1000 ≤ lo ∧ hi ≤ 1000000) [] lo hi, (fun (l : List Int) (lo : Int) (hi : Int) => (dB (ascW hi lo l) : D)) [] lo hi, (fun (l : List Int) (lo : Int) (hi : Int) => []) [] lo hi) :=
  mkCon_fn (fun x y h _ => c136_inj x y h) (([], lo, hi) : (List Int) × Int × Int) (by simp [nz, nz1, ML_nil, encLI]) rfl
theorem c136_pc (l : List Int) (lo : Int) (hi : Int) (hpre : l.length ≤ 1099511627776 ∧ -1000 ≤ lo ∧ hi ≤ 1000000) : PCo Try.prog 136 [encLI l, dI lo, dI hi] (Tab.of []) (dB (ascW hi lo l)) (Tab.of []) := by
  refine pco_of_run [] (E := ⟨[c135], []⟩) (m := false) (base := 0) (Env.ok_cons c135_ok Env.ok_nil) G_ok mix 300 6 Try.func136 (by kernel_rfl) rfl (by kernel_rfl) (by kernel_rfl) rfl ?_
  simp [Try.f136]
  refine loop_inv (fun p : Nat × Int => p.1 ≤ l.length ∧ -1000 ≤ p.2 ∧ ascW hi lo l = ascW hi p.2 (l.drop p.1)) (fun p => [(1, dI p.2), (2, dI hi), (6, dB false), (9, encLI l), (10, dI l.length), (11, dI p.1)]) (fun _ => []) 1 (fun p => l.length - p.1) (0, lo) 400 (by simp) (by simp; omega) (by simp) ?_
  intro ⟨p, q⟩ ⟨hp, hq, hi_⟩
  simp at hp hq hi_ ⊢
  refine ⟨fun hlt => ?_, fun hge => ?_⟩
  · rw [ascW_at hlt] at hi_
    have hm := mIn_iff (x := l[p]?.getD 0) (y := q) (z := hi)
    refine ⟨hlt, fun h => by rw [hi_, h]; simp, fun h => ?_⟩
    have h2 := hm.1 h
    repeat' (first | omega | refine And.intro ?_ ?_ | intro _)
    exact Again.mk (p + 1, l[p]?.getD 0 + 1) ⟨by omega, by simp; omega, by rw [hi_, h]; simp⟩ (by simp) (by first | omega | (simp; omega))
  · rw [hi_, ascW_end hge]
theorem c136_ok : c136.ok Try.prog := mkCon_ok fun ⟨l, lo, hi⟩ hpre => c136_pc l lo hi hpre
/-- loop.example/g03007/spec.l7Ids -/
noncomputable def c132 : Con := mkCon 132 false (α := (List Int) × Int × Int) (fun x => (fun (l : List Int) (lo : Int) (hi : Int) => [encLI l, dI lo, dI hi]) x.1 x.2.1 x.2.2) (fun _ => []) (fun x => (fun (l : List Int) (lo : Int) (hi : Int) => l.length ≤ 1099511627776 ∧ -1000 ≤ lo ∧ hi ≤ 1000000) x.1 x.2.1 x.2.2) (fun x => (fun (l : List Int) (lo : Int) (hi : Int) => (dB (ascW hi lo l) : D)) x.1 x.2.1 x.2.2) (fun x => (fun (l : List Int) (lo : Int) (hi : Int) => []) x.1 x.2.1 x.2.2)
@[simp] theorem c132_f : c132.f = 132 := rfl
@[simp] theorem c132_own : c132.own = false := rfl
theorem c132_inj : ∀ u_ v_ : (List Int) × Int × Int, ((fun x => (fun (l : List Int) (lo : Int) (hi : Int) => [encLI l, dI lo, dI hi]) x.1 x.2.1 x.2.2) u_).map nz = ((fun x => (fun (l : List Int) (lo : Int) (hi : Int) => [encLI l, dI lo, dI hi]) x.1 x.2.1 x.2.2) v_).map nz → u_ = v_ := by
  intro u_ v_ h
  obtain ⟨l, lo, hi⟩ := u_
  obtain ⟨l', lo', hi'⟩ := v_
  simp [nz_lit, nz1_lit, nz_agg, nz_sl, nz1_sl, encLI] at h
  first | (simp [h]; done) | (obtain ⟨⟩ := h; simp_all; done) | simp_all
@[simp] theorem c132_fn (l : List Int) (lo : Int) (hi : Int) : c132.fn [.sl false 1 (.lit (.int .i64 0)) (ML dI l), .lit (.int .i64 lo), .lit (.int .i64 hi)] [] = some ((fun (l : List Int) (lo : Int) (hi : Int) => l.length ≤ 1099511627776 ∧ -1000 ≤ lo ∧ hi ≤ 1000000) l lo hi, (fun (l : List Int) (lo : Int) (hi : Int) => (dB (ascW hi lo l) : D)) l lo hi, (fun (l : List Int) (lo : Int) (hi : Int) => []) l lo hi) :=
  mkCon_fn (fun x y h _ => c132_inj x y h) ((l, lo, hi) : (List Int) × Int × Int) (by simp [nz, nz1, ML_nil, encLI]) rfl
@[simp] theorem c132_fn1 (s_l : Nat) (z_l : D) (lo : Int) (hi : Int) : c132.fn [.sl false s_l z_l [], .lit (.int .i64 lo), .lit (.int .i64 hi)] [] = some ((fun (l : List Int) (lo : Int) (hi : Int) => l.length ≤ 1099511627776 ∧ -1000 ≤ lo ∧ hi ≤ 1000000) [] lo hi, (fun (l : List Int) (lo : Int) (hi : Int) => (dB (ascW hi lo l) : D)) [] lo hi, (fun (l : List Int) (lo : Int) (hi : Int) => []) [] lo hi) :=
  mkCon_fn (fun x y h _ => c132_inj x y h) (([], lo, hi) : (List Int) × Int × Int) (by simp [nz, nz1, ML_nil, encLI]) rfl
theorem c132_pc (l : List Int) (lo : Int) (hi : Int) (hpre : l.length ≤ 1099511627776 ∧ -1000 ≤ lo ∧ hi ≤ 1000000) : PCo Try.prog 132 [encLI l, dI lo, dI hi] (Tab.of []) (dB (ascW hi lo l)) (Tab.of []) := by
  refine pco_of_run [] (E := ⟨[c117], []⟩) (m := false) (base := 0) (Env.ok_cons c117_ok Env.ok_nil) G_ok mix 300 6 Try.func132 (by kernel_rfl) rfl (by kernel_rfl) (by kernel_rfl) rfl ?_
  simp [Try.f132]
  rw [ascW_eq]
  refine loop_inv (fun p : Nat => p ≤ l.length ∧ ascBy (fun x => mIn x lo hi) (fun x => x) none l = ascBy (fun x => mIn x lo hi) (fun x => x) (prevO (fun x => x) l p) (l.drop p)) (fun p => [(0, encLI l), (1, dI lo), (2, dI hi), (6, dB false), (7, dI p)]) (fun _ => []) 1 (fun p => l.length - p) 0 400 (by simp) (by simp) (by simp) ?_
  intro p ⟨hp, hi_⟩
  simp
  refine ⟨fun hlt => ?_, fun hge => ?_⟩
  · rw [ascBy_at hlt] at hi_
    simp only [show (default : Int) = 0 from rfl] at hi_
    repeat' (first | omega | refine And.intro ?_ ?_ | intro _)
    all_goals first | exact Again.mk (p + 1) ⟨by omega, by rw [hi_]; grind⟩ (by simp) (by first | omega | (simp; omega)) | (rw [hi_]; grind)
  · rw [hi_, ascBy_end hge]
theorem c132_ok : c132.ok Try.prog := mkCon_ok fun ⟨l, lo, hi⟩ hpre => c132_pc l lo hi hpre
@[simp] def smR (r : TReport) : Prop := r.Colours.length ≤ 1099511627776 ∧ r.Places.length ≤ 1099511627776
def mIsReport (r : TReport) : Bool := mIn r.Id 1 999 && mIn r.Kind 1 8 && ascW 7 0 r.Colours && decide (1 ≤ r.SizeLow) && decide (r.SizeLow ≤ r.SizeHigh) && decide (r.SizeHigh ≤ 50) && ascW 30 1 r.Places && decide (r.Places.length ≤ 10) && mIsSpan r.Span
/-- loop.example/g03007/spec.IsReport -/
noncomputable def c54 : Con := mkCon 54 false (α := TReport) (fun x => (fun (r : TReport) => [encTReport r]) x) (fun _ => []) (fun x => (fun (r : TReport) => smR r) x) (fun x => (fun (r : TReport) => (dB (mIsReport r) : D)) x) (fun x => (fun (r : TReport) => []) x)
@[simp] theorem c54_f : c54.f = 54 := rfl
@[simp] theorem c54_own : c54.own = false := rfl
theorem c54_inj : ∀ u_ v_ : TReport, ((fun x => (fun (r : TReport) => [encTReport r]) x) u_).map nz = ((fun x => (fun (r : TReport) => [encTReport r]) x) v_).map nz → u_ = v_ := by
  intro u_ v_ h
  obtain ⟨r_Id, r_Kind, r_Colours, r_SizeLow, r_SizeHigh, r_Places, ⟨r_Span_From, r_Span_Until⟩⟩ := u_
  obtain ⟨r_Id', r_Kind', r_Colours', r_SizeLow', r_SizeHigh', r_Places', ⟨r_Span_From', r_Span_Until'⟩⟩ := v_
  simp [nz_lit, nz1_lit, nz_agg, nz_sl, nz1_sl, encLI, encTReport, encTSpan] at h
  first | (simp [h]; done) | (obtain ⟨⟩ := h; simp_all; done) | simp_all
@[simp] theorem c54_fn (r_Id : Int) (r_Kind : Int) (r_Colours : List Int) (r_SizeLow : Int) (r_SizeHigh : Int) (r_Places : List Int) (r_Span_From : Int) (r_Span_Until : Int) : c54.fn [.agg [.lit (.int .i64 r_Id), .lit (.int .i64 r_Kind), .sl false 1 (.lit (.int .i64 0)) (ML dI r_Colours), .lit (.int .i64 r_SizeLow), .lit (.int .i64 r_SizeHigh), .sl false 1 (.lit (.int .i64 0)) (ML dI r_Places), .lit (.int .i64 r_Span_From), .lit (.int .i64 r_Span_Until)]] [] = some ((fun (r : TReport) => smR r) ⟨r_Id, r_Kind, r_Colours, r_SizeLow, r_SizeHigh, r_Places, ⟨r_Span_From, r_Span_Until⟩⟩, (fun (r : TReport) => (dB (mIsReport r) : D)) ⟨r_Id, r_Kind, r_Colours, r_SizeLow, r_SizeHigh, r_Places, ⟨r_Span_From, r_Span_Until⟩⟩, (fun (r : TReport) => []) ⟨r_Id, r_Kind, r_Colours, r_SizeLow, r_SizeHigh, r_Places, ⟨r_Span_From, r_Span_Until⟩⟩) :=
  mkCon_fn (fun x y h _ => c54_inj x y h) (⟨r_Id, r_Kind, r_Colours, r_SizeLow, r_SizeHigh, r_Places, ⟨r_Span_From, r_Span_Until⟩⟩ : TReport) (by simp [nz, nz1, ML_nil, encLI, encTReport, encTSpan]) rfl
theorem c54_pc (r : TReport) (hpre : smR r) : PCo Try.prog 54 [encTReport r] (Tab.of []) (dB (mIsReport r)) (Tab.of []) := by
  obtain ⟨r_Id, r_Kind, r_Colours, r_SizeLow, r_SizeHigh, r_Places, ⟨r_Span_From, r_Span_Until⟩⟩ := r
  refine pco_of_run [] (E := ⟨[c117, c132, c133], []⟩) (m := false) (base := 0) (Env.ok_cons c117_ok (Env.ok_cons c132_ok (Env.ok_cons c133_ok Env.ok_nil))) G_ok mix 300 6 Try.func54 (by kernel_rfl) rfl (by kernel_rfl) (by kernel_rfl) rfl ?_
  simp [Try.f54]
  simp at hpre
  simp [mIsReport, hpre]
  first | rfl | omega | (rw [Bool.eq_iff_iff]; simp; done) | (rw [Bool.eq_iff_iff]; simp; omega) | (rw [Bool.eq_iff_iff]; simp; grind) | grind
theorem c54_ok : c54.ok Try.prog := mkCon_ok fun r hpre => c54_pc r hpre
/-- loop.example/g03007/impl.IsReport -/
noncomputable def c56 : Con := mkCon 56 false (α := TReport) (fun x => (fun (r : TReport) => [encTReport r]) x) (fun _ => []) (fun x => (fun (r : TReport) => smR r) x) (fun x => (fun (r : TReport) => (dB (mIsReport r) : D)) x) (fun x => (fun (r : TReport) => []) x)
@[simp] theorem c56_f : c56.f = 56 := rfl
@[simp] theorem c56_own : c56.own = false := rfl
theorem c56_inj : ∀ u_ v_ : TReport, ((fun x => (fun (r : TReport) => [encTReport r]) x) u_).map nz = ((fun x => (fun (r : TReport) => [encTReport r]) x) v_).map nz → u_ = v_ := by
  intro u_ v_ h
  obtain ⟨r_Id, r_Kind, r_Colours, r_SizeLow, r_SizeHigh, r_Places, ⟨r_Span_From, r_Span_Until⟩⟩ := u_
  obtain ⟨r_Id', r_Kind', r_Colours', r_SizeLow', r_SizeHigh', r_Places', ⟨r_Span_From', r_Span_Until'⟩⟩ := v_
  simp [nz_lit, nz1_lit, nz_agg, nz_sl, nz1_sl, encLI, encTReport, encTSpan] at h
  first | (simp [h]; done) | (obtain ⟨⟩ := h; simp_all; done) | simp_all
@[simp] theorem c56_fn (r_Id : Int) (r_Kind : Int) (r_Colours : List Int) (r_SizeLow : Int) (r_SizeHigh : Int) (r_Places : List Int) (r_Span_From : Int) (r_Span_Until : Int) : c56.fn [.agg [.lit (.int .i64 r_Id), .lit (.int .i64 r_Kind), .sl false 1 (.lit (.int .i64 0)) (ML dI r_Colours), .lit (.int .i64 r_SizeLow), .lit (.int .i64 r_SizeHigh), .sl false 1 (.lit (.int .i64 0)) (ML dI r_Places), .lit (.int .i64 r_Span_From), .lit (.int .i64 r_Span_Until)]] [] = some ((fun (r : TReport) => smR r) ⟨r_Id, r_Kind, r_Colours, r_SizeLow, r_SizeHigh, r_Places, ⟨r_Span_From, r_Span_Until⟩⟩, (fun (r : TReport) => (dB (mIsReport r) : D)) ⟨r_Id, r_Kind, r_Colours, r_SizeLow, r_SizeHigh, r_Places, ⟨r_Span_From, r_Span_Until⟩⟩, (fun (r : TReport) => []) ⟨r_Id, r_Kind, r_Colours, r_SizeLow, r_SizeHigh, r_Places, ⟨r_Span_From, r_Span_Until⟩⟩) :=
  mkCon_fn (fun x y h _ => c56_inj x y h) (⟨r_Id, r_Kind, r_Colours, r_SizeLow, r_SizeHigh, r_Places, ⟨r_Span_From, r_Span_Until⟩⟩ : TReport) (by simp [nz, nz1, ML_nil, encLI, encTReport, encTSpan]) rfl
theorem c56_pc (r : TReport) (hpre : smR r) : PCo Try.prog 56 [encTReport r] (Tab.of []) (dB (mIsReport r)) (Tab.of []) := by
  obtain ⟨r_Id, r_Kind, r_Colours, r_SizeLow, r_SizeHigh, r_Places, ⟨r_Span_From, r_Span_Until⟩⟩ := r
  refine pco_of_run [] (E := ⟨[c135, c136, c137], []⟩) (m := false) (base := 0) (Env.ok_cons c135_ok (Env.ok_cons c136_ok (Env.ok_cons c137_ok Env.ok_nil))) G_ok mix 300 6 Try.func56 (by kernel_rfl) rfl (by kernel_rfl) (by kernel_rfl) rfl ?_
  simp [Try.f56]
  simp at hpre
  simp [mIsReport, hpre]
  first | rfl | omega | (rw [Bool.eq_iff_iff]; simp; done) | (rw [Bool.eq_iff_iff]; simp; omega) | (rw [Bool.eq_iff_iff]; simp; grind) | grind
theorem c56_ok : c56.ok Try.prog := mkCon_ok fun r hpre => c56_pc r hpre
def mIsVague (r : TReport) : Bool := mIsReport r && decide (r.Colours.length = 0) && decide (r.Places.length = 0) && decide (r.SizeLow = 1) && decide (r.SizeHigh = 50)
/-- loop.example/g03007/spec.IsVague -/
noncomputable def c70 : Con := mkCon 70 false (α := TReport) (fun x => (fun (r : TReport) => [encTReport r]) x) (fun _ => []) (fun x => (fun (r : TReport) => smR r) x) (fun x => (fun (r : TReport) => (dB (mIsVague r) : D)) x) (fun x => (fun (r : TReport) => []) x)
@[simp] theorem c70_f : c70.f = 70 := rfl
@[simp] theorem c70_own : c70.own = false := rfl
theorem c70_inj : ∀ u_ v_ : TReport, ((fun x => (fun (r : TReport) => [encTReport r]) x) u_).map nz = ((fun x => (fun (r : TReport) => [encTReport r]) x) v_).map nz → u_ = v_ := by
  intro u_ v_ h
  obtain ⟨r_Id, r_Kind, r_Colours, r_SizeLow, r_SizeHigh, r_Places, ⟨r_Span_From, r_Span_Until⟩⟩ := u_
  obtain ⟨r_Id', r_Kind', r_Colours', r_SizeLow', r_SizeHigh', r_Places', ⟨r_Span_From', r_Span_Until'⟩⟩ := v_
  simp [nz_lit, nz1_lit, nz_agg, nz_sl, nz1_sl, encLI, encTReport, encTSpan] at h
  first | (simp [h]; done) | (obtain ⟨⟩ := h; simp_all; done) | simp_all
@[simp] theorem c70_fn (r_Id : Int) (r_Kind : Int) (r_Colours : List Int) (r_SizeLow : Int) (r_SizeHigh : Int) (r_Places : List Int) (r_Span_From : Int) (r_Span_Until : Int) : c70.fn [.agg [.lit (.int .i64 r_Id), .lit (.int .i64 r_Kind), .sl false 1 (.lit (.int .i64 0)) (ML dI r_Colours), .lit (.int .i64 r_SizeLow), .lit (.int .i64 r_SizeHigh), .sl false 1 (.lit (.int .i64 0)) (ML dI r_Places), .lit (.int .i64 r_Span_From), .lit (.int .i64 r_Span_Until)]] [] = some ((fun (r : TReport) => smR r) ⟨r_Id, r_Kind, r_Colours, r_SizeLow, r_SizeHigh, r_Places, ⟨r_Span_From, r_Span_Until⟩⟩, (fun (r : TReport) => (dB (mIsVague r) : D)) ⟨r_Id, r_Kind, r_Colours, r_SizeLow, r_SizeHigh, r_Places, ⟨r_Span_From, r_Span_Until⟩⟩, (fun (r : TReport) => []) ⟨r_Id, r_Kind, r_Colours, r_SizeLow, r_SizeHigh, r_Places, ⟨r_Span_From, r_Span_Until⟩⟩) :=
  mkCon_fn (fun x y h _ => c70_inj x y h) (⟨r_Id, r_Kind, r_Colours, r_SizeLow, r_SizeHigh, r_Places, ⟨r_Span_From, r_Span_Until⟩⟩ : TReport) (by simp [nz, nz1, ML_nil, encLI, encTReport, encTSpan]) rfl
theorem c70_pc (r : TReport) (hpre : smR r) : PCo Try.prog 70 [encTReport r] (Tab.of []) (dB (mIsVague r)) (Tab.of []) := by
  obtain ⟨r_Id, r_Kind, r_Colours, r_SizeLow, r_SizeHigh, r_Places, ⟨r_Span_From, r_Span_Until⟩⟩ := r
  refine pco_of_run [] (E := ⟨[c54], []⟩) (m := false) (base := 0) (Env.ok_cons c54_ok Env.ok_nil) G_ok mix 300 6 Try.func70 (by kernel_rfl) rfl (by kernel_rfl) (by kernel_rfl) rfl ?_
  simp [Try.f70]
  simp at hpre
  simp [mIsVague, hpre]
  first | rfl | omega | (rw [Bool.eq_iff_iff]; simp; done) | (rw [Bool.eq_iff_iff]; simp; omega) | (rw [Bool.eq_iff_iff]; simp; grind) | grind
theorem c70_ok : c70.ok Try.prog := mkCon_ok fun r hpre => c70_pc r hpre
/-- loop.example/g03007/impl.IsVague -/
noncomputable def c71 : Con := mkCon 71 false (α := TReport) (fun x => (fun (r : TReport) => [encTReport r]) x) (fun _ => []) (fun x => (fun (r : TReport) => smR r) x) (fun x => (fun (r : TReport) => (dB (mIsVague r) : D)) x) (fun x => (fun (r : TReport) => []) x)
@[simp] theorem c71_f : c71.f = 71 := rfl
@[simp] theorem c71_own : c71.own = false := rfl
theorem c71_inj : ∀ u_ v_ : TReport, ((fun x => (fun (r : TReport) => [encTReport r]) x) u_).map nz = ((fun x => (fun (r : TReport) => [encTReport r]) x) v_).map nz → u_ = v_ := by
  intro u_ v_ h
  obtain ⟨r_Id, r_Kind, r_Colours, r_SizeLow, r_SizeHigh, r_Places, ⟨r_Span_From, r_Span_Until⟩⟩ := u_
  obtain ⟨r_Id', r_Kind', r_Colours', r_SizeLow', r_SizeHigh', r_Places', ⟨r_Span_From', r_Span_Until'⟩⟩ := v_
  simp [nz_lit, nz1_lit, nz_agg, nz_sl, nz1_sl, encLI, encTReport, encTSpan] at h
  first | (simp [h]; done) | (obtain ⟨⟩ := h; simp_all; done) | simp_all
@[simp] theorem c71_fn (r_Id : Int) (r_Kind : Int) (r_Colours : List Int) (r_SizeLow : Int) (r_SizeHigh : Int) (r_Places : List Int) (r_Span_From : Int) (r_Span_Until : Int) : c71.fn [.agg [.lit (.int .i64 r_Id), .lit (.int .i64 r_Kind), .sl false 1 (.lit (.int .i64 0)) (ML dI r_Colours), .lit (.int .i64 r_SizeLow), .lit (.int .i64 r_SizeHigh), .sl false 1 (.lit (.int .i64 0)) (ML dI r_Places), .lit (.int .i64 r_Span_From), .lit (.int .i64 r_Span_Until)]] [] = some ((fun (r : TReport) => smR r) ⟨r_Id, r_Kind, r_Colours, r_SizeLow, r_SizeHigh, r_Places, ⟨r_Span_From, r_Span_Until⟩⟩, (fun (r : TReport) => (dB (mIsVague r) : D)) ⟨r_Id, r_Kind, r_Colours, r_SizeLow, r_SizeHigh, r_Places, ⟨r_Span_From, r_Span_Until⟩⟩, (fun (r : TReport) => []) ⟨r_Id, r_Kind, r_Colours, r_SizeLow, r_SizeHigh, r_Places, ⟨r_Span_From, r_Span_Until⟩⟩) :=
  mkCon_fn (fun x y h _ => c71_inj x y h) (⟨r_Id, r_Kind, r_Colours, r_SizeLow, r_SizeHigh, r_Places, ⟨r_Span_From, r_Span_Until⟩⟩ : TReport) (by simp [nz, nz1, ML_nil, encLI, encTReport, encTSpan]) rfl
theorem c71_pc (r : TReport) (hpre : smR r) : PCo Try.prog 71 [encTReport r] (Tab.of []) (dB (mIsVague r)) (Tab.of []) := by
  obtain ⟨r_Id, r_Kind, r_Colours, r_SizeLow, r_SizeHigh, r_Places, ⟨r_Span_From, r_Span_Until⟩⟩ := r
  refine pco_of_run [] (E := ⟨[c56], []⟩) (m := false) (base := 0) (Env.ok_cons c56_ok Env.ok_nil) G_ok mix 300 6 Try.func71 (by kernel_rfl) rfl (by kernel_rfl) (by kernel_rfl) rfl ?_
  simp [Try.f71]
  simp at hpre
  simp [mIsVague, hpre]
  first | rfl | omega | (rw [Bool.eq_iff_iff]; simp; done) | (rw [Bool.eq_iff_iff]; simp; omega) | (rw [Bool.eq_iff_iff]; simp; grind) | grind
theorem c71_ok : c71.ok Try.prog := mkCon_ok fun r hpre => c71_pc r hpre
/-- loop.example/g03007/spec.EqualInts -/
noncomputable def c146 : Con := mkCon 146 false (α := (List Int) × (List Int)) (fun x => (fun (a : List Int) (b : List Int) => [encLI a, encLI b]) x.1 x.2) (fun _ => []) (fun x => (fun (a : List Int) (b : List Int) => a.length ≤ 1099511627776 ∧ b.length ≤ 1099511627776) x.1 x.2) (fun x => (fun (a : List Int) (b : List Int) => (dB (decide (a = b)) : D)) x.1 x.2) (fun x => (fun (a : List Int) (b : List Int) => []) x.1 x.2)
@[simp] theorem c146_f : c146.f = 146 := rfl
@[simp] theorem c146_own : c146.own = false := rfl
theorem c146_inj : ∀ u_ v_ : (List Int) × (List Int), ((fun x => (fun (a : List Int) (b : List Int) => [encLI a, encLI b]) x.1 x.2) u_).map nz = ((fun x => (fun (a : List Int) (b : List Int) => [encLI a, encLI b]) x.1 x.2) v_).map nz → u_ = v_ := by
  intro u_ v_ h
  obtain ⟨a, b⟩ := u_
  obtain ⟨a', b'⟩ := v_
  simp [nz_lit, nz1_lit, nz_agg, nz_sl, nz1_sl, encLI] at h
  first | (simp [h]; done) | (obtain ⟨⟩ := h; simp_all; done) | simp_all
@[simp] theorem c146_fn (a : List Int) (b : List Int) : c146.fn [.sl false 1 (.lit (.int .i64 0)) (ML dI a), .sl false 1 (.lit (.int .i64 0)) (ML dI b)] [] = some ((fun (a : List Int) (b : List Int) => a.length ≤ 1099511627776 ∧ b.length ≤ 1099511627776) a b, (fun (a : List Int) (b : List Int) => (dB (decide (a = b)) : D)) a b, (fun (a : List Int) (b : List Int) => []) a b) :=
  mkCon_fn (fun x y h _ => c146_inj x y h) ((a, b) : (List Int) × (List Int)) (by simp [nz, nz1, ML_nil, encLI]) rfl
@[simp] theorem c146_fn1 (s_a : Nat) (z_a : D) (b : List Int) : c146.fn [.sl false s_a z_a [], .sl false 1 (.lit (.int .i64 0)) (ML dI b)] [] = some ((fun (a : List Int) (b : List Int) => a.length ≤ 1099511627776 ∧ b.length ≤ 1099511627776) [] b, (fun (a : List Int) (b : List Int) => (dB (decide (a = b)) : D)) [] b, (fun (a : List Int) (b : List Int) => []) [] b) :=
  mkCon_fn (fun x y h _ => c146_inj x y h) (([], b) : (List Int) × (List Int)) (by simp [nz, nz1, ML_nil, encLI]) rfl
@[simp] theorem c146_fn2 (a : List Int) (s_b : Nat) (z_b : D) : c146.fn [.sl false 1 (.lit (.int .i64 0)) (ML dI a), .sl false s_b z_b []] [] = some ((fun (a : List Int) (b : List Int) => a.length ≤ 1099511627776 ∧ b.length ≤ 1099511627776) a [], (fun (a : List Int) (b : List Int) => (dB (decide (a = b)) : D)) a [], (fun (a : List Int) (b : List Int) => []) a []) :=
  mkCon_fn (fun x y h _ => c146_inj x y h) ((a, []) : (List Int) × (List Int)) (by simp [nz, nz1, ML_nil, encLI]) rfl
@[simp] theorem c146_fn3 (s_a : Nat) (z_a : D) (s_b : Nat) (z_b : D) : c146.fn [.sl false s_a z_a [], .sl false s_b z_b []] [] = some ((fun (a : List Int) (b : List Int) => a.length ≤ 1099511627776 ∧ b.length ≤ 1099511627776) [] [], (fun (a : List Int) (b : List Int) => (dB (decide (a = b)) : D)) [] [], (fun (a : List Int) (b : List Int) => []) [] []) :=
  mkCon_fn (fun x y h _ => c146_inj x y h) (([], []) : (List Int) × (List Int)) (by simp [nz, nz1, ML_nil, encLI]) rfl
theorem c146_pc (a : List Int) (b : List Int) (hpre : a.length ≤ 1099511627776 ∧ b.length ≤ 1099511627776) : PCo Try.prog 146 [encLI a, encLI b] (Tab.of []) (dB (decide (a = b))) (Tab.of []) := by
  refine pco_of_run [] (E := ⟨[], []⟩) (m := false) (base := 0) Env.ok_nil G_ok mix 300 6 Try.func146 (by kernel_rfl) rfl (by kernel_rfl) (by kernel_rfl) rfl ?_
  simp [Try.f146]
  obtain ⟨pre1, pre2⟩ := hpre
  refine ⟨fun h => ?_, fun h => by intro e; subst e; exact absurd rfl h⟩
  refine loop_inv (fun p : Nat => p ≤ a.length ∧ a.take p = b.take p) (fun p => [(0, encLI a), (1, encLI b), (5, dI p)]) (fun _ => []) 1 (fun p => a.length - p) 0 100 (by simp) (by simp) (by simp) ?_
  intro p ⟨hp, hi⟩
  simp
  refine ⟨fun hlt => ⟨by omega, fun h2 => ⟨by omega, Again.mk (p + 1) ⟨by omega, take_eq_step hi (by omega) (by omega) h2⟩ (by simp) (by first | omega | (simp; omega))⟩, fun h2 => by intro e; subst e; exact absurd rfl h2⟩, fun hge => ?_⟩
  exact take_eq_full hi (by omega) (by omega)
theorem c146_ok : c146.ok Try.prog := mkCon_ok fun ⟨a, b⟩ hpre => c146_pc a b hpre
/-- slices.Equal[[]in -/
noncomputable def c193 : Con := mkCon 193 false (α := (List Int) × (List Int)) (fun x => (fun (a : List Int) (b : List Int) => [encLI a, encLI b]) x.1 x.2) (fun _ => []) (fun x => (fun (a : List Int) (b : List Int) => a.length ≤ 1099511627776 ∧ b.length ≤ 1099511627776) x.1 x.2) (fun x => (fun (a : List Int) (b : List Int) => (dB (decide (a = b)) : D)) x.1 x.2) (fun x => (fun (a : List Int) (b : List Int) => []) x.1 x.2)
@[simp] theorem c193_f : c193.f = 193 := rfl
@[simp] theorem c193_own : c193.own = false := rfl
theorem c193_inj : ∀ u_ v_ : (List Int) × (List Int), ((fun x => (fun (a : List Int) (b : List Int) => [encLI a, encLI b]) x.1 x.2) u_).map nz = ((fun x => (fun (a : List Int) (b : List Int) => [encLI a, encLI b]) x.1 x.2) v_).map nz → u_ = v_ := by
  intro u_ v_ h
  obtain ⟨a, b⟩ := u_
  obtain ⟨a', b'⟩ := v_
  simp [nz_lit, nz1_lit, nz_agg, nz_sl, nz1_sl, encLI] at h
  first | (simp [h]; done) | (obtain ⟨⟩ := h; simp_all; done) | simp_all
@[simp] theorem c193_fn (a : List Int) (b : List Int) : c193.fn [.sl false 1 (.lit (.int .i64 0)) (ML dI a), .sl false 1 (.lit (.int .i64 0)) (ML dI b)] [] = some ((fun (a : List Int) (b : List Int) => a.length ≤ 1099511627776 ∧ b.length ≤ 1099511627776) a b, (fun (a : List Int) (b : List Int) => (dB (decide (a = b)) : D)) a b, (fun (a : List Int) (b : List Int) => []) a b) :=
  mkCon_fn (fun x y h _ => c193_inj x y h) ((a, b) : (List Int) × (List Int)) (by simp [nz, nz1, ML_nil, encLI]) rfl
@[simp] theorem c193_fn1 (s_a : Nat) (z_a : D) (b : List Int) : c193.fn [.sl false s_a z_a [], .sl false 1 (.lit (.int .i64 0)) (ML dI b)] [] = some ((fun (a : List Int) (b : List Int) => a.length ≤ 1099511627776 ∧ b.length ≤ 1099511627776) [] b, (fun (a : List Int) (b : List Int) => (dB (decide (a = b)) : D)) [] b, (fun (a : List Int) (b : List Int) => []) [] b) :=
  mkCon_fn (fun x y h _ => c193_inj x y h) (([], b) : (List Int) × (List Int)) (by simp [nz, nz1, ML_nil, encLI]) rfl
@[simp] theorem c193_fn2 (a : List Int) (s_b : Nat) (z_b : D) : c193.fn [.sl false 1 (.lit (.int .i64 0)) (ML dI a), .sl false s_b z_b []] [] = some ((fun (a : List Int) (b : List Int) => a.length ≤ 1099511627776 ∧ b.length ≤ 1099511627776) a [], (fun (a : List Int) (b : List Int) => (dB (decide (a = b)) : D)) a [], (fun (a : List Int) (b : List Int) => []) a []) :=
  mkCon_fn (fun x y h _ => c193_inj x y h) ((a, []) : (List Int) × (List Int)) (by simp [nz, nz1, ML_nil, encLI]) rfl
@[simp] theorem c193_fn3 (s_a : Nat) (z_a : D) (s_b : Nat) (z_b : D) : c193.fn [.sl false s_a z_a [], .sl false s_b z_b []] [] = some ((fun (a : List Int) (b : List Int) => a.length ≤ 1099511627776 ∧ b.length ≤ 1099511627776) [] [], (fun (a : List Int) (b : List Int) => (dB (decide (a = b)) : D)) [] [], (fun (a : List Int) (b : List Int) => []) [] []) :=
  mkCon_fn (fun x y h _ => c193_inj x y h) (([], []) : (List Int) × (List Int)) (by simp [nz, nz1, ML_nil, encLI]) rfl
theorem c193_pc (a : List Int) (b : List Int) (hpre : a.length ≤ 1099511627776 ∧ b.length ≤ 1099511627776) : PCo Try.prog 193 [encLI a, encLI b] (Tab.of []) (dB (decide (a = b))) (Tab.of []) := by
  refine pco_of_run [] (E := ⟨[], []⟩) (m := false) (base := 0) Env.ok_nil G_ok mix 300 6 Try.func193 (by kernel_rfl) rfl (by kernel_rfl) (by kernel_rfl) rfl ?_
  simp [Try.f193]
  obtain ⟨pre1, pre2⟩ := hpre
  refine ⟨fun h => ?_, fun h => by intro e; subst e; exact absurd rfl h⟩
  refine loop_inv (fun p : Nat => p ≤ a.length ∧ a.take p = b.take p) (fun p => [(0, encLI a), (1, encLI b), (12, dI a.length), (13, dI p)]) (fun _ => []) 1 (fun p => a.length - p) 0 100 (by simp) (by simp) (by simp) ?_
  intro p ⟨hp, hi⟩
  simp
  refine ⟨fun hlt => ⟨by omega, fun h2 => ⟨by omega, Again.mk (p + 1) ⟨by omega, take_eq_step hi (by omega) (by omega) h2⟩ (by simp) (by first | omega | (simp; omega))⟩, fun h2 => by intro e; subst e; exact absurd rfl h2⟩, fun hge => ?_⟩
  exact take_eq_full hi (by omega) (by omega)
theorem c193_ok : c193.ok Try.prog := mkCon_ok fun ⟨a, b⟩ hpre => c193_pc a b hpre
/-- loop.example/g03007/impl.EqualInts -/
noncomputable def c147 : Con := mkCon 147 false (α := (List Int) × (List Int)) (fun x => (fun (a : List Int) (b : List Int) => [encLI a, encLI b]) x.1 x.2) (fun _ => []) (fun x => (fun (a : List Int) (b : List Int) => a.length ≤ 1099511627776 ∧ b.length ≤ 1099511627776) x.1 x.2) (fun x => (fun (a : List Int) (b : List Int) => (dB (decide (a = b)) : D)) x.1 x.2) (fun x => (fun (a : List Int) (b : List Int) => []) x.1 x.2)
@[simp] theorem c147_f : c147.f = 147 := rfl
@[simp] theorem c147_own : c147.own = false := rfl
theorem c147_inj : ∀ u_ v_ : (List Int) × (List Int), ((fun x => (fun (a : List Int) (b : List Int) => [encLI a, encLI b]) x.1 x.2) u_).map nz = ((fun x => (fun (a : List Int) (b : List Int) => [encLI a, encLI b]) x.1 x.2) v_).map nz → u_ = v_ := by
  intro u_ v_ h
  obtain ⟨a, b⟩ := u_
  obtain ⟨a', b'⟩ := v_
  simp [nz_lit, nz1_lit, nz_agg, nz_sl, nz1_sl, encLI] at h
  first | (simp [h]; done) | (obtain ⟨⟩ := h; simp_all; done) | simp_all
@[simp] theorem c147_fn (a : List Int) (b : List Int) : c147.fn [.sl false 1 (.lit (.int .i64 0)) (ML dI a), .sl false 1 (.lit (.int .i64 0)) (ML dI b)] [] = some ((fun (a : List Int) (b : List Int) => a.length ≤ 1099511627776 ∧ b.length ≤ 1099511627776) a b, (fun (a : List Int) (b : List Int) => (dB (decide (a = b)) : D)) a b, (fun (a : List Int) (b : List Int) => []) a b) :=
  mkCon_fn (fun x y h _ => c147_inj x y h) ((a, b) : (List Int) × (List Int)) (by simp [nz, nz1, ML_nil, encLI]) rfl
@[simp] theorem c147_fn1 (s_a : Nat) (z_a : D) (b : List Int) : c147.fn [.sl false s_a z_a [], .sl false 1 (.lit (.int .i64 0)) (ML dI b)] [] = some ((fun (a : List Int) (b : List Int) => a.length ≤ 1099511627776 ∧ b.length ≤ 1099511627776) [] b, (fun (a : List Int) (b : List Int) => (dB (decide (a = b)) : D)) [] b, (fun (a : List Int) (b : List Int) => []) [] b) :=
  mkCon_fn (fun x y h _ => c147_inj x y h) (([], b) : (List Int) × (List Int)) (by simp [nz, nz1, ML_nil, encLI]) rfl
@[simp] theorem c147_fn2 (a : List Int) (s_b : Nat) (z_b : D) : c147.fn [.sl false 1 (.lit (.int .i64 0)) (ML dI a), .sl false s_b z_b []] [] = some ((fun (a : List Int) (b : List Int) => a.length ≤ 1099511627776 ∧ b.length ≤ 1099511627776) a [], (fun (a : List Int) (b : List Int) => (dB (decide (a = b)) : D)) a [], (fun (a : List Int) (b : List Int) => []) a []) :=
  mkCon_fn (fun x y h _ => c147_inj x y h) ((a, []) : (List Int) × (List Int)) (by simp [nz, nz1, ML_nil, encLI]) rfl
@[simp] theorem c147_fn3 (s_a : Nat) (z_a : D) (s_b : Nat) (z_b : D) : c147.fn [.sl false s_a z_a [], .sl false s_b z_b []] [] = some ((fun (a : List Int) (b : List Int) => a.length ≤ 1099511627776 ∧ b.length ≤ 1099511627776) [] [], (fun (a : List Int) (b : List Int) => (dB (decide (a = b)) : D)) [] [], (fun (a : List Int) (b : List Int) => []) [] []) :=
  mkCon_fn (fun x y h _ => c147_inj x y h) (([], []) : (List Int) × (List Int)) (by simp [nz, nz1, ML_nil, encLI]) rfl
theorem c147_pc (a : List Int) (b : List Int) (hpre : a.length ≤ 1099511627776 ∧ b.length ≤ 1099511627776) : PCo Try.prog 147 [encLI a, encLI b] (Tab.of []) (dB (decide (a = b))) (Tab.of []) := by
  refine pco_of_run [] (E := ⟨[c193], []⟩) (m := false) (base := 0) (Env.ok_cons c193_ok Env.ok_nil) G_ok mix 300 6 Try.func147 (by kernel_rfl) rfl (by kernel_rfl) (by kernel_rfl) rfl ?_
  simp [Try.f147]
  exact hpre
theorem c147_ok : c147.ok Try.prog := mkCon_ok fun ⟨a, b⟩ hpre => c147_pc a b hpre
/-- loop.example/g03007/laws.szIntS -/
noncomputable def c131 : Con := mkCon 131 false (α := (List Int) × Int) (fun x => (fun (l : List Int) (left : Int) => [encLI l, dI left]) x.1 x.2) (fun _ => []) (fun x => (fun (l : List Int) (left : Int) => l.length ≤ maxLen ∧ 0 ≤ left ∧ left ≤ 1099511627776) x.1 x.2) (fun x => (fun (l : List Int) (left : Int) => (dI (if left - l.length < 0 then -1 else left - l.length) : D)) x.1 x.2) (fun x => (fun (l : List Int) (left : Int) => []) x.1 x.2)
@[simp] theorem c131_f : c131.f = 131 := rfl
@[simp] theorem c131_own : c131.own = false := rfl
theorem c131_inj : ∀ u_ v_ : (List Int) × Int, ((fun x => (fun (l : List Int) (left : Int) => [encLI l, dI left]) x.1 x.2) u_).map nz = ((fun x => (fun (l : List Int) (left : Int) => [encLI l, dI left]) x.1 x.2) v_).map nz → u_ = v_ := by
  intro u_ v_ h
  obtain ⟨l, left⟩ := u_
  obtain ⟨l', left'⟩ := v_
  simp [nz_lit, nz1_lit, nz_agg, nz_sl, nz1_sl, encLI] at h
  first | (simp [h]; done) | (obtain ⟨⟩ := h; simp_all; done) | simp_all
@[simp] theorem c131_fn (l : List Int) (left : Int) : c131.fn [.sl false 1 (.lit (.int .i64 0)) (ML dI l), .lit (.int .i64 left)] [] = some ((fun (l : List Int) (left : Int) => l.length ≤ maxLen ∧ 0 ≤ left ∧ left ≤ 1099511627776) l left, (fun (l : List Int) (left : Int) => (dI (if left - l.length < 0 then -1 else left - l.length) : D)) l left, (fun (l : List Int) (left : Int) => []) l left) :=
  mkCon_fn (fun x y h _ => c131_inj x y h) ((l, left) : (List Int) × Int) (by simp [nz, nz1, ML_nil, encLI]) rfl
@[simp] theorem c131_fn1 (s_l : Nat) (z_l : D) (left : Int) : c131.fn [.sl false s_l z_l [], .lit (.int .i64 left)] [] = some ((fun (l : List Int) (left : Int) => l.length ≤ maxLen ∧ 0 ≤ left ∧ left ≤ 1099511627776) [] left, (fun (l : List Int) (left : Int) => (dI (if left - l.length < 0 then -1 else left - l.length) : D)) [] left, (fun (l : List Int) (left : Int) => []) [] left) :=
  mkCon_fn (fun x y h _ => c131_inj x y h) (([], left) : (List Int) × Int) (by simp [nz, nz1, ML_nil, encLI]) rfl
theorem c131_pc (l : List Int) (left : Int) (hpre : l.length ≤ maxLen ∧ 0 ≤ left ∧ left ≤ 1099511627776) : PCo Try.prog 131 [encLI l, dI left] (Tab.of []) (dI (if left - l.length < 0 then -1 else left - l.length)) (Tab.of []) := by
  refine pco_of_run [] (E := ⟨[], []⟩) (m := false) (base := 0) Env.ok_nil G_ok mix 300 6 Try.func131 (by kernel_rfl) rfl (by kernel_rfl) (by kernel_rfl) rfl ?_
  simp [Try.f131]
  simp [maxLen] at hpre
  all_goals omega
theorem c131_ok : c131.ok Try.prog := mkCon_ok fun ⟨l, left⟩ hpre => c131_pc l left hpre
@[simp] def smM (r : TReport) : Prop := r.Colours.length ≤ maxLen ∧ r.Places.length ≤ maxLen
def szR (r : TReport) (left : Int) : Int := if left - r.Colours.length < 0 ∨ left - r.Colours.length - r.Places.length < 0 then -1 else left - r.Colours.length - r.Places.length
/-- loop.example/g03007/laws.toReport -/
noncomputable def c55 : Con := mkCon 55 false (α := TReport) (fun x => (fun (r : TReport) => [encTReport r]) x) (fun _ => []) (fun x => (fun (r : TReport) => smR r) x) (fun x => (fun (r : TReport) => (encTReport r : D)) x) (fun x => (fun (r : TReport) => []) x)
@[simp] theorem c55_f : c55.f = 55 := rfl
@[simp] theorem c55_own : c55.own = false := rfl
theorem c55_inj : ∀ u_ v_ : TReport, ((fun x => (fun (r : TReport) => [encTReport r]) x) u_).map nz = ((fun x => (fun (r : TReport) => [encTReport r]) x) v_).map nz → u_ = v_ := by
  intro u_ v_ h
  obtain ⟨r_Id, r_Kind, r_Colours, r_SizeLow, r_SizeHigh, r_Places, ⟨r_Span_From, r_Span_Until⟩⟩ := u_
  obtain ⟨r_Id', r_Kind', r_Colours', r_SizeLow', r_SizeHigh', r_Places', ⟨r_Span_From', r_Span_Until'⟩⟩ := v_
  simp [nz_lit, nz1_lit, nz_agg, nz_sl, nz1_sl, encLI, encTReport, encTSpan] at h
  first | (simp [h]; done) | (obtain ⟨⟩ := h; simp_all; done) | simp_all
@[simp] theorem c55_fn (r_Id : Int) (r_Kind : Int) (r_Colours : List Int) (r_SizeLow : Int) (r_SizeHigh : Int) (r_Places : List Int) (r_Span_From : Int) (r_Span_Until : Int) : c55.fn [.agg [.lit (.int .i64 r_Id), .lit (.int .i64 r_Kind), .sl false 1 (.lit (.int .i64 0)) (ML dI r_Colours), .lit (.int .i64 r_SizeLow), .lit (.int .i64 r_SizeHigh), .sl false 1 (.lit (.int .i64 0)) (ML dI r_Places), .lit (.int .i64 r_Span_From), .lit (.int .i64 r_Span_Until)]] [] = some ((fun (r : TReport) => smR r) ⟨r_Id, r_Kind, r_Colours, r_SizeLow, r_SizeHigh, r_Places, ⟨r_Span_From, r_Span_Until⟩⟩, (fun (r : TReport) => (encTReport r : D)) ⟨r_Id, r_Kind, r_Colours, r_SizeLow, r_SizeHigh, r_Places, ⟨r_Span_From, r_Span_Until⟩⟩, (fun (r : TReport) => []) ⟨r_Id, r_Kind, r_Colours, r_SizeLow, r_SizeHigh, r_Places, ⟨r_Span_From, r_Span_Until⟩⟩) :=
  mkCon_fn (fun x y h _ => c55_inj x y h) (⟨r_Id, r_Kind, r_Colours, r_SizeLow, r_SizeHigh, r_Places, ⟨r_Span_From, r_Span_Until⟩⟩ : TReport) (by simp [nz, nz1, ML_nil, encLI, encTReport, encTSpan]) rfl
theorem c55_pc (r : TReport) (hpre : smR r) : PCo Try.prog 55 [encTReport r] (Tab.of []) (encTReport r) (Tab.of []) := by
  obtain ⟨r_Id, r_Kind, r_Colours, r_SizeLow, r_SizeHigh, r_Places, ⟨r_Span_From, r_Span_Until⟩⟩ := r
  refine pco_of_run [] (E := ⟨[c51, c134], []⟩) (m := false) (base := 0) (Env.ok_cons c51_ok (Env.ok_cons c134_ok Env.ok_nil)) G_ok mix 300 6 Try.func55 (by kernel_rfl) rfl (by kernel_rfl) (by kernel_rfl) rfl ?_
  simp [Try.f55]
  simp at hpre
  exact hpre
theorem c55_ok : c55.ok Try.prog := mkCon_ok fun r hpre => c55_pc r hpre
/-- loop.example/g03007/laws.eqReport -/
noncomputable def c57 : Con := mkCon 57 false (α := TReport × TReport) (fun x => (fun (a : TReport) (b : TReport) => [encTReport a, encTReport b]) x.1 x.2) (fun _ => []) (fun x => (fun (a : TReport) (b : TReport) => smR a ∧ smR b) x.1 x.2) (fun x => (fun (a : TReport) (b : TReport) => (dB (decide (a = b)) : D)) x.1 x.2) (fun x => (fun (a : TReport) (b : TReport) => []) x.1 x.2)
@[simp] theorem c57_f : c57.f = 57 := rfl
@[simp] theorem c57_own : c57.own = false := rfl
theorem c57_inj : ∀ u_ v_ : TReport × TReport, ((fun x => (fun (a : TReport) (b : TReport) => [encTReport a, encTReport b]) x.1 x.2) u_).map nz = ((fun x => (fun (a : TReport) (b : TReport) => [encTReport a, encTReport b]) x.1 x.2) v_).map nz → u_ = v_ := by
  intro u_ v_ h
  obtain ⟨⟨a_Id, a_Kind, a_Colours, a_SizeLow, a_SizeHigh, a_Places, ⟨a_Span_From, a_Span_Until⟩⟩, ⟨b_Id, b_Kind, b_Colours, b_SizeLow, b_SizeHigh, b_Places, ⟨b_Span_From, b_Span_Until⟩⟩⟩ := u_
  obtain ⟨⟨a_Id', a_Kind', a_Colours', a_SizeLow', a_SizeHigh', a_Places', ⟨a_Span_From', a_Span_Until'⟩⟩, ⟨b_Id', b_Kind', b_Colours', b_SizeLow', b_SizeHigh', b_Places', ⟨b_Span_From', b_Span_Until'⟩⟩⟩ := v_
  simp [nz_lit, nz1_lit, nz_agg, nz_sl, nz1_sl, encLI, encTReport, encTSpan] at h
  first | (simp [h]; done) | (obtain ⟨⟩ := h; simp_all; done) | simp_all
@[simp] theorem c57_fn (a_Id : Int) (a_Kind : Int) (a_Colours : List Int) (a_SizeLow : Int) (a_SizeHigh : Int) (a_Places : List Int) (a_Span_From : Int) (a_Span_Until : Int) (b_Id : Int) (b_Kind : Int) (b_Colours : List Int) (b_SizeLow : Int) (b_SizeHigh : Int) (b_Places : List Int) (b_Span_From : Int) (b_Span_Until : Int) : c57.fn [.agg [.lit (.int .i64 a_Id), .lit (.int .i64 a_Kind), .sl false 1 (.lit (.int .i64 0)) (ML dI a_Colours), .lit (.int .i64 a_SizeLow), .lit (.int .i64 a_SizeHigh), .sl false 1 (.lit (.int .i64 0)) (ML dI a_Places), .lit (.int .i64 a_Span_From), .lit (.int .i64 a_Span_Until)], .agg [.lit (.int .i64 b_Id), .lit (.int .i64 b_Kind), .sl false 1 (.lit (.int .i64 0)) (ML dI b_Colours), .lit (.int .i64 b_SizeLow), .lit (.int .i64 b_SizeHigh), .sl false 1 (.lit (.int .i64 0)) (ML dI b_Places), .lit (.int .i64 b_Span_From), .lit (.int .i64 b_Span_Until)]] [] = some ((fun (a : TReport) (b : TReport) => smR a ∧ smR b) ⟨a_Id, a_Kind, a_Colours, a_SizeLow, a_SizeHigh, a_Places, ⟨a_Span_From, a_Span_Until⟩⟩ ⟨b_Id, b_Kind, b_Colours, b_SizeLow, b_SizeHigh, b_Places, ⟨b_Span_From, b_Span_Until⟩⟩, (fun (a : TReport) (b : TReport) => (dB (decide (a = b)) : D)) ⟨a_Id, a_Kind, a_Colours, a_SizeLow, a_SizeHigh, a_Places, ⟨a_Span_From, a_Span_Until⟩⟩ ⟨b_Id, b_Kind, b_Colours, b_SizeLow, b_SizeHigh, b_Places, ⟨b_Span_From, b_Span_Until⟩⟩, (fun (a : TReport) (b : TReport) => []) ⟨a_Id, a_Kind, a_Colours, a_SizeLow, a_SizeHigh, a_Places, ⟨a_Span_From, a_Span_Until⟩⟩ ⟨b_Id, b_Kind, b_Colours, b_SizeLow, b_SizeHigh, b_Places, ⟨b_Span_From, b_Span_Until⟩⟩) :=
  mkCon_fn (fun x y h _ => c57_inj x y h) ((⟨a_Id, a_Kind, a_Colours, a_SizeLow, a_SizeHigh, a_Places, ⟨a_Span_From, a_Span_Until⟩⟩, ⟨b_Id, b_Kind, b_Colours, b_SizeLow, b_SizeHigh, b_Places, ⟨b_Span_From, b_Span_Until⟩⟩) : TReport × TReport) (by simp [nz, nz1, ML_nil, encLI, encTReport, encTSpan]) rfl
theorem c57_pc (a : TReport) (b : TReport) (hpre : smR a ∧ smR b) : PCo Try.prog 57 [encTReport a, encTReport b] (Tab.of []) (dB (decide (a = b))) (Tab.of []) := by
  obtain ⟨a_Id, a_Kind, a_Colours, a_SizeLow, a_SizeHigh, a_Places, ⟨a_Span_From, a_Span_Until⟩⟩ := a
  obtain ⟨b_Id, b_Kind, b_Colours, b_SizeLow, b_SizeHigh, b_Places, ⟨b_Span_From, b_Span_Until⟩⟩ := b
  refine pco_of_run [] (E := ⟨[c47, c138], []⟩) (m := false) (base := 0) (Env.ok_cons c47_ok (Env.ok_cons c138_ok Env.ok_nil)) G_ok mix 300 6 Try.func57 (by kernel_rfl) rfl (by kernel_rfl) (by kernel_rfl) rfl ?_
  simp [Try.f57]
  simp at hpre
  repeat' (first | omega | refine And.intro ?_ ?_ | intro _)
  all_goals grind
theorem c57_ok : c57.ok Try.prog := mkCon_ok fun ⟨a, b⟩ hpre => c57_pc a b hpre
/-- loop.example/g03007/laws.szReport -/
noncomputable def c53 : Con := mkCon 53 false (α := TReport × Int) (fun x => (fun (r : TReport) (left : Int) => [encTReport r, dI left]) x.1 x.2) (fun _ => []) (fun x => (fun (r : TReport) (left : Int) => smM r ∧ 0 ≤ left ∧ left ≤ 1099511627776) x.1 x.2) (fun x => (fun (r : TReport) (left : Int) => (dI (szR r left) : D)) x.1 x.2) (fun x => (fun (r : TReport) (left : Int) => []) x.1 x.2)
@[simp] theorem c53_f : c53.f = 53 := rfl
@[simp] theorem c53_own : c53.own = false := rfl
theorem c53_inj : ∀ u_ v_ : TReport × Int, ((fun x => (fun (r : TReport) (left : Int) => [encTReport r, dI left]) x.1 x.2) u_).map nz = ((fun x => (fun (r : TReport) (left : Int) => [encTReport r, dI left]) x.1 x.2) v_).map nz → u_ = v_ := by
  intro u_ v_ h
  obtain ⟨⟨r_Id, r_Kind, r_Colours, r_SizeLow, r_SizeHigh, r_Places, ⟨r_Span_From, r_Span_Until⟩⟩, left⟩ := u_
  obtain ⟨⟨r_Id', r_Kind', r_Colours', r_SizeLow', r_SizeHigh', r_Places', ⟨r_Span_From', r_Span_Until'⟩⟩, left'⟩ := v_
  simp [nz_lit, nz1_lit, nz_agg, nz_sl, nz1_sl, encLI, encTReport, encTSpan] at h
  first | (simp [h]; done) | (obtain ⟨⟩ := h; simp_all; done) | simp_all
@[simp] theorem c53_fn (r_Id : Int) (r_Kind : Int) (r_Colours : List Int) (r_SizeLow : Int) (r_SizeHigh : Int) (r_Places : List Int) (r_Span_From : Int) (r_Span_Until : Int) (left : Int) : c53.fn [.agg [.lit (.int .i64 r_Id), .lit (.int .i64 r_Kind), .sl false 1 (.lit (.int .i64 0)) (ML dI r_Colours), .lit (.int .i64 r_SizeLow), .lit (.int .i64 r_SizeHigh), .sl false 1 (.lit (.int .i64 0)) (ML dI r_Places), .lit (.int .i64 r_Span_From), .lit (.int .i64 r_Span_Until)], .lit (.int .i64 left)] [] = some ((fun (r : TReport) (left : Int) => smM r ∧ 0 ≤ left ∧ left ≤ 1099511627776) ⟨r_Id, r_Kind, r_Colours, r_SizeLow, r_SizeHigh, r_Places, ⟨r_Span_From, r_Span_Until⟩⟩ left, (fun (r : TReport) (left : Int) => (dI (szR r left) : D)) ⟨r_Id, r_Kind, r_Colours, r_SizeLow, r_SizeHigh, r_Places, ⟨r_Span_From, r_Span_Until⟩⟩ left, (fun (r : TReport) (left : Int) => []) ⟨r_Id, r_Kind, r_Colours, r_SizeLow, r_SizeHigh, r_Places, ⟨r_Span_From, r_Span_Until⟩⟩ left) :=
  mkCon_fn (fun x y h _ => c53_inj x y h) ((⟨r_Id, r_Kind, r_Colours, r_SizeLow, r_SizeHigh, r_Places, ⟨r_Span_From, r_Span_Until⟩⟩, left) : TReport × Int) (by simp [nz, nz1, ML_nil, encLI, encTReport, encTSpan]) rfl
theorem c53_pc (r : TReport) (left : Int) (hpre : smM r ∧ 0 ≤ left ∧ left ≤ 1099511627776) : PCo Try.prog 53 [encTReport r, dI left] (Tab.of []) (dI (szR r left)) (Tab.of []) := by
  obtain ⟨r_Id, r_Kind, r_Colours, r_SizeLow, r_SizeHigh, r_Places, ⟨r_Span_From, r_Span_Until⟩⟩ := r
  refine pco_of_run [] (E := ⟨[c131], []⟩) (m := false) (base := 0) (Env.ok_cons c131_ok Env.ok_nil) G_ok mix 300 6 Try.func53 (by kernel_rfl) rfl (by kernel_rfl) (by kernel_rfl) rfl ?_
  simp [Try.f53]
  simp at hpre
  repeat' (first | omega | refine And.intro ?_ ?_ | intro _)
  all_goals (simp only [szR]; (repeat' split) <;> omega)
theorem c53_ok : c53.ok Try.prog := mkCon_ok fun ⟨r, left⟩ hpre => c53_pc r left hpre
/-- loop.example/g03007/spec.EqualReports -/
noncomputable def c72 : Con := mkCon 72 false (α := TReport × TReport) (fun x => (fun (a : TReport) (b : TReport) => [encTReport a, encTReport b]) x.1 x.2) (fun _ => []) (fun x => (fun (a : TReport) (b : TReport) => smR a ∧ smR b) x.1 x.2) (fun x => (fun (a : TReport) (b : TReport) => (dB (decide (a = b)) : D)) x.1 x.2) (fun x => (fun (a : TReport) (b : TReport) => []) x.1 x.2)
@[simp] theorem c72_f : c72.f = 72 := rfl
@[simp] theorem c72_own : c72.own = false := rfl
theorem c72_inj : ∀ u_ v_ : TReport × TReport, ((fun x => (fun (a : TReport) (b : TReport) => [encTReport a, encTReport b]) x.1 x.2) u_).map nz = ((fun x => (fun (a : TReport) (b : TReport) => [encTReport a, encTReport b]) x.1 x.2) v_).map nz → u_ = v_ := by
  intro u_ v_ h
  obtain ⟨⟨a_Id, a_Kind, a_Colours, a_SizeLow, a_SizeHigh, a_Places, ⟨a_Span_From, a_Span_Until⟩⟩, ⟨b_Id, b_Kind, b_Colours, b_SizeLow, b_SizeHigh, b_Places, ⟨b_Span_From, b_Span_Until⟩⟩⟩ := u_
  obtain ⟨⟨a_Id', a_Kind', a_Colours', a_SizeLow', a_SizeHigh', a_Places', ⟨a_Span_From', a_Span_Until'⟩⟩, ⟨b_Id', b_Kind', b_Colours', b_SizeLow', b_SizeHigh', b_Places', ⟨b_Span_From', b_Span_Until'⟩⟩⟩ := v_
  simp [nz_lit, nz1_lit, nz_agg, nz_sl, nz1_sl, encLI, encTReport, encTSpan] at h
  first | (simp [h]; done) | (obtain ⟨⟩ := h; simp_all; done) | simp_all
@[simp] theorem c72_fn (a_Id : Int) (a_Kind : Int) (a_Colours : List Int) (a_SizeLow : Int) (a_SizeHigh : Int) (a_Places : List Int) (a_Span_From : Int) (a_Span_Until : Int) (b_Id : Int) (b_Kind : Int) (b_Colours : List Int) (b_SizeLow : Int) (b_SizeHigh : Int) (b_Places : List Int) (b_Span_From : Int) (b_Span_Until : Int) : c72.fn [.agg [.lit (.int .i64 a_Id), .lit (.int .i64 a_Kind), .sl false 1 (.lit (.int .i64 0)) (ML dI a_Colours), .lit (.int .i64 a_SizeLow), .lit (.int .i64 a_SizeHigh), .sl false 1 (.lit (.int .i64 0)) (ML dI a_Places), .lit (.int .i64 a_Span_From), .lit (.int .i64 a_Span_Until)], .agg [.lit (.int .i64 b_Id), .lit (.int .i64 b_Kind), .sl false 1 (.lit (.int .i64 0)) (ML dI b_Colours), .lit (.int .i64 b_SizeLow), .lit (.int .i64 b_SizeHigh), .sl false 1 (.lit (.int .i64 0)) (ML dI b_Places), .lit (.int .i64 b_Span_From), .lit (.int .i64 b_Span_Until)]] [] = some ((fun (a : TReport) (b : TReport) => smR a ∧ smR b) ⟨a_Id, a_Kind, a_Colours, a_SizeLow, a_SizeHigh, a_Places, ⟨a_Span_From, a_Span_Until⟩⟩ ⟨b_Id, b_Kind, b_Colours, b_SizeLow, b_SizeHigh, b_Places, ⟨b_Span_From, b_Span_Until⟩⟩, (fun (a : TReport) (b : TReport) => (dB (decide (a = b)) : D)) ⟨a_Id, a_Kind, a_Colours, a_SizeLow, a_SizeHigh, a_Places, ⟨a_Span_From, a_Span_Until⟩⟩ ⟨b_Id, b_Kind, b_Colours, b_SizeLow, b_SizeHigh, b_Places, ⟨b_Span_From, b_Span_Until⟩⟩, (fun (a : TReport) (b : TReport) => []) ⟨a_Id, a_Kind, a_Colours, a_SizeLow, a_SizeHigh, a_Places, ⟨a_Span_From, a_Span_Until⟩⟩ ⟨b_Id, b_Kind, b_Colours, b_SizeLow, b_SizeHigh, b_Places, ⟨b_Span_From, b_Span_Until⟩⟩) :=
  mkCon_fn (fun x y h _ => c72_inj x y h) ((⟨a_Id, a_Kind, a_Colours, a_SizeLow, a_SizeHigh, a_Places, ⟨a_Span_From, a_Span_Until⟩⟩, ⟨b_Id, b_Kind, b_Colours, b_SizeLow, b_SizeHigh, b_Places, ⟨b_Span_From, b_Span_Until⟩⟩) : TReport × TReport) (by simp [nz, nz1, ML_nil, encLI, encTReport, encTSpan]) rfl
theorem c72_pc (a : TReport) (b : TReport) (hpre : smR a ∧ smR b) : PCo Try.prog 72 [encTReport a, encTReport b] (Tab.of []) (dB (decide (a = b))) (Tab.of []) := by
  obtain ⟨a_Id, a_Kind, a_Colours, a_SizeLow, a_SizeHigh, a_Places, ⟨a_Span_From, a_Span_Until⟩⟩ := a
  obtain ⟨b_Id, b_Kind, b_Colours, b_SizeLow, b_SizeHigh, b_Places, ⟨b_Span_From, b_Span_Until⟩⟩ := b
  refine pco_of_run [] (E := ⟨[c146], []⟩) (m := false) (base := 0) (Env.ok_cons c146_ok Env.ok_nil) G_ok mix 300 6 Try.func72 (by kernel_rfl) rfl (by kernel_rfl) (by kernel_rfl) rfl ?_
  simp [Try.f72]
  simp at hpre
  refine ⟨⟨fun _ _ => by omega, fun _ _ _ _ _ => by omega⟩, ?_⟩
  first | rfl | omega | (rw [Bool.eq_iff_iff]; simp; done) | (rw [Bool.eq_iff_iff]; simp; omega) | (rw [Bool.eq_iff_iff]; simp; grind) | grind
theorem c72_ok : c72.ok Try.prog := mkCon_ok fun ⟨a, b⟩ hpre => c72_pc a b hpre
/-- loop.example/g03007/impl.EqualReports -/
noncomputable def c73 : Con := mkCon 73 false (α := TReport × TReport) (fun x => (fun (a : TReport) (b : TReport) => [encTReport a, encTReport b]) x.1 x.2) (fun _ => []) (fun x => (fun (a : TReport) (b : TReport) => smR a ∧ smR b) x.1 x.2) (fun x => (fun (a : TReport) (b : TReport) => (dB (decide (a = b)) : D)) x.1 x.2) (fun x => (fun (a : TReport) (b : TReport) => []) x.1 x.2)
@[simp] theorem c73_f : c73.f = 73 := rfl
@[simp] theorem c73_own : c73.own = false := rfl
theorem c73_inj : ∀ u_ v_ : TReport × TReport, ((fun x => (fun (a : TReport) (b : TReport) => [encTReport a, encTReport b]) x.1 x.2) u_).map nz = ((fun x => (fun (a : TReport) (b : TReport) => [encTReport a, encTReport b]) x.1 x.2) v_).map nz → u_ = v_ := by
  intro u_ v_ h
  obtain ⟨⟨a_Id, a_Kind, a_Colours, a_SizeLow, a_SizeHigh, a_Places, ⟨a_Span_From, a_Span_Until⟩⟩, ⟨b_Id, b_Kind, b_Colours, b_SizeLow, b_SizeHigh, b_Places, ⟨b_Span_From, b_Span_Until⟩⟩⟩ := u_
  obtain ⟨⟨a_Id', a_Kind', a_Colours', a_SizeLow', a_SizeHigh', a_Places', ⟨a_Span_From', a_Span_Until'⟩⟩, ⟨b_Id', b_Kind', b_Colours', b_SizeLow', b_SizeHigh', b_Places', ⟨b_Span_From', b_Span_Until'⟩⟩⟩ := v_
  simp [nz_lit, nz1_lit, nz_agg, nz_sl, nz1_sl, encLI, encTReport, encTSpan] at h
  first | (simp [h]; done) | (obtain ⟨⟩ := h; simp_all; done) | simp_all
@[simp] theorem c73_fn (a_Id : Int) (a_Kind : Int) (a_Colours : List Int) (a_SizeLow : Int) (a_SizeHigh : Int) (a_Places : List Int) (a_Span_From : Int) (a_Span_Until : Int) (b_Id : Int) (b_Kind : Int) (b_Colours : List Int) (b_SizeLow : Int) (b_SizeHigh : Int) (b_Places : List Int) (b_Span_From : Int) (b_Span_Until : Int) : c73.fn [.agg [.lit (.int .i64 a_Id), .lit (.int .i64 a_Kind), .sl false 1 (.lit (.int .i64 0)) (ML dI a_Colours), .lit (.int .i64 a_SizeLow), .lit (.int .i64 a_SizeHigh), .sl false 1 (.lit (.int .i64 0)) (ML dI a_Places), .lit (.int .i64 a_Span_From), .lit (.int .i64 a_Span_Until)], .agg [.lit (.int .i64 b_Id), .lit (.int .i64 b_Kind), .sl false 1 (.lit (.int .i64 0)) (ML dI b_Colours), .lit (.int .i64 b_SizeLow), .lit (.int .i64 b_SizeHigh), .sl false 1 (.lit (.int .i64 0)) (ML dI b_Places), .lit (.int .i64 b_Span_From), .lit (.int .i64 b_Span_Until)]] [] = some ((fun (a : TReport) (b : TReport) => smR a ∧ smR b) ⟨a_Id, a_Kind, a_Colours, a_SizeLow, a_SizeHigh, a_Places, ⟨a_Span_From, a_Span_Until⟩⟩ ⟨b_Id, b_Kind, b_Colours, b_SizeLow, b_SizeHigh, b_Places, ⟨b_Span_From, b_Span_Until⟩⟩, (fun (a : TReport) (b : TReport) => (dB (decide (a = b)) : D)) ⟨a_Id, a_Kind, a_Colours, a_SizeLow, a_SizeHigh, a_Places, ⟨a_Span_From, a_Span_Until⟩⟩ ⟨b_Id, b_Kind, b_Colours, b_SizeLow, b_SizeHigh, b_Places, ⟨b_Span_From, b_Span_Until⟩⟩, (fun (a : TReport) (b : TReport) => []) ⟨a_Id, a_Kind, a_Colours, a_SizeLow, a_SizeHigh, a_Places, ⟨a_Span_From, a_Span_Until⟩⟩ ⟨b_Id, b_Kind, b_Colours, b_SizeLow, b_SizeHigh, b_Places, ⟨b_Span_From, b_Span_Until⟩⟩) :=
  mkCon_fn (fun x y h _ => c73_inj x y h) ((⟨a_Id, a_Kind, a_Colours, a_SizeLow, a_SizeHigh, a_Places, ⟨a_Span_From, a_Span_Until⟩⟩, ⟨b_Id, b_Kind, b_Colours, b_SizeLow, b_SizeHigh, b_Places, ⟨b_Span_From, b_Span_Until⟩⟩) : TReport × TReport) (by simp [nz, nz1, ML_nil, encLI, encTReport, encTSpan]) rfl
theorem c73_pc (a : TReport) (b : TReport) (hpre : smR a ∧ smR b) : PCo Try.prog 73 [encTReport a, encTReport b] (Tab.of []) (dB (decide (a = b))) (Tab.of []) := by
  obtain ⟨a_Id, a_Kind, a_Colours, a_SizeLow, a_SizeHigh, a_Places, ⟨a_Span_From, a_Span_Until⟩⟩ := a
  obtain ⟨b_Id, b_Kind, b_Colours, b_SizeLow, b_SizeHigh, b_Places, ⟨b_Span_From, b_Span_Until⟩⟩ := b
  refine pco_of_run [] (E := ⟨[c147], []⟩) (m := false) (base := 0) (Env.ok_cons c147_ok Env.ok_nil) G_ok mix 300 6 Try.func73 (by kernel_rfl) rfl (by kernel_rfl) (by kernel_rfl) rfl ?_
  simp [Try.f73]
  simp at hpre
  refine ⟨⟨fun _ _ => by omega, fun _ _ _ _ _ => by omega⟩, ?_⟩
  first | rfl | omega | (rw [Bool.eq_iff_iff]; simp; done) | (rw [Bool.eq_iff_iff]; simp; omega) | (rw [Bool.eq_iff_iff]; simp; grind) | grind
theorem c73_ok : c73.ok Try.prog := mkCon_ok fun ⟨a, b⟩ hpre => c73_pc a b hpre
theorem wfR_len {r : TReport} (h : wfTReport r) : r.Colours.length ≤ maxLen ∧ r.Places.length ≤ maxLen := ⟨h.2.2.1.1, h.2.2.2.2.2.1.1⟩
theorem szR_len {r : TReport} {left : Int} (h : 0 ≤ szR r left) : r.Colours.length ≤ left ∧ r.Places.length ≤ left ∧ szR r left ≤ left := by
  simp only [szR] at h ⊢
  split at h
  · omega
  · rename_i h2; rw [if_neg h2]; omega
/-- loop.example/g03007/laws.FnExactIsReport -/
theorem law9 (r : TReport) (wr : wfTReport r) : PCo Try.prog 9 [encTReport r] (Tab.of []) (dB true) (Tab.of []) := by
  obtain ⟨r_Id, r_Kind, r_Colours, r_SizeLow, r_SizeHigh, r_Places, ⟨r_Span_From, r_Span_Until⟩⟩ := r
  refine pco_of_run [10] (E := ⟨[c53, c54, c55, c56, c57], []⟩) (m := false) (base := 0) (Env.ok_cons c53_ok (Env.ok_cons c54_ok (Env.ok_cons c55_ok (Env.ok_cons c56_ok (Env.ok_cons c57_ok Env.ok_nil))))) G_ok mix 400 6 Try.func9 (by kernel_rfl) rfl (by kernel_rfl) (by kernel_rfl) rfl ?_
  simp [Try.f9]
  have h1 := wfR_len wr
  simp at h1
  refine ⟨h1, fun h => ?_⟩
  have h2 := szR_len h
  simp at h2
  omega
theorem law9_pc (D0 : D) (h0 : Sh G 9 55 D0) : PC Try.prog 9 [D0] (dB true) [] := by
  obtain ⟨r, rfl, wr⟩ := sh55 (n := 6) h0
  exact law9 r wr
/-- loop.example/g03007/laws.FnExactIsVague -/
theorem law13 (r : TReport) (wr : wfTReport r) : PCo Try.prog 13 [encTReport r] (Tab.of []) (dB true) (Tab.of []) := by
  obtain ⟨r_Id, r_Kind, r_Colours, r_SizeLow, r_SizeHigh, r_Places, ⟨r_Span_From, r_Span_Until⟩⟩ := r
  refine pco_of_run [10] (E := ⟨[c53, c55, c57, c70, c71], []⟩) (m := false) (base := 0) (Env.ok_cons c53_ok (Env.ok_cons c55_ok (Env.ok_cons c57_ok (Env.ok_cons c70_ok (Env.ok_cons c71_ok Env.ok_nil))))) G_ok mix 400 6 Try.func13 (by kernel_rfl) rfl (by kernel_rfl) (by kernel_rfl) rfl ?_
  simp [Try.f13]
  have h1 := wfR_len wr
  simp at h1
  refine ⟨h1, fun h => ?_⟩
  have h2 := szR_len h
  simp at h2
  omega
theorem law13_pc (D0 : D) (h0 : Sh G 9 55 D0) : PC Try.prog 13 [D0] (dB true) [] := by
  obtain ⟨r, rfl, wr⟩ := sh55 (n := 6) h0
  exact law13 r wr
/-- loop.example/g03007/laws.FnExactEqualReports -/
theorem law14 (a : TReport) (wa : wfTReport a) (b : TReport) (wb : wfTReport b) : PCo Try.prog 14 [encTReport a, encTReport b] (Tab.of []) (dB true) (Tab.of []) := by
  obtain ⟨a_Id, a_Kind, a_Colours, a_SizeLow, a_SizeHigh, a_Places, ⟨a_Span_From, a_Span_Until⟩⟩ := a
  obtain ⟨b_Id, b_Kind, b_Colours, b_SizeLow, b_SizeHigh, b_Places, ⟨b_Span_From, b_Span_Until⟩⟩ := b
  refine pco_of_run [8, 14, 16] (E := ⟨[c53, c55, c57, c72, c73], []⟩) (m := false) (base := 0) (Env.ok_cons c53_ok (Env.ok_cons c55_ok (Env.ok_cons c57_ok (Env.ok_cons c72_ok (Env.ok_cons c73_ok Env.ok_nil))))) G_ok mix 400 6 Try.func14 (by kernel_rfl) rfl (by kernel_rfl) (by kernel_rfl) rfl ?_
  simp [Try.f14]
  have h1 := wfR_len wa
  have h3 := wfR_len wb
  simp at h1 h3
  refine ⟨h1, fun h => ?_⟩
  have h2 := szR_len h
  simp at h2
  refine ⟨⟨h3, by omega, by omega⟩, fun h' => ?_⟩
  have h4 := szR_len h'
  simp at h4
  repeat' (first | omega | refine And.intro ?_ ?_ | intro _)
  all_goals grind
theorem law14_pc (D0 : D) (h0 : Sh G 9 55 D0) (D1 : D) (h1 : Sh G 9 55 D1) : PC Try.prog 14 [D0, D1] (dB true) [] := by
  obtain ⟨a, rfl, wa⟩ := sh55 (n := 6) h0
  obtain ⟨b, rfl, wb⟩ := sh55 (n := 6) h1
  exact law14 a wa b wb

end Go.Proofs.Ytlpobdjfdbfhaaa
