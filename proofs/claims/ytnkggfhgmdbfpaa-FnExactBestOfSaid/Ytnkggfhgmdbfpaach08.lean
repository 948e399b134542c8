/- Contracts of the functions that the laws run. -/
import Derived.Test.Ytnkggfhgmdbfpaach07
import Derived.Test.YtnkggfhgmdbfpaaEngB
namespace Go.Proofs.Ytnkggfhgmdbfpaa
open Go Go.Eng
set_option linter.unusedSimpArgs false
set_option linter.unusedVariables false
set_option maxRecDepth 10000
set_option maxHeartbeats 1000000
theorem mem_at {l : List Int} {p : Nat} {n : Int} (h : p < l.length) : n ∈ l.drop p ↔ (n = l[p]?.getD 0 ∨ n ∈ l.drop (p + 1)) := by
  rw [drop_at (d := 0) h, List.mem_cons]
theorem mem_end {l : List Int} {p : Nat} {n : Int} (h : l.length ≤ p) : ¬ n ∈ l.drop p := by
  rw [List.drop_eq_nil_of_le h]; simp
theorem indexBy_mem {n : Int} : ∀ (l : List Int) (i : Int), 0 ≤ i → (0 ≤ indexBy (wantN (fun x => x) n) i l ↔ n ∈ l)
  | [], i, _ => by simp [indexBy]
  | x :: r, i, hi => by
    simp only [indexBy, List.mem_cons]
    by_cases h : x = n
    · have hw : wantN (fun x => x) n x = true := by simp [wantN, h]
      rw [if_pos hw]; simp [hi, h]
    · have hw : wantN (fun x => x) n x = false := by simp [wantN, h]
      rw [if_neg (by simp [hw]), indexBy_mem r (i + 1) (by omega)]
      constructor
      · exact .inr
      · rintro (e | e)
        · exact absurd e.symm h
        · exact e
/-- slices.Index[[]in -/
noncomputable def c303 : Con := mkCon 303 false (α := (List Int) × Int) (fun x => (fun (l : List Int) (n : Int) => [encLI l, dI n]) x.1 x.2) (fun _ => []) (fun x => (fun (l : List Int) (n : Int) => l.length ≤ 1099511627776) x.1 x.2) (fun x => (fun (l : List Int) (n : Int) => (dI (indexBy (wantN (fun x => x) n) 0 l) : D)) x.1 x.2) (fun x => (fun (l : List Int) (n : Int) => []) x.1 x.2)
@[simp] theorem c303_f : c303.f = 303 := rfl
@[simp] theorem c303_own : c303.own = false := rfl
theorem c303_inj : ∀ u_ v_ : (List Int) × Int, ((fun x => (fun (l : List Int) (n : Int) => [encLI l, dI n]) x.1 x.2) u_).map nz = ((fun x => (fun (l : List Int) (n : Int) => [encLI l, dI n]) x.1 x.2) v_).map nz → u_ = v_ := by
  intro u_ v_ h
  obtain ⟨l, n⟩ := u_
  obtain ⟨l', n'⟩ := v_
  simp [nz_lit, nz1_lit, nz_agg, nz_sl, nz1_sl, encLI] at h
  first | (simp [h]; done) | (obtain ⟨⟩ := h; simp_all; done) | simp_all
@[simp] theorem c303_fn (l : List Int) (n : Int) : c303.fn [.sl false 1 (.lit (.int .i64 0)) (ML dI l), .lit (.int .i64 n)] [] = some ((fun (l : List Int) (n : Int) => l.length ≤ 1099511627776) l n, (fun (l : List Int) (n : Int) => (dI (indexBy (wantN (fun x => x) n) 0 l) : D)) l n, (fun (l : List Int) (n : Int) => []) l n) :=
  mkCon_fn (fun x y h _ => c303_inj x y h) ((l, n) : (List Int) × Int) (by simp [nz, nz1, ML_nil, encLI]) rfl
@[simp] theorem c303_fn1 (s_l : Nat) (z_l : D) (n : Int) : c303.fn [.sl false s_l z_l [], .lit (.int .i64 n)] [] = some ((fun (l : List Int) (n : Int) => l.length ≤ 1099511627776) [] n, (fun (l : List Int) (n : Int) => (dI (indexBy (wantN (fun x => x) n) 0 l) : D)) [] n, (fun (l : List Int) (n : Int) => []) [] n) :=
  mkCon_fn (fun x y h _ => c303_inj x y h) (([], n) : (List Int) × Int) (by simp [nz, nz1, ML_nil, encLI]) rfl
theorem c303_pc (l : List Int) (n : Int) (hpre : l.length ≤ 1099511627776) : PCo Try.prog 303 [encLI l, dI n] (Tab.of []) (dI (indexBy (wantN (fun x => x) n) 0 l)) (Tab.of []) := by
  refine pco_of_run [] (E := ⟨[], []⟩) (m := false) (base := 0) Env.ok_nil G_ok mix 300 6 Try.func303 (by kernel_rfl) rfl (by kernel_rfl) (by kernel_rfl) rfl ?_
  simp [Try.f303]
  refine loop_inv (fun p : Nat => p ≤ l.length ∧ indexBy (wantN (fun x => x) n) 0 l = indexBy (wantN (fun x => x) n) p (l.drop p)) (fun p => [(0, encLI l), (1, dI n), (7, dI l.length), (8, dI p)]) (fun _ => []) 1 (fun p => l.length - p) 0 400 (by simp) (by simp) (by simp) ?_
  intro p ⟨hp, hi⟩
  simp
  refine ⟨fun hlt => ?_, fun hge => ?_⟩
  · rw [indexBy_at (d := 0) hlt] at hi; simp only [wantN, decide_eq_true_eq] at hi
    repeat' (first | omega | refine And.intro ?_ ?_ | intro _)
    all_goals first | exact Again.mk (p + 1) ⟨by omega, by rw [hi]; grind⟩ (by simp) (by first | omega | (simp; omega)) | (rw [hi]; grind)
  · rw [hi, indexBy_end hge]
theorem c303_ok : c303.ok Try.prog := mkCon_ok fun ⟨l, n⟩ hpre => c303_pc l n hpre
/-- slices.Contains[[]in -/
noncomputable def c300 : Con := mkCon 300 false (α := (List Int) × Int) (fun x => (fun (l : List Int) (n : Int) => [encLI l, dI n]) x.1 x.2) (fun _ => []) (fun x => (fun (l : List Int) (n : Int) => l.length ≤ 1099511627776) x.1 x.2) (fun x => (fun (l : List Int) (n : Int) => (dB (decide (n ∈ l)) : D)) x.1 x.2) (fun x => (fun (l : List Int) (n : Int) => []) x.1 x.2)
@[simp] theorem c300_f : c300.f = 300 := rfl
@[simp] theorem c300_own : c300.own = false := rfl
theorem c300_inj : ∀ u_ v_ : (List Int) × Int, ((fun x => (fun (l : List Int) (n : Int) => [encLI l, dI n]) x.1 x.2) u_).map nz = ((fun x => (fun (l : List Int) (n : Int) => [encLI l, dI n]) x.1 x.2) v_).map nz → u_ = v_ := by
  intro u_ v_ h
  obtain ⟨l, n⟩ := u_
  obtain ⟨l', n'⟩ := v_
  simp [nz_lit, nz1_lit, nz_agg, nz_sl, nz1_sl, encLI] at h
  first | (simp [h]; done) | (obtain ⟨⟩ := h; simp_all; done) | simp_all
@[simp] theorem c300_fn (l : List Int) (n : Int) : c300.fn [.sl false 1 (.lit (.int .i64 0)) (ML dI l), .lit (.int .i64 n)] [] = some ((fun (l : List Int) (n : Int) => l.length ≤ 1099511627776) l n, (fun (l : List Int) (n : Int) => (dB (decide (n ∈ l)) : D)) l n, (fun (l : List Int) (n : Int) => []) l n) :=
  mkCon_fn (fun x y h _ => c300_inj x y h) ((l, n) : (List Int) × Int) (by simp [nz, nz1, ML_nil, encLI]) rfl
@[simp] theorem c300_fn1 (s_l : Nat) (z_l : D) (n : Int) : c300.fn [.sl false s_l z_l [], .lit (.int .i64 n)] [] = some ((fun (l : List Int) (n : Int) => l.length ≤ 1099511627776) [] n, (fun (l : List Int) (n : Int) => (dB (decide (n ∈ l)) : D)) [] n, (fun (l : List Int) (n : Int) => []) [] n) :=
  mkCon_fn (fun x y h _ => c300_inj x y h) (([], n) : (List Int) × Int) (by simp [nz, nz1, ML_nil, encLI]) rfl
theorem c300_pc (l : List Int) (n : Int) (hpre : l.length ≤ 1099511627776) : PCo Try.prog 300 [encLI l, dI n] (Tab.of []) (dB (decide (n ∈ l))) (Tab.of []) := by
  refine pco_of_run [] (E := ⟨[c303], []⟩) (m := false) (base := 0) (Env.ok_cons c303_ok Env.ok_nil) G_ok mix 300 6 Try.func300 (by kernel_rfl) rfl (by kernel_rfl) (by kernel_rfl) rfl ?_
  simp [Try.f300]
  refine ⟨hpre, ?_⟩
  exact indexBy_mem l 0 (by omega)
theorem c300_ok : c300.ok Try.prog := mkCon_ok fun ⟨l, n⟩ hpre => c300_pc l n hpre
/-- loop.example/g03007/spec.l8Has -/
noncomputable def c264 : Con := mkCon 264 false (α := (List Int) × Int) (fun x => (fun (l : List Int) (n : Int) => [encLI l, dI n]) x.1 x.2) (fun _ => []) (fun x => (fun (l : List Int) (n : Int) => l.length ≤ 1099511627776) x.1 x.2) (fun x => (fun (l : List Int) (n : Int) => (dB (decide (n ∈ l)) : D)) x.1 x.2) (fun x => (fun (l : List Int) (n : Int) => []) x.1 x.2)
@[simp] theorem c264_f : c264.f = 264 := rfl
@[simp] theorem c264_own : c264.own = false := rfl
theorem c264_inj : ∀ u_ v_ : (List Int) × Int, ((fun x => (fun (l : List Int) (n : Int) => [encLI l, dI n]) x.1 x.2) u_).map nz = ((fun x => (fun (l : List Int) (n : Int) => [encLI l, dI n]) x.1 x.2) v_).map nz → u_ = v_ := by
  intro u_ v_ h
  obtain ⟨l, n⟩ := u_
  obtain ⟨l', n'⟩ := v_
  simp [nz_lit, nz1_lit, nz_agg, nz_sl, nz1_sl, encLI] at h
  first | (simp [h]; done) | (obtain ⟨⟩ := h; simp_all; done) | simp_all
@[simp] theorem c264_fn (l : List Int) (n : Int) : c264.fn [.sl false 1 (.lit (.int .i64 0)) (ML dI l), .lit (.int .i64 n)] [] = some ((fun (l : List Int) (n : Int) => l.length ≤ 1099511627776) l n, (fun (l : List Int) (n : Int) => (dB (decide (n ∈ l)) : D)) l n, (fun (l : List Int) (n : Int) => []) l n) :=
  mkCon_fn (fun x y h _ => c264_inj x y h) ((l, n) : (List Int) × Int) (by simp [nz, nz1, ML_nil, encLI]) rfl
@[simp] theorem c264_fn1 (s_l : Nat) (z_l : D) (n : Int) : c264.fn [.sl false s_l z_l [], .lit (.int .i64 n)] [] = some ((fun (l : List Int) (n : Int) => l.length ≤ 1099511627776) [] n, (fun (l : List Int) (n : Int) => (dB (decide (n ∈ l)) : D)) [] n, (fun (l : List Int) (n : Int) => []) [] n) :=
  mkCon_fn (fun x y h _ => c264_inj x y h) (([], n) : (List Int) × Int) (by simp [nz, nz1, ML_nil, encLI]) rfl
theorem c264_pc (l : List Int) (n : Int) (hpre : l.length ≤ 1099511627776) : PCo Try.prog 264 [encLI l, dI n] (Tab.of []) (dB (decide (n ∈ l))) (Tab.of []) := by
  refine pco_of_run [] (E := ⟨[], []⟩) (m := false) (base := 0) Env.ok_nil G_ok mix 300 6 Try.func264 (by kernel_rfl) rfl (by kernel_rfl) (by kernel_rfl) rfl ?_
  simp [Try.f264]
  refine loop_inv (fun p : Nat => p ≤ l.length ∧ (n ∈ l ↔ n ∈ l.drop p)) (fun p => [(0, encLI l), (1, dI n), (4, dB false), (5, dI p)]) (fun _ => []) 1 (fun p => l.length - p) 0 400 (by simp) (by simp) (by simp) ?_
  intro p ⟨hp, hi⟩
  simp
  refine ⟨fun hlt => ?_, fun hge => ?_⟩
  · rw [mem_at hlt] at hi
    repeat' (first | omega | refine And.intro ?_ ?_ | intro _)
    all_goals first | exact Again.mk (p + 1) ⟨by omega, by rw [hi]; grind⟩ (by simp) (by first | omega | (simp; omega)) | grind
  · have := mem_end (n := n) hge; grind
theorem c264_ok : c264.ok Try.prog := mkCon_ok fun ⟨l, n⟩ hpre => c264_pc l n hpre
def mAllows (l : List Int) (n : Int) : Bool := decide (l.length = 0) || decide (n ∈ l)
/-- loop.example/g03007/impl.allows -/
noncomputable def c289 : Con := mkCon 289 false (α := (List Int) × Int) (fun x => (fun (l : List Int) (n : Int) => [encLI l, dI n]) x.1 x.2) (fun _ => []) (fun x => (fun (l : List Int) (n : Int) => l.length ≤ 1099511627776) x.1 x.2) (fun x => (fun (l : List Int) (n : Int) => (dB (mAllows l n) : D)) x.1 x.2) (fun x => (fun (l : List Int) (n : Int) => []) x.1 x.2)
@[simp] theorem c289_f : c289.f = 289 := rfl
@[simp] theorem c289_own : c289.own = false := rfl
theorem c289_inj : ∀ u_ v_ : (List Int) × Int, ((fun x => (fun (l : List Int) (n : Int) => [encLI l, dI n]) x.1 x.2) u_).map nz = ((fun x => (fun (l : List Int) (n : Int) => [encLI l, dI n]) x.1 x.2) v_).map nz → u_ = v_ := by
  intro u_ v_ h
  obtain ⟨l, n⟩ := u_
  obtain ⟨l', n'⟩ := v_
  simp [nz_lit, nz1_lit, nz_agg, nz_sl, nz1_sl, encLI] at h
  first | (simp [h]; done) | (obtain ⟨⟩ := h; simp_all; done) | simp_all
@[simp] theorem c289_fn (l : List Int) (n : Int) : c289.fn [.sl false 1 (.lit (.int .i64 0)) (ML dI l), .lit (.int .i64 n)] [] = some ((fun (l : List Int) (n : Int) => l.length ≤ 1099511627776) l n, (fun (l : List Int) (n : Int) => (dB (mAllows l n) : D)) l n, (fun (l : List Int) (n : Int) => []) l n) :=
  mkCon_fn (fun x y h _ => c289_inj x y h) ((l, n) : (List Int) × Int) (by simp [nz, nz1, ML_nil, encLI]) rfl
@[simp] theorem c289_fn1 (s_l : Nat) (z_l : D) (n : Int) : c289.fn [.sl false s_l z_l [], .lit (.int .i64 n)] [] = some ((fun (l : List Int) (n : Int) => l.length ≤ 1099511627776) [] n, (fun (l : List Int) (n : Int) => (dB (mAllows l n) : D)) [] n, (fun (l : List Int) (n : Int) => []) [] n) :=
  mkCon_fn (fun x y h _ => c289_inj x y h) (([], n) : (List Int) × Int) (by simp [nz, nz1, ML_nil, encLI]) rfl
theorem c289_pc (l : List Int) (n : Int) (hpre : l.length ≤ 1099511627776) : PCo Try.prog 289 [encLI l, dI n] (Tab.of []) (dB (mAllows l n)) (Tab.of []) := by
  refine pco_of_run [] (E := ⟨[c300], []⟩) (m := false) (base := 0) (Env.ok_cons c300_ok Env.ok_nil) G_ok mix 300 6 Try.func289 (by kernel_rfl) rfl (by kernel_rfl) (by kernel_rfl) rfl ?_
  simp [Try.f289]
  simp [mAllows, hpre]
  first | rfl | omega | (rw [Bool.eq_iff_iff]; simp; done) | (rw [Bool.eq_iff_iff]; simp; omega) | (rw [Bool.eq_iff_iff]; simp; grind) | grind
theorem c289_ok : c289.ok Try.prog := mkCon_ok fun ⟨l, n⟩ hpre => c289_pc l n hpre
/-- loop.example/g03007/impl.matchChecks$1 -/
noncomputable def c286 : Con := mkCon 286 false (α := TReport × TFind) (fun x => (fun (r : TReport) (f : TFind) => [encTReport r, encTFind f]) x.1 x.2) (fun _ => []) (fun x => (fun (r : TReport) (f : TFind) => smR r) x.1 x.2) (fun x => (fun (r : TReport) (f : TFind) => (dB (mIsReport r && mIsFind f) : D)) x.1 x.2) (fun x => (fun (r : TReport) (f : TFind) => []) x.1 x.2)
@[simp] theorem c286_f : c286.f = 286 := rfl
@[simp] theorem c286_own : c286.own = false := rfl
theorem c286_inj : ∀ u_ v_ : TReport × TFind, ((fun x => (fun (r : TReport) (f : TFind) => [encTReport r, encTFind f]) x.1 x.2) u_).map nz = ((fun x => (fun (r : TReport) (f : TFind) => [encTReport r, encTFind f]) x.1 x.2) v_).map nz → u_ = v_ := by
  intro u_ v_ h
  obtain ⟨⟨r_Id, r_Kind, r_Colours, r_SizeLow, r_SizeHigh, r_Places, ⟨r_Span_From, r_Span_Until⟩⟩, ⟨⟨f_Thing_Id, f_Thing_Kind, f_Thing_Colour, f_Thing_Size, f_Thing_Worth⟩, f_Place, f_At, f_Finder⟩⟩ := u_
  obtain ⟨⟨r_Id', r_Kind', r_Colours', r_SizeLow', r_SizeHigh', r_Places', ⟨r_Span_From', r_Span_Until'⟩⟩, ⟨⟨f_Thing_Id', f_Thing_Kind', f_Thing_Colour', f_Thing_Size', f_Thing_Worth'⟩, f_Place', f_At', f_Finder'⟩⟩ := v_
  simp [nz_lit, nz1_lit, nz_agg, nz_sl, nz1_sl, encLI, encTFind, encTReport, encTSpan, encTThing] at h
  first | (simp [h]; done) | (obtain ⟨⟩ := h; simp_all; done) | simp_all
@[simp] theorem c286_fn (r_Id : Int) (r_Kind : Int) (r_Colours : List Int) (r_SizeLow : Int) (r_SizeHigh : Int) (r_Places : List Int) (r_Span_From : Int) (r_Span_Until : Int) (f_Thing_Id : Int) (f_Thing_Kind : Int) (f_Thing_Colour : Int) (f_Thing_Size : Int) (f_Thing_Worth : Int) (f_Place : Int) (f_At : Int) (f_Finder : Int) : c286.fn [.agg [.lit (.int .i64 r_Id), .lit (.int .i64 r_Kind), .sl false 1 (.lit (.int .i64 0)) (ML dI r_Colours), .lit (.int .i64 r_SizeLow), .lit (.int .i64 r_SizeHigh), .sl false 1 (.lit (.int .i64 0)) (ML dI r_Places), .lit (.int .i64 r_Span_From), .lit (.int .i64 r_Span_Until)], .agg [.lit (.int .i64 f_Thing_Id), .lit (.int .i64 f_Thing_Kind), .lit (.int .i64 f_Thing_Colour), .lit (.int .i64 f_Thing_Size), .lit (.int .i64 f_Thing_Worth), .lit (.int .i64 f_Place), .lit (.int .i64 f_At), .lit (.int .i64 f_Finder)]] [] = some ((fun (r : TReport) (f : TFind) => smR r) ⟨r_Id, r_Kind, r_Colours, r_SizeLow, r_SizeHigh, r_Places, ⟨r_Span_From, r_Span_Until⟩⟩ ⟨⟨f_Thing_Id, f_Thing_Kind, f_Thing_Colour, f_Thing_Size, f_Thing_Worth⟩, f_Place, f_At, f_Finder⟩, (fun (r : TReport) (f : TFind) => (dB (mIsReport r && mIsFind f) : D)) ⟨r_Id, r_Kind, r_Colours, r_SizeLow, r_SizeHigh, r_Places, ⟨r_Span_From, r_Span_Until⟩⟩ ⟨⟨f_Thing_Id, f_Thing_Kind, f_Thing_Colour, f_Thing_Size, f_Thing_Worth⟩, f_Place, f_At, f_Finder⟩, (fun (r : TReport) (f : TFind) => []) ⟨r_Id, r_Kind, r_Colours, r_SizeLow, r_SizeHigh, r_Places, ⟨r_Span_From, r_Span_Until⟩⟩ ⟨⟨f_Thing_Id, f_Thing_Kind, f_Thing_Colour, f_Thing_Size, f_Thing_Worth⟩, f_Place, f_At, f_Finder⟩) :=
  mkCon_fn (fun x y h _ => c286_inj x y h) ((⟨r_Id, r_Kind, r_Colours, r_SizeLow, r_SizeHigh, r_Places, ⟨r_Span_From, r_Span_Until⟩⟩, ⟨⟨f_Thing_Id, f_Thing_Kind, f_Thing_Colour, f_Thing_Size, f_Thing_Worth⟩, f_Place, f_At, f_Finder⟩) : TReport × TFind) (by simp [nz, nz1, ML_nil, encLI, encTFind, encTReport, encTSpan, encTThing]) rfl
theorem c286_pc (r : TReport) (f : TFind) (hpre : smR r) : PCo Try.prog 286 [encTReport r, encTFind f] (Tab.of []) (dB (mIsReport r && mIsFind f)) (Tab.of []) := by
  obtain ⟨r_Id, r_Kind, r_Colours, r_SizeLow, r_SizeHigh, r_Places, ⟨r_Span_From, r_Span_Until⟩⟩ := r
  obtain ⟨⟨f_Thing_Id, f_Thing_Kind, f_Thing_Colour, f_Thing_Size, f_Thing_Worth⟩, f_Place, f_At, f_Finder⟩ := f
  refine pco_of_run [] (E := ⟨[c126, c135], []⟩) (m := false) (base := 0) (Env.ok_cons c126_ok (Env.ok_cons c135_ok Env.ok_nil)) G_ok mix 300 6 Try.func286 (by kernel_rfl) rfl (by kernel_rfl) (by kernel_rfl) rfl ?_
  simp [Try.f286]
  simp at hpre
  simp [hpre]
theorem c286_ok : c286.ok Try.prog := mkCon_ok fun ⟨r, f⟩ hpre => c286_pc r f hpre
/-- loop.example/g03007/impl.matchChecks$2 -/
noncomputable def c287 : Con := mkCon 287 false (α := TReport × TFind) (fun x => (fun (r : TReport) (f : TFind) => [encTReport r, encTFind f]) x.1 x.2) (fun _ => []) (fun x => (fun (r : TReport) (f : TFind) => smR r) x.1 x.2) (fun x => (fun (r : TReport) (f : TFind) => (dB (decide (r.Kind = f.Thing.Kind)) : D)) x.1 x.2) (fun x => (fun (r : TReport) (f : TFind) => []) x.1 x.2)
@[simp] theorem c287_f : c287.f = 287 := rfl
@[simp] theorem c287_own : c287.own = false := rfl
theorem c287_inj : ∀ u_ v_ : TReport × TFind, ((fun x => (fun (r : TReport) (f : TFind) => [encTReport r, encTFind f]) x.1 x.2) u_).map nz = ((fun x => (fun (r : TReport) (f : TFind) => [encTReport r, encTFind f]) x.1 x.2) v_).map nz → u_ = v_ := by
  intro u_ v_ h
  obtain ⟨⟨r_Id, r_Kind, r_Colours, r_SizeLow, r_SizeHigh, r_Places, ⟨r_Span_From, r_Span_Until⟩⟩, ⟨⟨f_Thing_Id, f_Thing_Kind, f_Thing_Colour, f_Thing_Size, f_Thing_Worth⟩, f_Place, f_At, f_Finder⟩⟩ := u_
  obtain ⟨⟨r_Id', r_Kind', r_Colours', r_SizeLow', r_SizeHigh', r_Places', ⟨r_Span_From', r_Span_Until'⟩⟩, ⟨⟨f_Thing_Id', f_Thing_Kind', f_Thing_Colour', f_Thing_Size', f_Thing_Worth'⟩, f_Place', f_At', f_Finder'⟩⟩ := v_
  simp [nz_lit, nz1_lit, nz_agg, nz_sl, nz1_sl, encLI, encTFind, encTReport, encTSpan, encTThing] at h
  first | (simp [h]; done) | (obtain ⟨⟩ := h; simp_all; done) | simp_all
@[simp] theorem c287_fn (r_Id : Int) (r_Kind : Int) (r_Colours : List Int) (r_SizeLow : Int) (r_SizeHigh : Int) (r_Places : List Int) (r_Span_From : Int) (r_Span_Until : Int) (f_Thing_Id : Int) (f_Thing_Kind : Int) (f_Thing_Colour : Int) (f_Thing_Size : Int) (f_Thing_Worth : Int) (f_Place : Int) (f_At : Int) (f_Finder : Int) : c287.fn [.agg [.lit (.int .i64 r_Id), .lit (.int .i64 r_Kind), .sl false 1 (.lit (.int .i64 0)) (ML dI r_Colours), .lit (.int .i64 r_SizeLow), .lit (.int .i64 r_SizeHigh), .sl false 1 (.lit (.int .i64 0)) (ML dI r_Places), .lit (.int .i64 r_Span_From), .lit (.int .i64 r_Span_Until)], .agg [.lit (.int .i64 f_Thing_Id), .lit (.int .i64 f_Thing_Kind), .lit (.int .i64 f_Thing_Colour), .lit (.int .i64 f_Thing_Size), .lit (.int .i64 f_Thing_Worth), .lit (.int .i64 f_Place), .lit (.int .i64 f_At), .lit (.int .i64 f_Finder)]] [] = some ((fun (r : TReport) (f : TFind) => smR r) ⟨r_Id, r_Kind, r_Colours, r_SizeLow, r_SizeHigh, r_Places, ⟨r_Span_From, r_Span_Until⟩⟩ ⟨⟨f_Thing_Id, f_Thing_Kind, f_Thing_Colour, f_Thing_Size, f_Thing_Worth⟩, f_Place, f_At, f_Finder⟩, (fun (r : TReport) (f : TFind) => (dB (decide (r.Kind = f.Thing.Kind)) : D)) ⟨r_Id, r_Kind, r_Colours, r_SizeLow, r_SizeHigh, r_Places, ⟨r_Span_From, r_Span_Until⟩⟩ ⟨⟨f_Thing_Id, f_Thing_Kind, f_Thing_Colour, f_Thing_Size, f_Thing_Worth⟩, f_Place, f_At, f_Finder⟩, (fun (r : TReport) (f : TFind) => []) ⟨r_Id, r_Kind, r_Colours, r_SizeLow, r_SizeHigh, r_Places, ⟨r_Span_From, r_Span_Until⟩⟩ ⟨⟨f_Thing_Id, f_Thing_Kind, f_Thing_Colour, f_Thing_Size, f_Thing_Worth⟩, f_Place, f_At, f_Finder⟩) :=
  mkCon_fn (fun x y h _ => c287_inj x y h) ((⟨r_Id, r_Kind, r_Colours, r_SizeLow, r_SizeHigh, r_Places, ⟨r_Span_From, r_Span_Until⟩⟩, ⟨⟨f_Thing_Id, f_Thing_Kind, f_Thing_Colour, f_Thing_Size, f_Thing_Worth⟩, f_Place, f_At, f_Finder⟩) : TReport × TFind) (by simp [nz, nz1, ML_nil, encLI, encTFind, encTReport, encTSpan, encTThing]) rfl
theorem c287_pc (r : TReport) (f : TFind) (hpre : smR r) : PCo Try.prog 287 [encTReport r, encTFind f] (Tab.of []) (dB (decide (r.Kind = f.Thing.Kind))) (Tab.of []) := by
  obtain ⟨r_Id, r_Kind, r_Colours, r_SizeLow, r_SizeHigh, r_Places, ⟨r_Span_From, r_Span_Until⟩⟩ := r
  obtain ⟨⟨f_Thing_Id, f_Thing_Kind, f_Thing_Colour, f_Thing_Size, f_Thing_Worth⟩, f_Place, f_At, f_Finder⟩ := f
  refine pco_of_run [] (E := ⟨[], []⟩) (m := false) (base := 0) Env.ok_nil G_ok mix 300 6 Try.func287 (by kernel_rfl) rfl (by kernel_rfl) (by kernel_rfl) rfl ?_
  simp [Try.f287]
  first | done | rfl
theorem c287_ok : c287.ok Try.prog := mkCon_ok fun ⟨r, f⟩ hpre => c287_pc r f hpre
/-- loop.example/g03007/impl.matchChecks$3 -/
noncomputable def c288 : Con := mkCon 288 false (α := TReport × TFind) (fun x => (fun (r : TReport) (f : TFind) => [encTReport r, encTFind f]) x.1 x.2) (fun _ => []) (fun x => (fun (r : TReport) (f : TFind) => smR r) x.1 x.2) (fun x => (fun (r : TReport) (f : TFind) => (dB (mAllows r.Colours f.Thing.Colour) : D)) x.1 x.2) (fun x => (fun (r : TReport) (f : TFind) => []) x.1 x.2)
@[simp] theorem c288_f : c288.f = 288 := rfl
@[simp] theorem c288_own : c288.own = false := rfl
theorem c288_inj : ∀ u_ v_ : TReport × TFind, ((fun x => (fun (r : TReport) (f : TFind) => [encTReport r, encTFind f]) x.1 x.2) u_).map nz = ((fun x => (fun (r : TReport) (f : TFind) => [encTReport r, encTFind f]) x.1 x.2) v_).map nz → u_ = v_ := by
  intro u_ v_ h
  obtain ⟨⟨r_Id, r_Kind, r_Colours, r_SizeLow, r_SizeHigh, r_Places, ⟨r_Span_From, r_Span_Until⟩⟩, ⟨⟨f_Thing_Id, f_Thing_Kind, f_Thing_Colour, f_Thing_Size, f_Thing_Worth⟩, f_Place, f_At, f_Finder⟩⟩ := u_
  obtain ⟨⟨r_Id', r_Kind', r_Colours', r_SizeLow', r_SizeHigh', r_Places', ⟨r_Span_From', r_Span_Until'⟩⟩, ⟨⟨f_Thing_Id', f_Thing_Kind', f_Thing_Colour', f_Thing_Size', f_Thing_Worth'⟩, f_Place', f_At', f_Finder'⟩⟩ := v_
  simp [nz_lit, nz1_lit, nz_agg, nz_sl, nz1_sl, encLI, encTFind, encTReport, encTSpan, encTThing] at h
  first | (simp [h]; done) | (obtain ⟨⟩ := h; simp_all; done) | simp_all
@[simp] theorem c288_fn (r_Id : Int) (r_Kind : Int) (r_Colours : List Int) (r_SizeLow : Int) (r_SizeHigh : Int) (r_Places : List Int) (r_Span_From : Int) (r_Span_Until : Int) (f_Thing_Id : Int) (f_Thing_Kind : Int) (f_Thing_Colour : Int) (f_Thing_Size : Int) (f_Thing_Worth : Int) (f_Place : Int) (f_At : Int) (f_Finder : Int) : c288.fn [.agg [.lit (.int .i64 r_Id), .lit (.int .i64 r_Kind), .sl false 1 (.lit (.int .i64 0)) (ML dI r_Colours), .lit (.int .i64 r_SizeLow), .lit (.int .i64 r_SizeHigh), .sl false 1 (.lit (.int .i64 0)) (ML dI r_Places), .lit (.int .i64 r_Span_From), .lit (.int .i64 r_Span_Until)], .agg [.lit (.int .i64 f_Thing_Id), .lit (.int .i64 f_Thing_Kind), .lit (.int .i64 f_Thing_Colour), .lit (.int .i64 f_Thing_Size), .lit (.int .i64 f_Thing_Worth), .lit (.int .i64 f_Place), .lit (.int .i64 f_At), .lit (.int .i64 f_Finder)]] [] = some ((fun (r : TReport) (f : TFind) => smR r) ⟨r_Id, r_Kind, r_Colours, r_SizeLow, r_SizeHigh, r_Places, ⟨r_Span_From, r_Span_Until⟩⟩ ⟨⟨f_Thing_Id, f_Thing_Kind, f_Thing_Colour, f_Thing_Size, f_Thing_Worth⟩, f_Place, f_At, f_Finder⟩, (fun (r : TReport) (f : TFind) => (dB (mAllows r.Colours f.Thing.Colour) : D)) ⟨r_Id, r_Kind, r_Colours, r_SizeLow, r_SizeHigh, r_Places, ⟨r_Span_From, r_Span_Until⟩⟩ ⟨⟨f_Thing_Id, f_Thing_Kind, f_Thing_Colour, f_Thing_Size, f_Thing_Worth⟩, f_Place, f_At, f_Finder⟩, (fun (r : TReport) (f : TFind) => []) ⟨r_Id, r_Kind, r_Colours, r_SizeLow, r_SizeHigh, r_Places, ⟨r_Span_From, r_Span_Until⟩⟩ ⟨⟨f_Thing_Id, f_Thing_Kind, f_Thing_Colour, f_Thing_Size, f_Thing_Worth⟩, f_Place, f_At, f_Finder⟩) :=
  mkCon_fn (fun x y h _ => c288_inj x y h) ((⟨r_Id, r_Kind, r_Colours, r_SizeLow, r_SizeHigh, r_Places, ⟨r_Span_From, r_Span_Until⟩⟩, ⟨⟨f_Thing_Id, f_Thing_Kind, f_Thing_Colour, f_Thing_Size, f_Thing_Worth⟩, f_Place, f_At, f_Finder⟩) : TReport × TFind) (by simp [nz, nz1, ML_nil, encLI, encTFind, encTReport, encTSpan, encTThing]) rfl
theorem c288_pc (r : TReport) (f : TFind) (hpre : smR r) : PCo Try.prog 288 [encTReport r, encTFind f] (Tab.of []) (dB (mAllows r.Colours f.Thing.Colour)) (Tab.of []) := by
  obtain ⟨r_Id, r_Kind, r_Colours, r_SizeLow, r_SizeHigh, r_Places, ⟨r_Span_From, r_Span_Until⟩⟩ := r
  obtain ⟨⟨f_Thing_Id, f_Thing_Kind, f_Thing_Colour, f_Thing_Size, f_Thing_Worth⟩, f_Place, f_At, f_Finder⟩ := f
  refine pco_of_run [] (E := ⟨[c289], []⟩) (m := false) (base := 0) (Env.ok_cons c289_ok Env.ok_nil) G_ok mix 300 6 Try.func288 (by kernel_rfl) rfl (by kernel_rfl) (by kernel_rfl) rfl ?_
  simp [Try.f288]
  simp at hpre
  simp [hpre]
theorem c288_ok : c288.ok Try.prog := mkCon_ok fun ⟨r, f⟩ hpre => c288_pc r f hpre
/-- loop.example/g03007/impl.matchChecks$4 -/
noncomputable def c290 : Con := mkCon 290 false (α := TReport × TFind) (fun x => (fun (r : TReport) (f : TFind) => [encTReport r, encTFind f]) x.1 x.2) (fun _ => []) (fun x => (fun (r : TReport) (f : TFind) => smR r) x.1 x.2) (fun x => (fun (r : TReport) (f : TFind) => (dB (mIn f.Thing.Size r.SizeLow r.SizeHigh) : D)) x.1 x.2) (fun x => (fun (r : TReport) (f : TFind) => []) x.1 x.2)
@[simp] theorem c290_f : c290.f = 290 := rfl
@[simp] theorem c290_own : c290.own = false := rfl
theorem c290_inj : ∀ u_ v_ : TReport × TFind, ((fun x => (fun (r : TReport) (f : TFind) => [encTReport r, encTFind f]) x.1 x.2) u_).map nz = ((fun x => (fun (r : TReport) (f : TFind) => [encTReport r, encTFind f]) x.1 x.2) v_).map nz → u_ = v_ := by
  intro u_ v_ h
  obtain ⟨⟨r_Id, r_Kind, r_Colours, r_SizeLow, r_SizeHigh, r_Places, ⟨r_Span_From, r_Span_Until⟩⟩, ⟨⟨f_Thing_Id, f_Thing_Kind, f_Thing_Colour, f_Thing_Size, f_Thing_Worth⟩, f_Place, f_At, f_Finder⟩⟩ := u_
  obtain ⟨⟨r_Id', r_Kind', r_Colours', r_SizeLow', r_SizeHigh', r_Places', ⟨r_Span_From', r_Span_Until'⟩⟩, ⟨⟨f_Thing_Id', f_Thing_Kind', f_Thing_Colour', f_Thing_Size', f_Thing_Worth'⟩, f_Place', f_At', f_Finder'⟩⟩ := v_
  simp [nz_lit, nz1_lit, nz_agg, nz_sl, nz1_sl, encLI, encTFind, encTReport, encTSpan, encTThing] at h
  first | (simp [h]; done) | (obtain ⟨⟩ := h; simp_all; done) | simp_all
@[simp] theorem c290_fn (r_Id : Int) (r_Kind : Int) (r_Colours : List Int) (r_SizeLow : Int) (r_SizeHigh : Int) (r_Places : List Int) (r_Span_From : Int) (r_Span_Until : Int) (f_Thing_Id : Int) (f_Thing_Kind : Int) (f_Thing_Colour : Int) (f_Thing_Size : Int) (f_Thing_Worth : Int) (f_Place : Int) (f_At : Int) (f_Finder : Int) : c290.fn [.agg [.lit (.int .i64 r_Id), .lit (.int .i64 r_Kind), .sl false 1 (.lit (.int .i64 0)) (ML dI r_Colours), .lit (.int .i64 r_SizeLow), .lit (.int .i64 r_SizeHigh), .sl false 1 (.lit (.int .i64 0)) (ML dI r_Places), .lit (.int .i64 r_Span_From), .lit (.int .i64 r_Span_Until)], .agg [.lit (.int .i64 f_Thing_Id), .lit (.int .i64 f_Thing_Kind), .lit (.int .i64 f_Thing_Colour), .lit (.int .i64 f_Thing_Size), .lit (.int .i64 f_Thing_Worth), .lit (.int .i64 f_Place), .lit (.int .i64 f_At), .lit (.int .i64 f_Finder)]] [] = some ((fun (r : TReport) (f : TFind) => smR r) ⟨r_Id, r_Kind, r_Colours, r_SizeLow, r_SizeHigh, r_Places, ⟨r_Span_From, r_Span_Until⟩⟩ ⟨⟨f_Thing_Id, f_Thing_Kind, f_Thing_Colour, f_Thing_Size, f_Thing_Worth⟩, f_Place, f_At, f_Finder⟩, (fun (r : TReport) (f : TFind) => (dB (mIn f.Thing.Size r.SizeLow r.SizeHigh) : D)) ⟨r_Id, r_Kind, r_Colours, r_SizeLow, r_SizeHigh, r_Places, ⟨r_Span_From, r_Span_Until⟩⟩ ⟨⟨f_Thing_Id, f_Thing_Kind, f_Thing_Colour, f_Thing_Size, f_Thing_Worth⟩, f_Place, f_At, f_Finder⟩, (fun (r : TReport) (f : TFind) => []) ⟨r_Id, r_Kind, r_Colours, r_SizeLow, r_SizeHigh, r_Places, ⟨r_Span_From, r_Span_Until⟩⟩ ⟨⟨f_Thing_Id, f_Thing_Kind, f_Thing_Colour, f_Thing_Size, f_Thing_Worth⟩, f_Place, f_At, f_Finder⟩) :=
  mkCon_fn (fun x y h _ => c290_inj x y h) ((⟨r_Id, r_Kind, r_Colours, r_SizeLow, r_SizeHigh, r_Places, ⟨r_Span_From, r_Span_Until⟩⟩, ⟨⟨f_Thing_Id, f_Thing_Kind, f_Thing_Colour, f_Thing_Size, f_Thing_Worth⟩, f_Place, f_At, f_Finder⟩) : TReport × TFind) (by simp [nz, nz1, ML_nil, encLI, encTFind, encTReport, encTSpan, encTThing]) rfl
theorem c290_pc (r : TReport) (f : TFind) (hpre : smR r) : PCo Try.prog 290 [encTReport r, encTFind f] (Tab.of []) (dB (mIn f.Thing.Size r.SizeLow r.SizeHigh)) (Tab.of []) := by
  obtain ⟨r_Id, r_Kind, r_Colours, r_SizeLow, r_SizeHigh, r_Places, ⟨r_Span_From, r_Span_Until⟩⟩ := r
  obtain ⟨⟨f_Thing_Id, f_Thing_Kind, f_Thing_Colour, f_Thing_Size, f_Thing_Worth⟩, f_Place, f_At, f_Finder⟩ := f
  refine pco_of_run [] (E := ⟨[c108], []⟩) (m := false) (base := 0) (Env.ok_cons c108_ok Env.ok_nil) G_ok mix 300 6 Try.func290 (by kernel_rfl) rfl (by kernel_rfl) (by kernel_rfl) rfl ?_
  simp [Try.f290]
  all_goals first | omega | (rw [Bool.eq_iff_iff]; simp; omega) | grind
theorem c290_ok : c290.ok Try.prog := mkCon_ok fun ⟨r, f⟩ hpre => c290_pc r f hpre
/-- loop.example/g03007/impl.matchChecks$5 -/
noncomputable def c291 : Con := mkCon 291 false (α := TReport × TFind) (fun x => (fun (r : TReport) (f : TFind) => [encTReport r, encTFind f]) x.1 x.2) (fun _ => []) (fun x => (fun (r : TReport) (f : TFind) => smR r) x.1 x.2) (fun x => (fun (r : TReport) (f : TFind) => (dB (mAllows r.Places f.Place) : D)) x.1 x.2) (fun x => (fun (r : TReport) (f : TFind) => []) x.1 x.2)
@[simp] theorem c291_f : c291.f = 291 := rfl
@[simp] theorem c291_own : c291.own = false := rfl
theorem c291_inj : ∀ u_ v_ : TReport × TFind, ((fun x => (fun (r : TReport) (f : TFind) => [encTReport r, encTFind f]) x.1 x.2) u_).map nz = ((fun x => (fun (r : TReport) (f : TFind) => [encTReport r, encTFind f]) x.1 x.2) v_).map nz → u_ = v_ := by
  intro u_ v_ h
  obtain ⟨⟨r_Id, r_Kind, r_Colours, r_SizeLow, r_SizeHigh, r_Places, ⟨r_Span_From, r_Span_Until⟩⟩, ⟨⟨f_Thing_Id, f_Thing_Kind, f_Thing_Colour, f_Thing_Size, f_Thing_Worth⟩, f_Place, f_At, f_Finder⟩⟩ := u_
  obtain ⟨⟨r_Id', r_Kind', r_Colours', r_SizeLow', r_SizeHigh', r_Places', ⟨r_Span_From', r_Span_Until'⟩⟩, ⟨⟨f_Thing_Id', f_Thing_Kind', f_Thing_Colour', f_Thing_Size', f_Thing_Worth'⟩, f_Place', f_At', f_Finder'⟩⟩ := v_
  simp [nz_lit, nz1_lit, nz_agg, nz_sl, nz1_sl, encLI, encTFind, encTReport, encTSpan, encTThing] at h
  first | (simp [h]; done) | (obtain ⟨⟩ := h; simp_all; done) | simp_all
@[simp] theorem c291_fn (r_Id : Int) (r_Kind : Int) (r_Colours : List Int) (r_SizeLow : Int) (r_SizeHigh : Int) (r_Places : List Int) (r_Span_From : Int) (r_Span_Until : Int) (f_Thing_Id : Int) (f_Thing_Kind : Int) (f_Thing_Colour : Int) (f_Thing_Size : Int) (f_Thing_Worth : Int) (f_Place : Int) (f_At : Int) (f_Finder : Int) : c291.fn [.agg [.lit (.int .i64 r_Id), .lit (.int .i64 r_Kind), .sl false 1 (.lit (.int .i64 0)) (ML dI r_Colours), .lit (.int .i64 r_SizeLow), .lit (.int .i64 r_SizeHigh), .sl false 1 (.lit (.int .i64 0)) (ML dI r_Places), .lit (.int .i64 r_Span_From), .lit (.int .i64 r_Span_Until)], .agg [.lit (.int .i64 f_Thing_Id), .lit (.int .i64 f_Thing_Kind), .lit (.int .i64 f_Thing_Colour), .lit (.int .i64 f_Thing_Size), .lit (.int .i64 f_Thing_Worth), .lit (.int .i64 f_Place), .lit (.int .i64 f_At), .lit (.int .i64 f_Finder)]] [] = some ((fun (r : TReport) (f : TFind) => smR r) ⟨r_Id, r_Kind, r_Colours, r_SizeLow, r_SizeHigh, r_Places, ⟨r_Span_From, r_Span_Until⟩⟩ ⟨⟨f_Thing_Id, f_Thing_Kind, f_Thing_Colour, f_Thing_Size, f_Thing_Worth⟩, f_Place, f_At, f_Finder⟩, (fun (r : TReport) (f : TFind) => (dB (mAllows r.Places f.Place) : D)) ⟨r_Id, r_Kind, r_Colours, r_SizeLow, r_SizeHigh, r_Places, ⟨r_Span_From, r_Span_Until⟩⟩ ⟨⟨f_Thing_Id, f_Thing_Kind, f_Thing_Colour, f_Thing_Size, f_Thing_Worth⟩, f_Place, f_At, f_Finder⟩, (fun (r : TReport) (f : TFind) => []) ⟨r_Id, r_Kind, r_Colours, r_SizeLow, r_SizeHigh, r_Places, ⟨r_Span_From, r_Span_Until⟩⟩ ⟨⟨f_Thing_Id, f_Thing_Kind, f_Thing_Colour, f_Thing_Size, f_Thing_Worth⟩, f_Place, f_At, f_Finder⟩) :=
  mkCon_fn (fun x y h _ => c291_inj x y h) ((⟨r_Id, r_Kind, r_Colours, r_SizeLow, r_SizeHigh, r_Places, ⟨r_Span_From, r_Span_Until⟩⟩, ⟨⟨f_Thing_Id, f_Thing_Kind, f_Thing_Colour, f_Thing_Size, f_Thing_Worth⟩, f_Place, f_At, f_Finder⟩) : TReport × TFind) (by simp [nz, nz1, ML_nil, encLI, encTFind, encTReport, encTSpan, encTThing]) rfl
theorem c291_pc (r : TReport) (f : TFind) (hpre : smR r) : PCo Try.prog 291 [encTReport r, encTFind f] (Tab.of []) (dB (mAllows r.Places f.Place)) (Tab.of []) := by
  obtain ⟨r_Id, r_Kind, r_Colours, r_SizeLow, r_SizeHigh, r_Places, ⟨r_Span_From, r_Span_Until⟩⟩ := r
  obtain ⟨⟨f_Thing_Id, f_Thing_Kind, f_Thing_Colour, f_Thing_Size, f_Thing_Worth⟩, f_Place, f_At, f_Finder⟩ := f
  refine pco_of_run [] (E := ⟨[c289], []⟩) (m := false) (base := 0) (Env.ok_cons c289_ok Env.ok_nil) G_ok mix 300 6 Try.func291 (by kernel_rfl) rfl (by kernel_rfl) (by kernel_rfl) rfl ?_
  simp [Try.f291]
  simp at hpre
  simp [hpre]
theorem c291_ok : c291.ok Try.prog := mkCon_ok fun ⟨r, f⟩ hpre => c291_pc r f hpre
/-- loop.example/g03007/impl.matchChecks$6 -/
noncomputable def c292 : Con := mkCon 292 false (α := TReport × TFind) (fun x => (fun (r : TReport) (f : TFind) => [encTReport r, encTFind f]) x.1 x.2) (fun _ => []) (fun x => (fun (r : TReport) (f : TFind) => smR r) x.1 x.2) (fun x => (fun (r : TReport) (f : TFind) => (dB (decide (r.Span.From ≤ f.At)) : D)) x.1 x.2) (fun x => (fun (r : TReport) (f : TFind) => []) x.1 x.2)
@[simp] theorem c292_f : c292.f = 292 := rfl
@[simp] theorem c292_own : c292.own = false := rfl
theorem c292_inj : ∀ u_ v_ : TReport × TFind, ((fun x => (fun (r : TReport) (f : TFind) => [encTReport r, encTFind f]) x.1 x.2) u_).map nz = ((fun x => (fun (r : TReport) (f : TFind) => [encTReport r, encTFind f]) x.1 x.2) v_).map nz → u_ = v_ := by
  intro u_ v_ h
  obtain ⟨⟨r_Id, r_Kind, r_Colours, r_SizeLow, r_SizeHigh, r_Places, ⟨r_Span_From, r_Span_Until⟩⟩, ⟨⟨f_Thing_Id, f_Thing_Kind, f_Thing_Colour, f_Thing_Size, f_Thing_Worth⟩, f_Place, f_At, f_Finder⟩⟩ := u_
  obtain ⟨⟨r_Id', r_Kind', r_Colours', r_SizeLow', r_SizeHigh', r_Places', ⟨r_Span_From', r_Span_Until'⟩⟩, ⟨⟨f_Thing_Id', f_Thing_Kind', f_Thing_Colour', f_Thing_Size', f_Thing_Worth'⟩, f_Place', f_At', f_Finder'⟩⟩ := v_
  simp [nz_lit, nz1_lit, nz_agg, nz_sl, nz1_sl, encLI, encTFind, encTReport, encTSpan, encTThing] at h
  first | (simp [h]; done) | (obtain ⟨⟩ := h; simp_all; done) | simp_all
@[simp] theorem c292_fn (r_Id : Int) (r_Kind : Int) (r_Colours : List Int) (r_SizeLow : Int) (r_SizeHigh : Int) (r_Places : List Int) (r_Span_From : Int) (r_Span_Until : Int) (f_Thing_Id : Int) (f_Thing_Kind : Int) (f_Thing_Colour : Int) (f_Thing_Size : Int) (f_Thing_Worth : Int) (f_Place : Int) (f_At : Int) (f_Finder : Int) : c292.fn [.agg [.lit (.int .i64 r_Id), .lit (.int .i64 r_Kind), .sl false 1 (.lit (.int .i64 0)) (ML dI r_Colours), .lit (.int .i64 r_SizeLow), .lit (.int .i64 r_SizeHigh), .sl false 1 (.lit (.int .i64 0)) (ML dI r_Places), .lit (.int .i64 r_Span_From), .lit (.int .i64 r_Span_Until)], .agg [.lit (.int .i64 f_Thing_Id), .lit (.int .i64 f_Thing_Kind), .lit (.int .i64 f_Thing_Colour), .lit (.int .i64 f_Thing_Size), .lit (.int .i64 f_Thing_Worth), .lit (.int .i64 f_Place), .lit (.int .i64 f_At), .lit (.int .i64 f_Finder)]] [] = some ((fun (r : TReport) (f : TFind) => smR r) ⟨r_Id, r_Kind, r_Colours, r_SizeLow, r_SizeHigh, r_Places, ⟨r_Span_From, r_Span_Until⟩⟩ ⟨⟨f_Thing_Id, f_Thing_Kind, f_Thing_Colour, f_Thing_Size, f_Thing_Worth⟩, f_Place, f_At, f_Finder⟩, (fun (r : TReport) (f : TFind) => (dB (decide (r.Span.From ≤ f.At)) : D)) ⟨r_Id, r_Kind, r_Colours, r_SizeLow, r_SizeHigh, r_Places, ⟨r_Span_From, r_Span_Until⟩⟩ ⟨⟨f_Thing_Id, f_Thing_Kind, f_Thing_Colour, f_Thing_Size, f_Thing_Worth⟩, f_Place, f_At, f_Finder⟩, (fun (r : TReport) (f : TFind) => []) ⟨r_Id, r_Kind, r_Colours, r_SizeLow, r_SizeHigh, r_Places, ⟨r_Span_From, r_Span_Until⟩⟩ ⟨⟨f_Thing_Id, f_Thing_Kind, f_Thing_Colour, f_Thing_Size, f_Thing_Worth⟩, f_Place, f_At, f_Finder⟩) :=
  mkCon_fn (fun x y h _ => c292_inj x y h) ((⟨r_Id, r_Kind, r_Colours, r_SizeLow, r_SizeHigh, r_Places, ⟨r_Span_From, r_Span_Until⟩⟩, ⟨⟨f_Thing_Id, f_Thing_Kind, f_Thing_Colour, f_Thing_Size, f_Thing_Worth⟩, f_Place, f_At, f_Finder⟩) : TReport × TFind) (by simp [nz, nz1, ML_nil, encLI, encTFind, encTReport, encTSpan, encTThing]) rfl
theorem c292_pc (r : TReport) (f : TFind) (hpre : smR r) : PCo Try.prog 292 [encTReport r, encTFind f] (Tab.of []) (dB (decide (r.Span.From ≤ f.At))) (Tab.of []) := by
  obtain ⟨r_Id, r_Kind, r_Colours, r_SizeLow, r_SizeHigh, r_Places, ⟨r_Span_From, r_Span_Until⟩⟩ := r
  obtain ⟨⟨f_Thing_Id, f_Thing_Kind, f_Thing_Colour, f_Thing_Size, f_Thing_Worth⟩, f_Place, f_At, f_Finder⟩ := f
  refine pco_of_run [] (E := ⟨[], []⟩) (m := false) (base := 0) Env.ok_nil G_ok mix 300 6 Try.func292 (by kernel_rfl) rfl (by kernel_rfl) (by kernel_rfl) rfl ?_
  simp [Try.f292]
  first | done | rfl
theorem c292_ok : c292.ok Try.prog := mkCon_ok fun ⟨r, f⟩ hpre => c292_pc r f hpre
def wInvalid : ByteArray := ⟨#[105, 110, 118, 97, 108, 105, 100]⟩
/-- loop.example/g03007/impl.matchChecks -/
noncomputable def c267 : Con := mkCon 267 false (α := Unit) (fun _ => []) (fun _ => []) (fun _ => True) (fun _ => (.sl false 2 .any [.agg [.lit (.string ⟨#[105, 110, 118, 97, 108, 105, 100]⟩), .fn (.func 286) [] []], .agg [.lit (.string ⟨#[107, 105, 110, 100]⟩), .fn (.func 287) [] []], .agg [.lit (.string ⟨#[99, 111, 108, 111, 117, 114]⟩), .fn (.func 288) [] []], .agg [.lit (.string ⟨#[115, 105, 122, 101]⟩), .fn (.func 290) [] []], .agg [.lit (.string ⟨#[112, 108, 97, 99, 101]⟩), .fn (.func 291) [] []], .agg [.lit (.string ⟨#[116, 105, 109, 101]⟩), .fn (.func 292) [] []]] : D)) (fun _ => [])
@[simp] theorem c267_f : c267.f = 267 := rfl
@[simp] theorem c267_own : c267.own = false := rfl
theorem c267_inj : ∀ x y : Unit, ((fun _ => []) x).map nz = ((fun _ => []) y).map nz → x = y := fun _ _ _ => rfl
@[simp] theorem c267_fn : c267.fn [] [] = some (True, (.sl false 2 .any [.agg [.lit (.string ⟨#[105, 110, 118, 97, 108, 105, 100]⟩), .fn (.func 286) [] []], .agg [.lit (.string ⟨#[107, 105, 110, 100]⟩), .fn (.func 287) [] []], .agg [.lit (.string ⟨#[99, 111, 108, 111, 117, 114]⟩), .fn (.func 288) [] []], .agg [.lit (.string ⟨#[115, 105, 122, 101]⟩), .fn (.func 290) [] []], .agg [.lit (.string ⟨#[112, 108, 97, 99, 101]⟩), .fn (.func 291) [] []], .agg [.lit (.string ⟨#[116, 105, 109, 101]⟩), .fn (.func 292) [] []]] : D), []) :=
  mkCon_fn (fun x y h _ => c267_inj x y h) (() : Unit) (by simp [nz, nz1, ML_nil]) rfl
theorem c267_pc  : PCo Try.prog 267 [] (Tab.of []) (.sl false 2 .any [.agg [.lit (.string ⟨#[105, 110, 118, 97, 108, 105, 100]⟩), .fn (.func 286) [] []], .agg [.lit (.string ⟨#[107, 105, 110, 100]⟩), .fn (.func 287) [] []], .agg [.lit (.string ⟨#[99, 111, 108, 111, 117, 114]⟩), .fn (.func 288) [] []], .agg [.lit (.string ⟨#[115, 105, 122, 101]⟩), .fn (.func 290) [] []], .agg [.lit (.string ⟨#[112, 108, 97, 99, 101]⟩), .fn (.func 291) [] []], .agg [.lit (.string ⟨#[116, 105, 109, 101]⟩), .fn (.func 292) [] []]]) (Tab.of []) := by
  refine pco_of_run [] (E := ⟨[c286, c287, c288, c290, c291, c292], []⟩) (m := false) (base := 0) (Env.ok_cons c286_ok (Env.ok_cons c287_ok (Env.ok_cons c288_ok (Env.ok_cons c290_ok (Env.ok_cons c291_ok (Env.ok_cons c292_ok Env.ok_nil)))))) G_ok mix 300 6 Try.func267 (by kernel_rfl) rfl (by kernel_rfl) (by kernel_rfl) rfl ?_
  simp [Try.f267]
  all_goals first | omega | (rw [Bool.eq_iff_iff]; simp; omega) | grind
theorem c267_ok : c267.ok Try.prog := mkCon_ok fun _ hpre => c267_pc 
def mWhyNot (r : TReport) (f : TFind) : ByteArray := if (mIsReport r && mIsFind f) = false then ⟨#[105, 110, 118, 97, 108, 105, 100]⟩ else if r.Kind ≠ f.Thing.Kind then ⟨#[107, 105, 110, 100]⟩ else if mAllows r.Colours f.Thing.Colour = false then ⟨#[99, 111, 108, 111, 117, 114]⟩ else if mIn f.Thing.Size r.SizeLow r.SizeHigh = false then ⟨#[115, 105, 122, 101]⟩ else if mAllows r.Places f.Place = false then ⟨#[112, 108, 97, 99, 101]⟩ else if f.At < r.Span.From then ⟨#[116, 105, 109, 101]⟩ else ⟨#[]⟩
/-- loop.example/g03007/impl.WhyNot -/
noncomputable def c246 : Con := mkCon 246 false (α := TReport × TFind) (fun x => (fun (r : TReport) (f : TFind) => [encTReport r, encTFind f]) x.1 x.2) (fun _ => []) (fun x => (fun (r : TReport) (f : TFind) => smR r) x.1 x.2) (fun x => (fun (r : TReport) (f : TFind) => (dS (mWhyNot r f) : D)) x.1 x.2) (fun x => (fun (r : TReport) (f : TFind) => []) x.1 x.2)
@[simp] theorem c246_f : c246.f = 246 := rfl
@[simp] theorem c246_own : c246.own = false := rfl
theorem c246_inj : ∀ u_ v_ : TReport × TFind, ((fun x => (fun (r : TReport) (f : TFind) => [encTReport r, encTFind f]) x.1 x.2) u_).map nz = ((fun x => (fun (r : TReport) (f : TFind) => [encTReport r, encTFind f]) x.1 x.2) v_).map nz → u_ = v_ := by
  intro u_ v_ h
  obtain ⟨⟨r_Id, r_Kind, r_Colours, r_SizeLow, r_SizeHigh, r_Places, ⟨r_Span_From, r_Span_Until⟩⟩, ⟨⟨f_Thing_Id, f_Thing_Kind, f_Thing_Colour, f_Thing_Size, f_Thing_Worth⟩, f_Place, f_At, f_Finder⟩⟩ := u_
  obtain ⟨⟨r_Id', r_Kind', r_Colours', r_SizeLow', r_SizeHigh', r_Places', ⟨r_Span_From', r_Span_Until'⟩⟩, ⟨⟨f_Thing_Id', f_Thing_Kind', f_Thing_Colour', f_Thing_Size', f_Thing_Worth'⟩, f_Place', f_At', f_Finder'⟩⟩ := v_
  simp [nz_lit, nz1_lit, nz_agg, nz_sl, nz1_sl, encLI, encTFind, encTReport, encTSpan, encTThing] at h
  first | (simp [h]; done) | (obtain ⟨⟩ := h; simp_all; done) | simp_all
@[simp] theorem c246_fn (r_Id : Int) (r_Kind : Int) (r_Colours : List Int) (r_SizeLow : Int) (r_SizeHigh : Int) (r_Places : List Int) (r_Span_From : Int) (r_Span_Until : Int) (f_Thing_Id : Int) (f_Thing_Kind : Int) (f_Thing_Colour : Int) (f_Thing_Size : Int) (f_Thing_Worth : Int) (f_Place : Int) (f_At : Int) (f_Finder : Int) : c246.fn [.agg [.lit (.int .i64 r_Id), .lit (.int .i64 r_Kind), .sl false 1 (.lit (.int .i64 0)) (ML dI r_Colours), .lit (.int .i64 r_SizeLow), .lit (.int .i64 r_SizeHigh), .sl false 1 (.lit (.int .i64 0)) (ML dI r_Places), .lit (.int .i64 r_Span_From), .lit (.int .i64 r_Span_Until)], .agg [.lit (.int .i64 f_Thing_Id), .lit (.int .i64 f_Thing_Kind), .lit (.int .i64 f_Thing_Colour), .lit (.int .i64 f_Thing_Size), .lit (.int .i64 f_Thing_Worth), .lit (.int .i64 f_Place), .lit (.int .i64 f_At), .lit (.int .i64 f_Finder)]] [] = some ((fun (r : TReport) (f : TFind) => smR r) ⟨r_Id, r_Kind, r_Colours, r_SizeLow, r_SizeHigh, r_Places, ⟨r_Span_From, r_Span_Until⟩⟩ ⟨⟨f_Thing_Id, f_Thing_Kind, f_Thing_Colour, f_Thing_Size, f_Thing_Worth⟩, f_Place, f_At, f_Finder⟩, (fun (r : TReport) (f : TFind) => (dS (mWhyNot r f) : D)) ⟨r_Id, r_Kind, r_Colours, r_SizeLow, r_SizeHigh, r_Places, ⟨r_Span_From, r_Span_Until⟩⟩ ⟨⟨f_Thing_Id, f_Thing_Kind, f_Thing_Colour, f_Thing_Size, f_Thing_Worth⟩, f_Place, f_At, f_Finder⟩, (fun (r : TReport) (f : TFind) => []) ⟨r_Id, r_Kind, r_Colours, r_SizeLow, r_SizeHigh, r_Places, ⟨r_Span_From, r_Span_Until⟩⟩ ⟨⟨f_Thing_Id, f_Thing_Kind, f_Thing_Colour, f_Thing_Size, f_Thing_Worth⟩, f_Place, f_At, f_Finder⟩) :=
  mkCon_fn (fun x y h _ => c246_inj x y h) ((⟨r_Id, r_Kind, r_Colours, r_SizeLow, r_SizeHigh, r_Places, ⟨r_Span_From, r_Span_Until⟩⟩, ⟨⟨f_Thing_Id, f_Thing_Kind, f_Thing_Colour, f_Thing_Size, f_Thing_Worth⟩, f_Place, f_At, f_Finder⟩) : TReport × TFind) (by simp [nz, nz1, ML_nil, encLI, encTFind, encTReport, encTSpan, encTThing]) rfl
theorem c246_pc (r : TReport) (f : TFind) (hpre : smR r) : PCo Try.prog 246 [encTReport r, encTFind f] (Tab.of []) (dS (mWhyNot r f)) (Tab.of []) := by
  refine pco_of_run [] (E := ⟨[c267, c286, c287, c288, c290, c291, c292], []⟩) (m := false) (base := 0) (Env.ok_cons c267_ok (Env.ok_cons c286_ok (Env.ok_cons c287_ok (Env.ok_cons c288_ok (Env.ok_cons c290_ok (Env.ok_cons c291_ok (Env.ok_cons c292_ok Env.ok_nil))))))) G_ok mix 300 6 Try.func246 (by kernel_rfl) rfl (by kernel_rfl) (by kernel_rfl) rfl ?_
  simp at hpre
  simp [Try.f246, hpre]
  refine loop_unroll 600 ?_
  simp [hpre]
  grind [mWhyNot]
theorem c246_ok : c246.ok Try.prog := mkCon_ok fun ⟨r, f⟩ hpre => c246_pc r f hpre
/-- loop.example/g03007/spec.WhyNot -/
noncomputable def c243 : Con := mkCon 243 false (α := TReport × TFind) (fun x => (fun (r : TReport) (f : TFind) => [encTReport r, encTFind f]) x.1 x.2) (fun _ => []) (fun x => (fun (r : TReport) (f : TFind) => smR r) x.1 x.2) (fun x => (fun (r : TReport) (f : TFind) => (dS (mWhyNot r f) : D)) x.1 x.2) (fun x => (fun (r : TReport) (f : TFind) => []) x.1 x.2)
@[simp] theorem c243_f : c243.f = 243 := rfl
@[simp] theorem c243_own : c243.own = false := rfl
theorem c243_inj : ∀ u_ v_ : TReport × TFind, ((fun x => (fun (r : TReport) (f : TFind) => [encTReport r, encTFind f]) x.1 x.2) u_).map nz = ((fun x => (fun (r : TReport) (f : TFind) => [encTReport r, encTFind f]) x.1 x.2) v_).map nz → u_ = v_ := by
  intro u_ v_ h
  obtain ⟨⟨r_Id, r_Kind, r_Colours, r_SizeLow, r_SizeHigh, r_Places, ⟨r_Span_From, r_Span_Until⟩⟩, ⟨⟨f_Thing_Id, f_Thing_Kind, f_Thing_Colour, f_Thing_Size, f_Thing_Worth⟩, f_Place, f_At, f_Finder⟩⟩ := u_
  obtain ⟨⟨r_Id', r_Kind', r_Colours', r_SizeLow', r_SizeHigh', r_Places', ⟨r_Span_From', r_Span_Until'⟩⟩, ⟨⟨f_Thing_Id', f_Thing_Kind', f_Thing_Colour', f_Thing_Size', f_Thing_Worth'⟩, f_Place', f_At', f_Finder'⟩⟩ := v_
  simp [nz_lit, nz1_lit, nz_agg, nz_sl, nz1_sl, encLI, encTFind, encTReport, encTSpan, encTThing] at h
  first | (simp [h]; done) | (obtain ⟨⟩ := h; simp_all; done) | simp_all
@[simp] theorem c243_fn (r_Id : Int) (r_Kind : Int) (r_Colours : List Int) (r_SizeLow : Int) (r_SizeHigh : Int) (r_Places : List Int) (r_Span_From : Int) (r_Span_Until : Int) (f_Thing_Id : Int) (f_Thing_Kind : Int) (f_Thing_Colour : Int) (f_Thing_Size : Int) (f_Thing_Worth : Int) (f_Place : Int) (f_At : Int) (f_Finder : Int) : c243.fn [.agg [.lit (.int .i64 r_Id), .lit (.int .i64 r_Kind), .sl false 1 (.lit (.int .i64 0)) (ML dI r_Colours), .lit (.int .i64 r_SizeLow), .lit (.int .i64 r_SizeHigh), .sl false 1 (.lit (.int .i64 0)) (ML dI r_Places), .lit (.int .i64 r_Span_From), .lit (.int .i64 r_Span_Until)], .agg [.lit (.int .i64 f_Thing_Id), .lit (.int .i64 f_Thing_Kind), .lit (.int .i64 f_Thing_Colour), .lit (.int .i64 f_Thing_Size), .lit (.int .i64 f_Thing_Worth), .lit (.int .i64 f_Place), .lit (.int .i64 f_At), .lit (.int .i64 f_Finder)]] [] = some ((fun (r : TReport) (f : TFind) => smR r) ⟨r_Id, r_Kind, r_Colours, r_SizeLow, r_SizeHigh, r_Places, ⟨r_Span_From, r_Span_Until⟩⟩ ⟨⟨f_Thing_Id, f_Thing_Kind, f_Thing_Colour, f_Thing_Size, f_Thing_Worth⟩, f_Place, f_At, f_Finder⟩, (fun (r : TReport) (f : TFind) => (dS (mWhyNot r f) : D)) ⟨r_Id, r_Kind, r_Colours, r_SizeLow, r_SizeHigh, r_Places, ⟨r_Span_From, r_Span_Until⟩⟩ ⟨⟨f_Thing_Id, f_Thing_Kind, f_Thing_Colour, f_Thing_Size, f_Thing_Worth⟩, f_Place, f_At, f_Finder⟩, (fun (r : TReport) (f : TFind) => []) ⟨r_Id, r_Kind, r_Colours, r_SizeLow, r_SizeHigh, r_Places, ⟨r_Span_From, r_Span_Until⟩⟩ ⟨⟨f_Thing_Id, f_Thing_Kind, f_Thing_Colour, f_Thing_Size, f_Thing_Worth⟩, f_Place, f_At, f_Finder⟩) :=
  mkCon_fn (fun x y h _ => c243_inj x y h) ((⟨r_Id, r_Kind, r_Colours, r_SizeLow, r_SizeHigh, r_Places, ⟨r_Span_From, r_Span_Until⟩⟩, ⟨⟨f_Thing_Id, f_Thing_Kind, f_Thing_Colour, f_Thing_Size, f_Thing_Worth⟩, f_Place, f_At, f_Finder⟩) : TReport × TFind) (by simp [nz, nz1, ML_nil, encLI, encTFind, encTReport, encTSpan, encTThing]) rfl
theorem c243_pc (r : TReport) (f : TFind) (hpre : smR r) : PCo Try.prog 243 [encTReport r, encTFind f] (Tab.of []) (dS (mWhyNot r f)) (Tab.of []) := by
  refine pco_of_run [] (E := ⟨[c105, c119, c124, c264], []⟩) (m := false) (base := 0) (Env.ok_cons c105_ok (Env.ok_cons c119_ok (Env.ok_cons c124_ok (Env.ok_cons c264_ok Env.ok_nil)))) G_ok mix 300 6 Try.func243 (by kernel_rfl) rfl (by kernel_rfl) (by kernel_rfl) rfl ?_
  simp [Try.f243]
  simp at hpre
  simp [hpre]
  grind [mWhyNot, mAllows]
theorem c243_ok : c243.ok Try.prog := mkCon_ok fun ⟨r, f⟩ hpre => c243_pc r f hpre
def mCanBe (r : TReport) (f : TFind) : Bool := mIsReport r && mIsFind f && decide (r.Kind = f.Thing.Kind) && mAllows r.Colours f.Thing.Colour && mIn f.Thing.Size r.SizeLow r.SizeHigh && mAllows r.Places f.Place && decide (r.Span.From ≤ f.At)
theorem canBe_why (r : TReport) (f : TFind) : decide (mWhyNot r f = ⟨#[]⟩) = mCanBe r f := by
  have e1 : ((⟨#[105, 110, 118, 97, 108, 105, 100]⟩ : ByteArray) = ⟨#[]⟩) = False := by simp
  have e2 : ((⟨#[107, 105, 110, 100]⟩ : ByteArray) = ⟨#[]⟩) = False := by simp
  have e3 : ((⟨#[99, 111, 108, 111, 117, 114]⟩ : ByteArray) = ⟨#[]⟩) = False := by simp
  have e4 : ((⟨#[115, 105, 122, 101]⟩ : ByteArray) = ⟨#[]⟩) = False := by simp
  have e5 : ((⟨#[112, 108, 97, 99, 101]⟩ : ByteArray) = ⟨#[]⟩) = False := by simp
  have e6 : ((⟨#[116, 105, 109, 101]⟩ : ByteArray) = ⟨#[]⟩) = False := by simp
  rw [Bool.eq_iff_iff]
  simp only [mWhyNot, mCanBe, decide_eq_true_eq, Bool.and_eq_true]
  (repeat' split) <;> simp_all
  all_goals trace_state
/-- loop.example/g03007/impl.CanBe -/
noncomputable def c196 : Con := mkCon 196 false (α := TReport × TFind) (fun x => (fun (r : TReport) (f : TFind) => [encTReport r, encTFind f]) x.1 x.2) (fun _ => []) (fun x => (fun (r : TReport) (f : TFind) => smR r) x.1 x.2) (fun x => (fun (r : TReport) (f : TFind) => (dB (mCanBe r f) : D)) x.1 x.2) (fun x => (fun (r : TReport) (f : TFind) => []) x.1 x.2)
@[simp] theorem c196_f : c196.f = 196 := rfl
@[simp] theorem c196_own : c196.own = false := rfl
theorem c196_inj : ∀ u_ v_ : TReport × TFind, ((fun x => (fun (r : TReport) (f : TFind) => [encTReport r, encTFind f]) x.1 x.2) u_).map nz = ((fun x => (fun (r : TReport) (f : TFind) => [encTReport r, encTFind f]) x.1 x.2) v_).map nz → u_ = v_ := by
  intro u_ v_ h
  obtain ⟨⟨r_Id, r_Kind, r_Colours, r_SizeLow, r_SizeHigh, r_Places, ⟨r_Span_From, r_Span_Until⟩⟩, ⟨⟨f_Thing_Id, f_Thing_Kind, f_Thing_Colour, f_Thing_Size, f_Thing_Worth⟩, f_Place, f_At, f_Finder⟩⟩ := u_
  obtain ⟨⟨r_Id', r_Kind', r_Colours', r_SizeLow', r_SizeHigh', r_Places', ⟨r_Span_From', r_Span_Until'⟩⟩, ⟨⟨f_Thing_Id', f_Thing_Kind', f_Thing_Colour', f_Thing_Size', f_Thing_Worth'⟩, f_Place', f_At', f_Finder'⟩⟩ := v_
  simp [nz_lit, nz1_lit, nz_agg, nz_sl, nz1_sl, encLI, encTFind, encTReport, encTSpan, encTThing] at h
  first | (simp [h]; done) | (obtain ⟨⟩ := h; simp_all; done) | simp_all
@[simp] theorem c196_fn (r_Id : Int) (r_Kind : Int) (r_Colours : List Int) (r_SizeLow : Int) (r_SizeHigh : Int) (r_Places : List Int) (r_Span_From : Int) (r_Span_Until : Int) (f_Thing_Id : Int) (f_Thing_Kind : Int) (f_Thing_Colour : Int) (f_Thing_Size : Int) (f_Thing_Worth : Int) (f_Place : Int) (f_At : Int) (f_Finder : Int) : c196.fn [.agg [.lit (.int .i64 r_Id), .lit (.int .i64 r_Kind), .sl false 1 (.lit (.int .i64 0)) (ML dI r_Colours), .lit (.int .i64 r_SizeLow), .lit (.int .i64 r_SizeHigh), .sl false 1 (.lit (.int .i64 0)) (ML dI r_Places), .lit (.int .i64 r_Span_From), .lit (.int .i64 r_Span_Until)], .agg [.lit (.int .i64 f_Thing_Id), .lit (.int .i64 f_Thing_Kind), .lit (.int .i64 f_Thing_Colour), .lit (.int .i64 f_Thing_Size), .lit (.int .i64 f_Thing_Worth), .lit (.int .i64 f_Place), .lit (.int .i64 f_At), .lit (.int .i64 f_Finder)]] [] = some ((fun (r : TReport) (f : TFind) => smR r) ⟨r_Id, r_Kind, r_Colours, r_SizeLow, r_SizeHigh, r_Places, ⟨r_Span_From, r_Span_Until⟩⟩ ⟨⟨f_Thing_Id, f_Thing_Kind, f_Thing_Colour, f_Thing_Size, f_Thing_Worth⟩, f_Place, f_At, f_Finder⟩, (fun (r : TReport) (f : TFind) => (dB (mCanBe r f) : D)) ⟨r_Id, r_Kind, r_Colours, r_SizeLow, r_SizeHigh, r_Places, ⟨r_Span_From, r_Span_Until⟩⟩ ⟨⟨f_Thing_Id, f_Thing_Kind, f_Thing_Colour, f_Thing_Size, f_Thing_Worth⟩, f_Place, f_At, f_Finder⟩, (fun (r : TReport) (f : TFind) => []) ⟨r_Id, r_Kind, r_Colours, r_SizeLow, r_SizeHigh, r_Places, ⟨r_Span_From, r_Span_Until⟩⟩ ⟨⟨f_Thing_Id, f_Thing_Kind, f_Thing_Colour, f_Thing_Size, f_Thing_Worth⟩, f_Place, f_At, f_Finder⟩) :=
  mkCon_fn (fun x y h _ => c196_inj x y h) ((⟨r_Id, r_Kind, r_Colours, r_SizeLow, r_SizeHigh, r_Places, ⟨r_Span_From, r_Span_Until⟩⟩, ⟨⟨f_Thing_Id, f_Thing_Kind, f_Thing_Colour, f_Thing_Size, f_Thing_Worth⟩, f_Place, f_At, f_Finder⟩) : TReport × TFind) (by simp [nz, nz1, ML_nil, encLI, encTFind, encTReport, encTSpan, encTThing]) rfl
theorem c196_pc (r : TReport) (f : TFind) (hpre : smR r) : PCo Try.prog 196 [encTReport r, encTFind f] (Tab.of []) (dB (mCanBe r f)) (Tab.of []) := by
  refine pco_of_run [] (E := ⟨[c246], []⟩) (m := false) (base := 0) (Env.ok_cons c246_ok Env.ok_nil) G_ok mix 300 6 Try.func196 (by kernel_rfl) rfl (by kernel_rfl) (by kernel_rfl) rfl ?_
  simp [Try.f196]
  simp at hpre
  simp [hpre, ← canBe_why]
theorem c196_ok : c196.ok Try.prog := mkCon_ok fun ⟨r, f⟩ hpre => c196_pc r f hpre
/-- loop.example/g03007/spec.CanBe -/
noncomputable def c190 : Con := mkCon 190 false (α := TReport × TFind) (fun x => (fun (r : TReport) (f : TFind) => [encTReport r, encTFind f]) x.1 x.2) (fun _ => []) (fun x => (fun (r : TReport) (f : TFind) => smR r) x.1 x.2) (fun x => (fun (r : TReport) (f : TFind) => (dB (mCanBe r f) : D)) x.1 x.2) (fun x => (fun (r : TReport) (f : TFind) => []) x.1 x.2)
@[simp] theorem c190_f : c190.f = 190 := rfl
@[simp] theorem c190_own : c190.own = false := rfl
theorem c190_inj : ∀ u_ v_ : TReport × TFind, ((fun x => (fun (r : TReport) (f : TFind) => [encTReport r, encTFind f]) x.1 x.2) u_).map nz = ((fun x => (fun (r : TReport) (f : TFind) => [encTReport r, encTFind f]) x.1 x.2) v_).map nz → u_ = v_ := by
  intro u_ v_ h
  obtain ⟨⟨r_Id, r_Kind, r_Colours, r_SizeLow, r_SizeHigh, r_Places, ⟨r_Span_From, r_Span_Until⟩⟩, ⟨⟨f_Thing_Id, f_Thing_Kind, f_Thing_Colour, f_Thing_Size, f_Thing_Worth⟩, f_Place, f_At, f_Finder⟩⟩ := u_
  obtain ⟨⟨r_Id', r_Kind', r_Colours', r_SizeLow', r_SizeHigh', r_Places', ⟨r_Span_From', r_Span_Until'⟩⟩, ⟨⟨f_Thing_Id', f_Thing_Kind', f_Thing_Colour', f_Thing_Size', f_Thing_Worth'⟩, f_Place', f_At', f_Finder'⟩⟩ := v_
  simp [nz_lit, nz1_lit, nz_agg, nz_sl, nz1_sl, encLI, encTFind, encTReport, encTSpan, encTThing] at h
  first | (simp [h]; done) | (obtain ⟨⟩ := h; simp_all; done) | simp_all
@[simp] theorem c190_fn (r_Id : Int) (r_Kind : Int) (r_Colours : List Int) (r_SizeLow : Int) (r_SizeHigh : Int) (r_Places : List Int) (r_Span_From : Int) (r_Span_Until : Int) (f_Thing_Id : Int) (f_Thing_Kind : Int) (f_Thing_Colour : Int) (f_Thing_Size : Int) (f_Thing_Worth : Int) (f_Place : Int) (f_At : Int) (f_Finder : Int) : c190.fn [.agg [.lit (.int .i64 r_Id), .lit (.int .i64 r_Kind), .sl false 1 (.lit (.int .i64 0)) (ML dI r_Colours), .lit (.int .i64 r_SizeLow), .lit (.int .i64 r_SizeHigh), .sl false 1 (.lit (.int .i64 0)) (ML dI r_Places), .lit (.int .i64 r_Span_From), .lit (.int .i64 r_Span_Until)], .agg [.lit (.int .i64 f_Thing_Id), .lit (.int .i64 f_Thing_Kind), .lit (.int .i64 f_Thing_Colour), .lit (.int .i64 f_Thing_Size), .lit (.int .i64 f_Thing_Worth), .lit (.int .i64 f_Place), .lit (.int .i64 f_At), .lit (.int .i64 f_Finder)]] [] = some ((fun (r : TReport) (f : TFind) => smR r) ⟨r_Id, r_Kind, r_Colours, r_SizeLow, r_SizeHigh, r_Places, ⟨r_Span_From, r_Span_Until⟩⟩ ⟨⟨f_Thing_Id, f_Thing_Kind, f_Thing_Colour, f_Thing_Size, f_Thing_Worth⟩, f_Place, f_At, f_Finder⟩, (fun (r : TReport) (f : TFind) => (dB (mCanBe r f) : D)) ⟨r_Id, r_Kind, r_Colours, r_SizeLow, r_SizeHigh, r_Places, ⟨r_Span_From, r_Span_Until⟩⟩ ⟨⟨f_Thing_Id, f_Thing_Kind, f_Thing_Colour, f_Thing_Size, f_Thing_Worth⟩, f_Place, f_At, f_Finder⟩, (fun (r : TReport) (f : TFind) => []) ⟨r_Id, r_Kind, r_Colours, r_SizeLow, r_SizeHigh, r_Places, ⟨r_Span_From, r_Span_Until⟩⟩ ⟨⟨f_Thing_Id, f_Thing_Kind, f_Thing_Colour, f_Thing_Size, f_Thing_Worth⟩, f_Place, f_At, f_Finder⟩) :=
  mkCon_fn (fun x y h _ => c190_inj x y h) ((⟨r_Id, r_Kind, r_Colours, r_SizeLow, r_SizeHigh, r_Places, ⟨r_Span_From, r_Span_Until⟩⟩, ⟨⟨f_Thing_Id, f_Thing_Kind, f_Thing_Colour, f_Thing_Size, f_Thing_Worth⟩, f_Place, f_At, f_Finder⟩) : TReport × TFind) (by simp [nz, nz1, ML_nil, encLI, encTFind, encTReport, encTSpan, encTThing]) rfl
theorem c190_pc (r : TReport) (f : TFind) (hpre : smR r) : PCo Try.prog 190 [encTReport r, encTFind f] (Tab.of []) (dB (mCanBe r f)) (Tab.of []) := by
  refine pco_of_run [] (E := ⟨[c243], []⟩) (m := false) (base := 0) (Env.ok_cons c243_ok Env.ok_nil) G_ok mix 300 6 Try.func190 (by kernel_rfl) rfl (by kernel_rfl) (by kernel_rfl) rfl ?_
  simp [Try.f190]
  simp at hpre
  simp [hpre, ← canBe_why]
theorem c190_ok : c190.ok Try.prog := mkCon_ok fun ⟨r, f⟩ hpre => c190_pc r f hpre
def b2i (b : Bool) : Int := if b then 1 else 0
theorem b2i_bd (b : Bool) : 0 ≤ b2i b ∧ b2i b ≤ 1 := by cases b <;> simp [b2i]
def mScore (r : TReport) (f : TFind) : Int := if mCanBe r f then 1 + b2i (mIn r.Colours.length 1 2) + b2i (decide (r.SizeHigh - r.SizeLow ≤ 5)) + b2i (mIn r.Places.length 1 2) + b2i (decide (f.At ≤ r.Span.Until + 24)) else 0
theorem canBe_bd {r : TReport} {f : TFind} (h : mCanBe r f = true) : (1 ≤ r.SizeLow ∧ r.SizeLow ≤ r.SizeHigh ∧ r.SizeHigh ≤ 50) ∧ (0 ≤ r.Span.From ∧ r.Span.From ≤ r.Span.Until ∧ r.Span.Until ≤ 100000) ∧ 0 ≤ f.At ∧ f.At ≤ 100000 := by
  simp [mCanBe, mIsReport, mIsFind, mIsSpan, mIn] at h; omega
/-- loop.example/g03007/spec.l8One -/
noncomputable def c191 : Con := mkCon 191 false (α := Bool) (fun x => (fun (b : Bool) => [dB b]) x) (fun _ => []) (fun x => (fun (b : Bool) => True) x) (fun x => (fun (b : Bool) => (dI (b2i b) : D)) x) (fun x => (fun (b : Bool) => []) x)
@[simp] theorem c191_f : c191.f = 191 := rfl
@[simp] theorem c191_own : c191.own = false := rfl
theorem c191_inj : ∀ u_ v_ : Bool, ((fun x => (fun (b : Bool) => [dB b]) x) u_).map nz = ((fun x => (fun (b : Bool) => [dB b]) x) v_).map nz → u_ = v_ := by
  intro u_ v_ h
  obtain b := u_
  obtain b' := v_
  simp [nz_lit, nz1_lit, nz_agg, nz_sl, nz1_sl] at h
  first | (simp [h]; done) | (obtain ⟨⟩ := h; simp_all; done) | simp_all
@[simp] theorem c191_fn (b : Bool) : c191.fn [.lit (.bool b)] [] = some ((fun (b : Bool) => True) b, (fun (b : Bool) => (dI (b2i b) : D)) b, (fun (b : Bool) => []) b) :=
  mkCon_fn (fun x y h _ => c191_inj x y h) (b : Bool) (by simp [nz, nz1, ML_nil]) rfl
theorem c191_pc (b : Bool) : PCo Try.prog 191 [dB b] (Tab.of []) (dI (b2i b)) (Tab.of []) := by
  refine pco_of_run [] (E := ⟨[], []⟩) (m := false) (base := 0) Env.ok_nil G_ok mix 300 6 Try.func191 (by kernel_rfl) rfl (by kernel_rfl) (by kernel_rfl) rfl ?_
  simp [Try.f191]
  cases b <;> simp [b2i]
theorem c191_ok : c191.ok Try.prog := mkCon_ok fun b hpre => c191_pc b
/-- loop.example/g03007/spec.Score -/
noncomputable def c112 : Con := mkCon 112 false (α := TReport × TFind) (fun x => (fun (r : TReport) (f : TFind) => [encTReport r, encTFind f]) x.1 x.2) (fun _ => []) (fun x => (fun (r : TReport) (f : TFind) => smR r) x.1 x.2) (fun x => (fun (r : TReport) (f : TFind) => (dI (mScore r f) : D)) x.1 x.2) (fun x => (fun (r : TReport) (f : TFind) => []) x.1 x.2)
@[simp] theorem c112_f : c112.f = 112 := rfl
@[simp] theorem c112_own : c112.own = false := rfl
theorem c112_inj : ∀ u_ v_ : TReport × TFind, ((fun x => (fun (r : TReport) (f : TFind) => [encTReport r, encTFind f]) x.1 x.2) u_).map nz = ((fun x => (fun (r : TReport) (f : TFind) => [encTReport r, encTFind f]) x.1 x.2) v_).map nz → u_ = v_ := by
  intro u_ v_ h
  obtain ⟨⟨r_Id, r_Kind, r_Colours, r_SizeLow, r_SizeHigh, r_Places, ⟨r_Span_From, r_Span_Until⟩⟩, ⟨⟨f_Thing_Id, f_Thing_Kind, f_Thing_Colour, f_Thing_Size, f_Thing_Worth⟩, f_Place, f_At, f_Finder⟩⟩ := u_
  obtain ⟨⟨r_Id', r_Kind', r_Colours', r_SizeLow', r_SizeHigh', r_Places', ⟨r_Span_From', r_Span_Until'⟩⟩, ⟨⟨f_Thing_Id', f_Thing_Kind', f_Thing_Colour', f_Thing_Size', f_Thing_Worth'⟩, f_Place', f_At', f_Finder'⟩⟩ := v_
  simp [nz_lit, nz1_lit, nz_agg, nz_sl, nz1_sl, encLI, encTFind, encTReport, encTSpan, encTThing] at h
  first | (simp [h]; done) | (obtain ⟨⟩ := h; simp_all; done) | simp_all
@[simp] theorem c112_fn (r_Id : Int) (r_Kind : Int) (r_Colours : List Int) (r_SizeLow : Int) (r_SizeHigh : Int) (r_Places : List Int) (r_Span_From : Int) (r_Span_Until : Int) (f_Thing_Id : Int) (f_Thing_Kind : Int) (f_Thing_Colour : Int) (f_Thing_Size : Int) (f_Thing_Worth : Int) (f_Place : Int) (f_At : Int) (f_Finder : Int) : c112.fn [.agg [.lit (.int .i64 r_Id), .lit (.int .i64 r_Kind), .sl false 1 (.lit (.int .i64 0)) (ML dI r_Colours), .lit (.int .i64 r_SizeLow), .lit (.int .i64 r_SizeHigh), .sl false 1 (.lit (.int .i64 0)) (ML dI r_Places), .lit (.int .i64 r_Span_From), .lit (.int .i64 r_Span_Until)], .agg [.lit (.int .i64 f_Thing_Id), .lit (.int .i64 f_Thing_Kind), .lit (.int .i64 f_Thing_Colour), .lit (.int .i64 f_Thing_Size), .lit (.int .i64 f_Thing_Worth), .lit (.int .i64 f_Place), .lit (.int .i64 f_At), .lit (.int .i64 f_Finder)]] [] = some ((fun (r : TReport) (f : TFind) => smR r) ⟨r_Id, r_Kind, r_Colours, r_SizeLow, r_SizeHigh, r_Places, ⟨r_Span_From, r_Span_Until⟩⟩ ⟨⟨f_Thing_Id, f_Thing_Kind, f_Thing_Colour, f_Thing_Size, f_Thing_Worth⟩, f_Place, f_At, f_Finder⟩, (fun (r : TReport) (f : TFind) => (dI (mScore r f) : D)) ⟨r_Id, r_Kind, r_Colours, r_SizeLow, r_SizeHigh, r_Places, ⟨r_Span_From, r_Span_Until⟩⟩ ⟨⟨f_Thing_Id, f_Thing_Kind, f_Thing_Colour, f_Thing_Size, f_Thing_Worth⟩, f_Place, f_At, f_Finder⟩, (fun (r : TReport) (f : TFind) => []) ⟨r_Id, r_Kind, r_Colours, r_SizeLow, r_SizeHigh, r_Places, ⟨r_Span_From, r_Span_Until⟩⟩ ⟨⟨f_Thing_Id, f_Thing_Kind, f_Thing_Colour, f_Thing_Size, f_Thing_Worth⟩, f_Place, f_At, f_Finder⟩) :=
  mkCon_fn (fun x y h _ => c112_inj x y h) ((⟨r_Id, r_Kind, r_Colours, r_SizeLow, r_SizeHigh, r_Places, ⟨r_Span_From, r_Span_Until⟩⟩, ⟨⟨f_Thing_Id, f_Thing_Kind, f_Thing_Colour, f_Thing_Size, f_Thing_Worth⟩, f_Place, f_At, f_Finder⟩) : TReport × TFind) (by simp [nz, nz1, ML_nil, encLI, encTFind, encTReport, encTSpan, encTThing]) rfl
theorem c112_pc (r : TReport) (f : TFind) (hpre : smR r) : PCo Try.prog 112 [encTReport r, encTFind f] (Tab.of []) (dI (mScore r f)) (Tab.of []) := by
  refine pco_of_run [3] (E := ⟨[c105, c190, c191], []⟩) (m := false) (base := 0) (Env.ok_cons c105_ok (Env.ok_cons c190_ok (Env.ok_cons c191_ok Env.ok_nil))) G_ok mix 300 6 Try.func112 (by kernel_rfl) rfl (by kernel_rfl) (by kernel_rfl) rfl ?_
  simp [Try.f112]
  simp at hpre
  simp [hpre]
  refine ⟨fun h => by simp [mScore, h], fun h => ?_⟩
  have hb := canBe_bd h
  have h1 := b2i_bd (mIn r.Colours.length 1 2)
  have h2 := b2i_bd (decide (r.SizeHigh - r.SizeLow ≤ 5))
  have h3 := b2i_bd (mIn r.Places.length 1 2)
  have h4 := b2i_bd (decide (f.At ≤ r.Span.Until + 24))
  repeat' (first | omega | refine And.intro ?_ ?_ | intro _)
  simp [mScore, h]
theorem c112_ok : c112.ok Try.prog := mkCon_ok fun ⟨r, f⟩ hpre => c112_pc r f hpre
/-- loop.example/g03007/impl.Score -/
noncomputable def c116 : Con := mkCon 116 false (α := TReport × TFind) (fun x => (fun (r : TReport) (f : TFind) => [encTReport r, encTFind f]) x.1 x.2) (fun _ => []) (fun x => (fun (r : TReport) (f : TFind) => smR r) x.1 x.2) (fun x => (fun (r : TReport) (f : TFind) => (dI (mScore r f) : D)) x.1 x.2) (fun x => (fun (r : TReport) (f : TFind) => []) x.1 x.2)
@[simp] theorem c116_f : c116.f = 116 := rfl
@[simp] theorem c116_own : c116.own = false := rfl
theorem c116_inj : ∀ u_ v_ : TReport × TFind, ((fun x => (fun (r : TReport) (f : TFind) => [encTReport r, encTFind f]) x.1 x.2) u_).map nz = ((fun x => (fun (r : TReport) (f : TFind) => [encTReport r, encTFind f]) x.1 x.2) v_).map nz → u_ = v_ := by
  intro u_ v_ h
  obtain ⟨⟨r_Id, r_Kind, r_Colours, r_SizeLow, r_SizeHigh, r_Places, ⟨r_Span_From, r_Span_Until⟩⟩, ⟨⟨f_Thing_Id, f_Thing_Kind, f_Thing_Colour, f_Thing_Size, f_Thing_Worth⟩, f_Place, f_At, f_Finder⟩⟩ := u_
  obtain ⟨⟨r_Id', r_Kind', r_Colours', r_SizeLow', r_SizeHigh', r_Places', ⟨r_Span_From', r_Span_Until'⟩⟩, ⟨⟨f_Thing_Id', f_Thing_Kind', f_Thing_Colour', f_Thing_Size', f_Thing_Worth'⟩, f_Place', f_At', f_Finder'⟩⟩ := v_
  simp [nz_lit, nz1_lit, nz_agg, nz_sl, nz1_sl, encLI, encTFind, encTReport, encTSpan, encTThing] at h
  first | (simp [h]; done) | (obtain ⟨⟩ := h; simp_all; done) | simp_all
@[simp] theorem c116_fn (r_Id : Int) (r_Kind : Int) (r_Colours : List Int) (r_SizeLow : Int) (r_SizeHigh : Int) (r_Places : List Int) (r_Span_From : Int) (r_Span_Until : Int) (f_Thing_Id : Int) (f_Thing_Kind : Int) (f_Thing_Colour : Int) (f_Thing_Size : Int) (f_Thing_Worth : Int) (f_Place : Int) (f_At : Int) (f_Finder : Int) : c116.fn [.agg [.lit (.int .i64 r_Id), .lit (.int .i64 r_Kind), .sl false 1 (.lit (.int .i64 0)) (ML dI r_Colours), .lit (.int .i64 r_SizeLow), .lit (.int .i64 r_SizeHigh), .sl false 1 (.lit (.int .i64 0)) (ML dI r_Places), .lit (.int .i64 r_Span_From), .lit (.int .i64 r_Span_Until)], .agg [.lit (.int .i64 f_Thing_Id), .lit (.int .i64 f_Thing_Kind), .lit (.int .i64 f_Thing_Colour), .lit (.int .i64 f_Thing_Size), .lit (.int .i64 f_Thing_Worth), .lit (.int .i64 f_Place), .lit (.int .i64 f_At), .lit (.int .i64 f_Finder)]] [] = some ((fun (r : TReport) (f : TFind) => smR r) ⟨r_Id, r_Kind, r_Colours, r_SizeLow, r_SizeHigh, r_Places, ⟨r_Span_From, r_Span_Until⟩⟩ ⟨⟨f_Thing_Id, f_Thing_Kind, f_Thing_Colour, f_Thing_Size, f_Thing_Worth⟩, f_Place, f_At, f_Finder⟩, (fun (r : TReport) (f : TFind) => (dI (mScore r f) : D)) ⟨r_Id, r_Kind, r_Colours, r_SizeLow, r_SizeHigh, r_Places, ⟨r_Span_From, r_Span_Until⟩⟩ ⟨⟨f_Thing_Id, f_Thing_Kind, f_Thing_Colour, f_Thing_Size, f_Thing_Worth⟩, f_Place, f_At, f_Finder⟩, (fun (r : TReport) (f : TFind) => []) ⟨r_Id, r_Kind, r_Colours, r_SizeLow, r_SizeHigh, r_Places, ⟨r_Span_From, r_Span_Until⟩⟩ ⟨⟨f_Thing_Id, f_Thing_Kind, f_Thing_Colour, f_Thing_Size, f_Thing_Worth⟩, f_Place, f_At, f_Finder⟩) :=
  mkCon_fn (fun x y h _ => c116_inj x y h) ((⟨r_Id, r_Kind, r_Colours, r_SizeLow, r_SizeHigh, r_Places, ⟨r_Span_From, r_Span_Until⟩⟩, ⟨⟨f_Thing_Id, f_Thing_Kind, f_Thing_Colour, f_Thing_Size, f_Thing_Worth⟩, f_Place, f_At, f_Finder⟩) : TReport × TFind) (by simp [nz, nz1, ML_nil, encLI, encTFind, encTReport, encTSpan, encTThing]) rfl
theorem c116_pc (r : TReport) (f : TFind) (hpre : smR r) : PCo Try.prog 116 [encTReport r, encTFind f] (Tab.of []) (dI (mScore r f)) (Tab.of []) := by
  refine pco_of_run [4] (E := ⟨[c108, c196], []⟩) (m := false) (base := 0) (Env.ok_cons c108_ok (Env.ok_cons c196_ok Env.ok_nil)) G_ok mix 300 6 Try.func116 (by kernel_rfl) rfl (by kernel_rfl) (by kernel_rfl) rfl ?_
  simp [Try.f116]
  simp at hpre
  simp [hpre]
  refine ⟨fun h => by simp [mScore, h], fun h => ?_⟩
  have hb := canBe_bd h
  refine ⟨⟨by omega, by omega⟩, ?_⟩
  refine loop_unroll 600 ?_
  simp
  simp only [mScore, h, if_true]
  have e : (f.At ≤ r.Span.Until + 24) ↔ (f.At - r.Span.Until ≤ 24) := by omega
  simp only [b2i, e]
  repeat' (first | refine And.intro ?_ ?_ | intro _)
  all_goals (simp [*]; first | done | omega)
theorem c116_ok : c116.ok Try.prog := mkCon_ok fun ⟨r, f⟩ hpre => c116_pc r f hpre
end Go.Proofs.Ytnkggfhgmdbfpaa
