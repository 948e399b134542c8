/- Contracts of the functions that the laws run. -/
import Derived.Test.Ytlpobdjfdbfhaaach07
import Derived.Test.YtlpobdjfdbfhaaaEngB
namespace Go.Proofs.Ytlpobdjfdbfhaaa
open Go Go.Eng
set_option linter.unusedSimpArgs false
set_option linter.unusedVariables false
set_option maxRecDepth 10000
set_option maxHeartbeats 1000000
theorem mem_at {l : List Int} {p : Nat} {n : Int} (h : p < l.length) : n ∈ l.drop p ↔ (n = l[p]?.getD 0 ∨ n ∈ l.drop (p + 1)) := by
  rw [drop_at (d := 0) h, List.mem_cons]
theorem mem_end {l : List Int} {p : Nat} {n : Int} (h : l.length ≤ p) : ¬ n ∈ l.drop p := by
  rw [List.drop_eq_nil_of_le h]; simp
theorem indexBy_mem {n : Int} : ∀ (l : List Int) (i : Int), 0 ≤ i → (0 ≤ indexBy (wantN (fun x => x) n) i l ↔ n ∈ l)
  | [], i, _ => by simp [indexBy]
  | x :: r, i, hi => by
    simp only [indexBy, List.mem_cons]
    by_cases h : x = n
    · have hw : wantN (fun x => x) n x = true := by simp [wantN, h]
      rw [if_pos hw]; simp [hi, h]
    · have hw : wantN (fun x => x) n x = false := by simp [wantN, h]
      rw [if_neg (by simp [hw]), indexBy_mem r (i + 1) (by omega)]
      constructor
      · exact .inr
      · rintro (e | e)
        · exact absurd e.symm h
        · exact e
/-- slices.Index[[]in -/
noncomputable def c235 : Con := mkCon 235 false (α := (List Int) × Int) (fun x => (fun (l : List Int) (n : Int) => [encLI l, dI n]) x.1 x.2) (fun _ => []) (fun x => (fun (l : List Int) (n : Int) => l.length ≤ 1099511627776) x.1 x.2) (fun x => (fun (l : List Int) (n : Int) => (dI (indexBy (wantN (fun x => x) n) 0 l) : D)) x.1 x.2) (fun x => (fun (l : List Int) (n : Int) => []) x.1 x.2)
@[simp] theorem c235_f : c235.f = 235 := rfl
@[simp] theorem c235_own : c235.own = false := rfl
theorem c235_inj : ∀ u_ v_ : (List Int) × Int, ((fun x => (fun (l : List Int) (n : Int) => [encLI l, dI n]) x.1 x.2) u_).map nz = ((fun x => (fun (l : List Int) (n : Int) => [encLI l, dI n]) x.1 x.2) v_).map nz → u_ = v_ := by
  intro u_ v_ h
  obtain ⟨l, n⟩ := u_
  obtain ⟨l', n'⟩ := v_
  simp [nz_lit, nz1_lit, nz_agg, nz_sl, nz1_sl, encLI] at h
  first | (simp [h]; done) | (obtain ⟨⟩ := h; simp_all; done) | simp_all
@[simp] theorem c235_fn (l : List Int) (n : Int) : c235.fn [.sl false 1 (.lit (.int .i64 0)) (ML dI l), .lit (.int .i64 n)] [] = some ((fun (l : List Int) (n : Int) => l.length ≤ 1099511627776) l n, (fun (l : List Int) (n : Int) => (dI (indexBy (wantN (fun x => x) n) 0 l) : D)) l n, (fun (l : List Int) (n : Int) => []) l n) :=
  mkCon_fn (fun x y h _ => c235_inj x y h) ((l, n) : (List Int) × Int) (by simp [nz, nz1, ML_nil, encLI]) rfl
@[simp] theorem c235_fn1 (s_l : Nat) (z_l : D) (n : Int) : c235.fn [.sl false s_l z_l [], .lit (.int .i64 n)] [] = some ((fun (l : List Int) (n : Int) => l.length ≤ 1099511627776) [] n, (fun (l : List Int) (n : Int) => (dI (indexBy (wantN (fun x => x) n) 0 l) : D)) [] n, (fun (l : List Int) (n : Int) => []) [] n) :=
  mkCon_fn (fun x y h _ => c235_inj x y h) (([], n) : (List Int) × Int) (by simp [nz, nz1, ML_nil, encLI]) rfl
theorem c235_pc (l : List Int) (n : Int) (hpre : l.length ≤ 1099511627776) : PCo Try.prog 235 [encLI l, dI n] (Tab.of []) (dI (indexBy (wantN (fun x => x) n) 0 l)) (Tab.of []) := by
  refine pco_of_run [] (E := ⟨[], []⟩) (m := false) (base := 0) Env.ok_nil G_ok mix 300 6 Try.func235 (by kernel_rfl) rfl (by kernel_rfl) (by kernel_rfl) rfl ?_
  simp [Try.f235]
  refine loop_inv (fun p : Nat => p ≤ l.length ∧ indexBy (wantN (fun x => x) n) 0 l = indexBy (wantN (fun x => x) n) p (l.drop p)) (fun p => [(0, encLI l), (1, dI n), (7, dI l.length), (8, dI p)]) (fun _ => []) 1 (fun p => l.length - p) 0 400 (by simp) (by simp) (by simp) ?_
  intro p ⟨hp, hi⟩
  simp
  refine ⟨fun hlt => ?_, fun hge => ?_⟩
  · rw [indexBy_at (d := 0) hlt] at hi; simp only [wantN, decide_eq_true_eq] at hi
    repeat' (first | omega | refine And.intro ?_ ?_ | intro _)
    all_goals first | exact Again.mk (p + 1) ⟨by omega, by rw [hi]; grind⟩ (by simp) (by first | omega | (simp; omega)) | (rw [hi]; grind)
  · rw [hi, indexBy_end hge]
theorem c235_ok : c235.ok Try.prog := mkCon_ok fun ⟨l, n⟩ hpre => c235_pc l n hpre
/-- slices.Contains[[]in -/
noncomputable def c226 : Con := mkCon 226 false (α := (List Int) × Int) (fun x => (fun (l : List Int) (n : Int) => [encLI l, dI n]) x.1 x.2) (fun _ => []) (fun x => (fun (l : List Int) (n : Int) => l.length ≤ 1099511627776) x.1 x.2) (fun x => (fun (l : List Int) (n : Int) => (dB (decide (n ∈ l)) : D)) x.1 x.2) (fun x => (fun (l : List Int) (n : Int) => []) x.1 x.2)
@[simp] theorem c226_f : c226.f = 226 := rfl
@[simp] theorem c226_own : c226.own = false := rfl
theorem c226_inj : ∀ u_ v_ : (List Int) × Int, ((fun x => (fun (l : List Int) (n : Int) => [encLI l, dI n]) x.1 x.2) u_).map nz = ((fun x => (fun (l : List Int) (n : Int) => [encLI l, dI n]) x.1 x.2) v_).map nz → u_ = v_ := by
  intro u_ v_ h
  obtain ⟨l, n⟩ := u_
  obtain ⟨l', n'⟩ := v_
  simp [nz_lit, nz1_lit, nz_agg, nz_sl, nz1_sl, encLI] at h
  first | (simp [h]; done) | (obtain ⟨⟩ := h; simp_all; done) | simp_all
@[simp] theorem c226_fn (l : List Int) (n : Int) : c226.fn [.sl false 1 (.lit (.int .i64 0)) (ML dI l), .lit (.int .i64 n)] [] = some ((fun (l : List Int) (n : Int) => l.length ≤ 1099511627776) l n, (fun (l : List Int) (n : Int) => (dB (decide (n ∈ l)) : D)) l n, (fun (l : List Int) (n : Int) => []) l n) :=
  mkCon_fn (fun x y h _ => c226_inj x y h) ((l, n) : (List Int) × Int) (by simp [nz, nz1, ML_nil, encLI]) rfl
@[simp] theorem c226_fn1 (s_l : Nat) (z_l : D) (n : Int) : c226.fn [.sl false s_l z_l [], .lit (.int .i64 n)] [] = some ((fun (l : List Int) (n : Int) => l.length ≤ 1099511627776) [] n, (fun (l : List Int) (n : Int) => (dB (decide (n ∈ l)) : D)) [] n, (fun (l : List Int) (n : Int) => []) [] n) :=
  mkCon_fn (fun x y h _ => c226_inj x y h) (([], n) : (List Int) × Int) (by simp [nz, nz1, ML_nil, encLI]) rfl
theorem c226_pc (l : List Int) (n : Int) (hpre : l.length ≤ 1099511627776) : PCo Try.prog 226 [encLI l, dI n] (Tab.of []) (dB (decide (n ∈ l))) (Tab.of []) := by
  refine pco_of_run [] (E := ⟨[c235], []⟩) (m := false) (base := 0) (Env.ok_cons c235_ok Env.ok_nil) G_ok mix 300 6 Try.func226 (by kernel_rfl) rfl (by kernel_rfl) (by kernel_rfl) rfl ?_
  simp [Try.f226]
  refine ⟨hpre, ?_⟩
  exact indexBy_mem l 0 (by omega)
theorem c226_ok : c226.ok Try.prog := mkCon_ok fun ⟨l, n⟩ hpre => c226_pc l n hpre
/-- loop.example/g03007/spec.l8Has -/
noncomputable def c153 : Con := mkCon 153 false (α := (List Int) × Int) (fun x => (fun (l : List Int) (n : Int) => [encLI l, dI n]) x.1 x.2) (fun _ => []) (fun x => (fun (l : List Int) (n : Int) => l.length ≤ 1099511627776) x.1 x.2) (fun x => (fun (l : List Int) (n : Int) => (dB (decide (n ∈ l)) : D)) x.1 x.2) (fun x => (fun (l : List Int) (n : Int) => []) x.1 x.2)
@[simp] theorem c153_f : c153.f = 153 := rfl
@[simp] theorem c153_own : c153.own = false := rfl
theorem c153_inj : ∀ u_ v_ : (List Int) × Int, ((fun x => (fun (l : List Int) (n : Int) => [encLI l, dI n]) x.1 x.2) u_).map nz = ((fun x => (fun (l : List Int) (n : Int) => [encLI l, dI n]) x.1 x.2) v_).map nz → u_ = v_ := by
  intro u_ v_ h
  obtain ⟨l, n⟩ := u_
  obtain ⟨l', n'⟩ := v_
  simp [nz_lit, nz1_lit, nz_agg, nz_sl, nz1_sl, encLI] at h
  first | (simp [h]; done) | (obtain ⟨⟩ := h; simp_all; done) | simp_all
@[simp] theorem c153_fn (l : List Int) (n : Int) : c153.fn [.sl false 1 (.lit (.int .i64 0)) (ML dI l), .lit (.int .i64 n)] [] = some ((fun (l : List Int) (n : Int) => l.length ≤ 1099511627776) l n, (fun (l : List Int) (n : Int) => (dB (decide (n ∈ l)) : D)) l n, (fun (l : List Int) (n : Int) => []) l n) :=
  mkCon_fn (fun x y h _ => c153_inj x y h) ((l, n) : (List Int) × Int) (by simp [nz, nz1, ML_nil, encLI]) rfl
@[simp] theorem c153_fn1 (s_l : Nat) (z_l : D) (n : Int) : c153.fn [.sl false s_l z_l [], .lit (.int .i64 n)] [] = some ((fun (l : List Int) (n : Int) => l.length ≤ 1099511627776) [] n, (fun (l : List Int) (n : Int) => (dB (decide (n ∈ l)) : D)) [] n, (fun (l : List Int) (n : Int) => []) [] n) :=
  mkCon_fn (fun x y h _ => c153_inj x y h) (([], n) : (List Int) × Int) (by simp [nz, nz1, ML_nil, encLI]) rfl
theorem c153_pc (l : List Int) (n : Int) (hpre : l.length ≤ 1099511627776) : PCo Try.prog 153 [encLI l, dI n] (Tab.of []) (dB (decide (n ∈ l))) (Tab.of []) := by
  refine pco_of_run [] (E := ⟨[], []⟩) (m := false) (base := 0) Env.ok_nil G_ok mix 300 6 Try.func153 (by kernel_rfl) rfl (by kernel_rfl) (by kernel_rfl) rfl ?_
  simp [Try.f153]
  refine loop_inv (fun p : Nat => p ≤ l.length ∧ (n ∈ l ↔ n ∈ l.drop p)) (fun p => [(0, encLI l), (1, dI n), (4, dB false), (5, dI p)]) (fun _ => []) 1 (fun p => l.length - p) 0 400 (by simp) (by simp) (by simp) ?_
  intro p ⟨hp, hi⟩
  simp
  refine ⟨fun hlt => ?_, fun hge => ?_⟩
  · rw [mem_at hlt] at hi
    repeat' (first | omega | refine And.intro ?_ ?_ | intro _)
    all_goals first | exact Again.mk (p + 1) ⟨by omega, by rw [hi]; grind⟩ (by simp) (by first | omega | (simp; omega)) | grind
  · have := mem_end (n := n) hge; grind
theorem c153_ok : c153.ok Try.prog := mkCon_ok fun ⟨l, n⟩ hpre => c153_pc l n hpre
def mAllows (l : List Int) (n : Int) : Bool := decide (l.length = 0) || decide (n ∈ l)
/-- loop.example/g03007/impl.allows -/
noncomputable def c200 : Con := mkCon 200 false (α := (List Int) × Int) (fun x => (fun (l : List Int) (n : Int) => [encLI l, dI n]) x.1 x.2) (fun _ => []) (fun x => (fun (l : List Int) (n : Int) => l.length ≤ 1099511627776) x.1 x.2) (fun x => (fun (l : List Int) (n : Int) => (dB (mAllows l n) : D)) x.1 x.2) (fun x => (fun (l : List Int) (n : Int) => []) x.1 x.2)
@[simp] theorem c200_f : c200.f = 200 := rfl
@[simp] theorem c200_own : c200.own = false := rfl
theorem c200_inj : ∀ u_ v_ : (List Int) × Int, ((fun x => (fun (l : List Int) (n : Int) => [encLI l, dI n]) x.1 x.2) u_).map nz = ((fun x => (fun (l : List Int) (n : Int) => [encLI l, dI n]) x.1 x.2) v_).map nz → u_ = v_ := by
  intro u_ v_ h
  obtain ⟨l, n⟩ := u_
  obtain ⟨l', n'⟩ := v_
  simp [nz_lit, nz1_lit, nz_agg, nz_sl, nz1_sl, encLI] at h
  first | (simp [h]; done) | (obtain ⟨⟩ := h; simp_all; done) | simp_all
@[simp] theorem c200_fn (l : List Int) (n : Int) : c200.fn [.sl false 1 (.lit (.int .i64 0)) (ML dI l), .lit (.int .i64 n)] [] = some ((fun (l : List Int) (n : Int) => l.length ≤ 1099511627776) l n, (fun (l : List Int) (n : Int) => (dB (mAllows l n) : D)) l n, (fun (l : List Int) (n : Int) => []) l n) :=
  mkCon_fn (fun x y h _ => c200_inj x y h) ((l, n) : (List Int) × Int) (by simp [nz, nz1, ML_nil, encLI]) rfl
@[simp] theorem c200_fn1 (s_l : Nat) (z_l : D) (n : Int) : c200.fn [.sl false s_l z_l [], .lit (.int .i64 n)] [] = some ((fun (l : List Int) (n : Int) => l.length ≤ 1099511627776) [] n, (fun (l : List Int) (n : Int) => (dB (mAllows l n) : D)) [] n, (fun (l : List Int) (n : Int) => []) [] n) :=
  mkCon_fn (fun x y h _ => c200_inj x y h) (([], n) : (List Int) × Int) (by simp [nz, nz1, ML_nil, encLI]) rfl
theorem c200_pc (l : List Int) (n : Int) (hpre : l.length ≤ 1099511627776) : PCo Try.prog 200 [encLI l, dI n] (Tab.of []) (dB (mAllows l n)) (Tab.of []) := by
  refine pco_of_run [] (E := ⟨[c226], []⟩) (m := false) (base := 0) (Env.ok_cons c226_ok Env.ok_nil) G_ok mix 300 6 Try.func200 (by kernel_rfl) rfl (by kernel_rfl) (by kernel_rfl) rfl ?_
  simp [Try.f200]
  simp [mAllows, hpre]
  first | rfl | omega | (rw [Bool.eq_iff_iff]; simp; done) | (rw [Bool.eq_iff_iff]; simp; omega) | (rw [Bool.eq_iff_iff]; simp; grind) | grind
theorem c200_ok : c200.ok Try.prog := mkCon_ok fun ⟨l, n⟩ hpre => c200_pc l n hpre
/-- loop.example/g03007/impl.matchChecks$1 -/
noncomputable def c197 : Con := mkCon 197 false (α := TReport × TFind) (fun x => (fun (r : TReport) (f : TFind) => [encTReport r, encTFind f]) x.1 x.2) (fun _ => []) (fun x => (fun (r : TReport) (f : TFind) => smR r) x.1 x.2) (fun x => (fun (r : TReport) (f : TFind) => (dB (mIsReport r && mIsFind f) : D)) x.1 x.2) (fun x => (fun (r : TReport) (f : TFind) => []) x.1 x.2)
@[simp] theorem c197_f : c197.f = 197 := rfl
@[simp] theorem c197_own : c197.own = false := rfl
theorem c197_inj : ∀ u_ v_ : TReport × TFind, ((fun x => (fun (r : TReport) (f : TFind) => [encTReport r, encTFind f]) x.1 x.2) u_).map nz = ((fun x => (fun (r : TReport) (f : TFind) => [encTReport r, encTFind f]) x.1 x.2) v_).map nz → u_ = v_ := by
  intro u_ v_ h
  obtain ⟨⟨r_Id, r_Kind, r_Colours, r_SizeLow, r_SizeHigh, r_Places, ⟨r_Span_From, r_Span_Until⟩⟩, ⟨⟨f_Thing_Id, f_Thing_Kind, f_Thing_Colour, f_Thing_Size, f_Thing_Worth⟩, f_Place, f_At, f_Finder⟩⟩ := u_
  obtain ⟨⟨r_Id', r_Kind', r_Colours', r_SizeLow', r_SizeHigh', r_Places', ⟨r_Span_From', r_Span_Until'⟩⟩, ⟨⟨f_Thing_Id', f_Thing_Kind', f_Thing_Colour', f_Thing_Size', f_Thing_Worth'⟩, f_Place', f_At', f_Finder'⟩⟩ := v_
  simp [nz_lit, nz1_lit, nz_agg, nz_sl, nz1_sl, encLI, encTFind, encTReport, encTSpan, encTThing] at h
  first | (simp [h]; done) | (obtain ⟨⟩ := h; simp_all; done) | simp_all
@[simp] theorem c197_fn (r_Id : Int) (r_Kind : Int) (r_Colours : List Int) (r_SizeLow : Int) (r_SizeHigh : Int) (r_Places : List Int) (r_Span_From : Int) (r_Span_Until : Int) (f_Thing_Id : Int) (f_Thing_Kind : Int) (f_Thing_Colour : Int) (f_Thing_Size : Int) (f_Thing_Worth : Int) (f_Place : Int) (f_At : Int) (f_Finder : Int) : c197.fn [.agg [.lit (.int .i64 r_Id), .lit (.int .i64 r_Kind), .sl false 1 (.lit (.int .i64 0)) (ML dI r_Colours), .lit (.int .i64 r_SizeLow), .lit (.int .i64 r_SizeHigh), .sl false 1 (.lit (.int .i64 0)) (ML dI r_Places), .lit (.int .i64 r_Span_From), .lit (.int .i64 r_Span_Until)], .agg [.lit (.int .i64 f_Thing_Id), .lit (.int .i64 f_Thing_Kind), .lit (.int .i64 f_Thing_Colour), .lit (.int .i64 f_Thing_Size), .lit (.int .i64 f_Thing_Worth), .lit (.int .i64 f_Place), .lit (.int .i64 f_At), .lit (.int .i64 f_Finder)]] [] = some ((fun (r : TReport) (f : TFind) => smR r) ⟨r_Id, r_Kind, r_Colours, r_SizeLow, r_SizeHigh, r_Places, ⟨r_Span_From, r_Span_Until⟩⟩ ⟨⟨f_Thing_Id, f_Thing_Kind, f_Thing_Colour, f_Thing_Size, f_Thing_Worth⟩, f_Place, f_At, f_Finder⟩, (fun (r : TReport) (f : TFind) => (dB (mIsReport r && mIsFind f) : D)) ⟨r_Id, r_Kind, r_Colours, r_SizeLow, r_SizeHigh, r_Places, ⟨r_Span_From, r_Span_Until⟩⟩ ⟨⟨f_Thing_Id, f_Thing_Kind, f_Thing_Colour, f_Thing_Size, f_Thing_Worth⟩, f_Place, f_At, f_Finder⟩, (fun (r : TReport) (f : TFind) => []) ⟨r_Id, r_Kind, r_Colours, r_SizeLow, r_SizeHigh, r_Places, ⟨r_Span_From, r_Span_Until⟩⟩ ⟨⟨f_Thing_Id, f_Thing_Kind, f_Thing_Colour, f_Thing_Size, f_Thing_Worth⟩, f_Place, f_At, f_Finder⟩) :=
  mkCon_fn (fun x y h _ => c197_inj x y h) ((⟨r_Id, r_Kind, r_Colours, r_SizeLow, r_SizeHigh, r_Places, ⟨r_Span_From, r_Span_Until⟩⟩, ⟨⟨f_Thing_Id, f_Thing_Kind, f_Thing_Colour, f_Thing_Size, f_Thing_Worth⟩, f_Place, f_At, f_Finder⟩) : TReport × TFind) (by simp [nz, nz1, ML_nil, encLI, encTFind, encTReport, encTSpan, encTThing]) rfl
theorem c197_pc (r : TReport) (f : TFind) (hpre : smR r) : PCo Try.prog 197 [encTReport r, encTFind f] (Tab.of []) (dB (mIsReport r && mIsFind f)) (Tab.of []) := by
  obtain ⟨r_Id, r_Kind, r_Colours, r_SizeLow, r_SizeHigh, r_Places, ⟨r_Span_From, r_Span_Until⟩⟩ := r
  obtain ⟨⟨f_Thing_Id, f_Thing_Kind, f_Thing_Colour, f_Thing_Size, f_Thing_Worth⟩, f_Place, f_At, f_Finder⟩ := f
  refine pco_of_run [] (E := ⟨[c33, c56], []⟩) (m := false) (base := 0) (Env.ok_cons c33_ok (Env.ok_cons c56_ok Env.ok_nil)) G_ok mix 300 6 Try.func197 (by kernel_rfl) rfl (by kernel_rfl) (by kernel_rfl) rfl ?_
  simp [Try.f197]
  simp at hpre
  simp [hpre]
theorem c197_ok : c197.ok Try.prog := mkCon_ok fun ⟨r, f⟩ hpre => c197_pc r f hpre
/-- loop.example/g03007/impl.matchChecks$2 -/
noncomputable def c198 : Con := mkCon 198 false (α := TReport × TFind) (fun x => (fun (r : TReport) (f : TFind) => [encTReport r, encTFind f]) x.1 x.2) (fun _ => []) (fun x => (fun (r : TReport) (f : TFind) => smR r) x.1 x.2) (fun x => (fun (r : TReport) (f : TFind) => (dB (decide (r.Kind = f.Thing.Kind)) : D)) x.1 x.2) (fun x => (fun (r : TReport) (f : TFind) => []) x.1 x.2)
@[simp] theorem c198_f : c198.f = 198 := rfl
@[simp] theorem c198_own : c198.own = false := rfl
theorem c198_inj : ∀ u_ v_ : TReport × TFind, ((fun x => (fun (r : TReport) (f : TFind) => [encTReport r, encTFind f]) x.1 x.2) u_).map nz = ((fun x => (fun (r : TReport) (f : TFind) => [encTReport r, encTFind f]) x.1 x.2) v_).map nz → u_ = v_ := by
  intro u_ v_ h
  obtain ⟨⟨r_Id, r_Kind, r_Colours, r_SizeLow, r_SizeHigh, r_Places, ⟨r_Span_From, r_Span_Until⟩⟩, ⟨⟨f_Thing_Id, f_Thing_Kind, f_Thing_Colour, f_Thing_Size, f_Thing_Worth⟩, f_Place, f_At, f_Finder⟩⟩ := u_
  obtain ⟨⟨r_Id', r_Kind', r_Colours', r_SizeLow', r_SizeHigh', r_Places', ⟨r_Span_From', r_Span_Until'⟩⟩, ⟨⟨f_Thing_Id', f_Thing_Kind', f_Thing_Colour', f_Thing_Size', f_Thing_Worth'⟩, f_Place', f_At', f_Finder'⟩⟩ := v_
  simp [nz_lit, nz1_lit, nz_agg, nz_sl, nz1_sl, encLI, encTFind, encTReport, encTSpan, encTThing] at h
  first | (simp [h]; done) | (obtain ⟨⟩ := h; simp_all; done) | simp_all
@[simp] theorem c198_fn (r_Id : Int) (r_Kind : Int) (r_Colours : List Int) (r_SizeLow : Int) (r_SizeHigh : Int) (r_Places : List Int) (r_Span_From : Int) (r_Span_Until : Int) (f_Thing_Id : Int) (f_Thing_Kind : Int) (f_Thing_Colour : Int) (f_Thing_Size : Int) (f_Thing_Worth : Int) (f_Place : Int) (f_At : Int) (f_Finder : Int) : c198.fn [.agg [.lit (.int .i64 r_Id), .lit (.int .i64 r_Kind), .sl false 1 (.lit (.int .i64 0)) (ML dI r_Colours), .lit (.int .i64 r_SizeLow), .lit (.int .i64 r_SizeHigh), .sl false 1 (.lit (.int .i64 0)) (ML dI r_Places), .lit (.int .i64 r_Span_From), .lit (.int .i64 r_Span_Until)], .agg [.lit (.int .i64 f_Thing_Id), .lit (.int .i64 f_Thing_Kind), .lit (.int .i64 f_Thing_Colour), .lit (.int .i64 f_Thing_Size), .lit (.int .i64 f_Thing_Worth), .lit (.int .i64 f_Place), .lit (.int .i64 f_At), .lit (.int .i64 f_Finder)]] [] = some ((fun (r : TReport) (f : TFind) => smR r) ⟨r_Id, r_Kind, r_Colours, r_SizeLow, r_SizeHigh, r_Places, ⟨r_Span_From, r_Span_Until⟩⟩ ⟨⟨f_Thing_Id, f_Thing_Kind, f_Thing_Colour, f_Thing_Size, f_Thing_Worth⟩, f_Place, f_At, f_Finder⟩, (fun (r : TReport) (f : TFind) => (dB (decide (r.Kind = f.Thing.Kind)) : D)) ⟨r_Id, r_Kind, r_Colours, r_SizeLow, r_SizeHigh, r_Places, ⟨r_Span_From, r_Span_Until⟩⟩ ⟨⟨f_Thing_Id, f_Thing_Kind, f_Thing_Colour, f_Thing_Size, f_Thing_Worth⟩, f_Place, f_At, f_Finder⟩, (fun (r : TReport) (f : TFind) => []) ⟨r_Id, r_Kind, r_Colours, r_SizeLow, r_SizeHigh, r_Places, ⟨r_Span_From, r_Span_Until⟩⟩ ⟨⟨f_Thing_Id, f_Thing_Kind, f_Thing_Colour, f_Thing_Size, f_Thing_Worth⟩, f_Place, f_At, f_Finder⟩) :=
  mkCon_fn (fun x y h _ => c198_inj x y h) ((⟨r_Id, r_Kind, r_Colours, r_SizeLow, r_SizeHigh, r_Places, ⟨r_Span_From, r_Span_Until⟩⟩, ⟨⟨f_Thing_Id, f_Thing_Kind, f_Thing_Colour, f_Thing_Size, f_Thing_Worth⟩, f_Place, f_At, f_Finder⟩) : TReport × TFind) (by simp [nz, nz1, ML_nil, encLI, encTFind, encTReport, encTSpan, encTThing]) rfl
theorem c198_pc (r : TReport) (f : TFind) (hpre : smR r) : PCo Try.prog 198 [encTReport r, encTFind f] (Tab.of []) (dB (decide (r.Kind = f.Thing.Kind))) (Tab.of []) := by
  obtain ⟨r_Id, r_Kind, r_Colours, r_SizeLow, r_SizeHigh, r_Places, ⟨r_Span_From, r_Span_Until⟩⟩ := r
  obtain ⟨⟨f_Thing_Id, f_Thing_Kind, f_Thing_Colour, f_Thing_Size, f_Thing_Worth⟩, f_Place, f_At, f_Finder⟩ := f
  refine pco_of_run [] (E := ⟨[], []⟩) (m := false) (base := 0) Env.ok_nil G_ok mix 300 6 Try.func198 (by kernel_rfl) rfl (by kernel_rfl) (by kernel_rfl) rfl ?_
  simp [Try.f198]
  first | done | rfl
theorem c198_ok : c198.ok Try.prog := mkCon_ok fun ⟨r, f⟩ hpre => c198_pc r f hpre
/-- loop.example/g03007/impl.matchChecks$3 -/
noncomputable def c199 : Con := mkCon 199 false (α := TReport × TFind) (fun x => (fun (r : TReport) (f : TFind) => [encTReport r, encTFind f]) x.1 x.2) (fun _ => []) (fun x => (fun (r : TReport) (f : TFind) => smR r) x.1 x.2) (fun x => (fun (r : TReport) (f : TFind) => (dB (mAllows r.Colours f.Thing.Colour) : D)) x.1 x.2) (fun x => (fun (r : TReport) (f : TFind) => []) x.1 x.2)
@[simp] theorem c199_f : c199.f = 199 := rfl
@[simp] theorem c199_own : c199.own = false := rfl
theorem c199_inj : ∀ u_ v_ : TReport × TFind, ((fun x => (fun (r : TReport) (f : TFind) => [encTReport r, encTFind f]) x.1 x.2) u_).map nz = ((fun x => (fun (r : TReport) (f : TFind) => [encTReport r, encTFind f]) x.1 x.2) v_).map nz → u_ = v_ := by
  intro u_ v_ h
  obtain ⟨⟨r_Id, r_Kind, r_Colours, r_SizeLow, r_SizeHigh, r_Places, ⟨r_Span_From, r_Span_Until⟩⟩, ⟨⟨f_Thing_Id, f_Thing_Kind, f_Thing_Colour, f_Thing_Size, f_Thing_Worth⟩, f_Place, f_At, f_Finder⟩⟩ := u_
  obtain ⟨⟨r_Id', r_Kind', r_Colours', r_SizeLow', r_SizeHigh', r_Places', ⟨r_Span_From', r_Span_Until'⟩⟩, ⟨⟨f_Thing_Id', f_Thing_Kind', f_Thing_Colour', f_Thing_Size', f_Thing_Worth'⟩, f_Place', f_At', f_Finder'⟩⟩ := v_
  simp [nz_lit, nz1_lit, nz_agg, nz_sl, nz1_sl, encLI, encTFind, encTReport, encTSpan, encTThing] at h
  first | (simp [h]; done) | (obtain ⟨⟩ := h; simp_all; done) | simp_all
@[simp] theorem c199_fn (r_Id : Int) (r_Kind : Int) (r_Colours : List Int) (r_SizeLow : Int) (r_SizeHigh : Int) (r_Places : List Int) (r_Span_From : Int) (r_Span_Until : Int) (f_Thing_Id : Int) (f_Thing_Kind : Int) (f_Thing_Colour : Int) (f_Thing_Size : Int) (f_Thing_Worth : Int) (f_Place : Int) (f_At : Int) (f_Finder : Int) : c199.fn [.agg [.lit (.int .i64 r_Id), .lit (.int .i64 r_Kind), .sl false 1 (.lit (.int .i64 0)) (ML dI r_Colours), .lit (.int .i64 r_SizeLow), .lit (.int .i64 r_SizeHigh), .sl false 1 (.lit (.int .i64 0)) (ML dI r_Places), .lit (.int .i64 r_Span_From), .lit (.int .i64 r_Span_Until)], .agg [.lit (.int .i64 f_Thing_Id), .lit (.int .i64 f_Thing_Kind), .lit (.int .i64 f_Thing_Colour), .lit (.int .i64 f_Thing_Size), .lit (.int .i64 f_Thing_Worth), .lit (.int .i64 f_Place), .lit (.int .i64 f_At), .lit (.int .i64 f_Finder)]] [] = some ((fun (r : TReport) (f : TFind) => smR r) ⟨r_Id, r_Kind, r_Colours, r_SizeLow, r_SizeHigh, r_Places, ⟨r_Span_From, r_Span_Until⟩⟩ ⟨⟨f_Thing_Id, f_Thing_Kind, f_Thing_Colour, f_Thing_Size, f_Thing_Worth⟩, f_Place, f_At, f_Finder⟩, (fun (r : TReport) (f : TFind) => (dB (mAllows r.Colours f.Thing.Colour) : D)) ⟨r_Id, r_Kind, r_Colours, r_SizeLow, r_SizeHigh, r_Places, ⟨r_Span_From, r_Span_Until⟩⟩ ⟨⟨f_Thing_Id, f_Thing_Kind, f_Thing_Colour, f_Thing_Size, f_Thing_Worth⟩, f_Place, f_At, f_Finder⟩, (fun (r : TReport) (f : TFind) => []) ⟨r_Id, r_Kind, r_Colours, r_SizeLow, r_SizeHigh, r_Places, ⟨r_Span_From, r_Span_Until⟩⟩ ⟨⟨f_Thing_Id, f_Thing_Kind, f_Thing_Colour, f_Thing_Size, f_Thing_Worth⟩, f_Place, f_At, f_Finder⟩) :=
  mkCon_fn (fun x y h _ => c199_inj x y h) ((⟨r_Id, r_Kind, r_Colours, r_SizeLow, r_SizeHigh, r_Places, ⟨r_Span_From, r_Span_Until⟩⟩, ⟨⟨f_Thing_Id, f_Thing_Kind, f_Thing_Colour, f_Thing_Size, f_Thing_Worth⟩, f_Place, f_At, f_Finder⟩) : TReport × TFind) (by simp [nz, nz1, ML_nil, encLI, encTFind, encTReport, encTSpan, encTThing]) rfl
theorem c199_pc (r : TReport) (f : TFind) (hpre : smR r) : PCo Try.prog 199 [encTReport r, encTFind f] (Tab.of []) (dB (mAllows r.Colours f.Thing.Colour)) (Tab.of []) := by
  obtain ⟨r_Id, r_Kind, r_Colours, r_SizeLow, r_SizeHigh, r_Places, ⟨r_Span_From, r_Span_Until⟩⟩ := r
  obtain ⟨⟨f_Thing_Id, f_Thing_Kind, f_Thing_Colour, f_Thing_Size, f_Thing_Worth⟩, f_Place, f_At, f_Finder⟩ := f
  refine pco_of_run [] (E := ⟨[c200], []⟩) (m := false) (base := 0) (Env.ok_cons c200_ok Env.ok_nil) G_ok mix 300 6 Try.func199 (by kernel_rfl) rfl (by kernel_rfl) (by kernel_rfl) rfl ?_
  simp [Try.f199]
  simp at hpre
  simp [hpre]
theorem c199_ok : c199.ok Try.prog := mkCon_ok fun ⟨r, f⟩ hpre => c199_pc r f hpre
/-- loop.example/g03007/impl.matchChecks$4 -/
noncomputable def c201 : Con := mkCon 201 false (α := TReport × TFind) (fun x => (fun (r : TReport) (f : TFind) => [encTReport r, encTFind f]) x.1 x.2) (fun _ => []) (fun x => (fun (r : TReport) (f : TFind) => smR r) x.1 x.2) (fun x => (fun (r : TReport) (f : TFind) => (dB (mIn f.Thing.Size r.SizeLow r.SizeHigh) : D)) x.1 x.2) (fun x => (fun (r : TReport) (f : TFind) => []) x.1 x.2)
@[simp] theorem c201_f : c201.f = 201 := rfl
@[simp] theorem c201_own : c201.own = false := rfl
theorem c201_inj : ∀ u_ v_ : TReport × TFind, ((fun x => (fun (r : TReport) (f : TFind) => [encTReport r, encTFind f]) x.1 x.2) u_).map nz = ((fun x => (fun (r : TReport) (f : TFind) => [encTReport r, encTFind f]) x.1 x.2) v_).map nz → u_ = v_ := by
  intro u_ v_ h
  obtain ⟨⟨r_Id, r_Kind, r_Colours, r_SizeLow, r_SizeHigh, r_Places, ⟨r_Span_From, r_Span_Until⟩⟩, ⟨⟨f_Thing_Id, f_Thing_Kind, f_Thing_Colour, f_Thing_Size, f_Thing_Worth⟩, f_Place, f_At, f_Finder⟩⟩ := u_
  obtain ⟨⟨r_Id', r_Kind', r_Colours', r_SizeLow', r_SizeHigh', r_Places', ⟨r_Span_From', r_Span_Until'⟩⟩, ⟨⟨f_Thing_Id', f_Thing_Kind', f_Thing_Colour', f_Thing_Size', f_Thing_Worth'⟩, f_Place', f_At', f_Finder'⟩⟩ := v_
  simp [nz_lit, nz1_lit, nz_agg, nz_sl, nz1_sl, encLI, encTFind, encTReport, encTSpan, encTThing] at h
  first | (simp [h]; done) | (obtain ⟨⟩ := h; simp_all; done) | simp_all
@[simp] theorem c201_fn (r_Id : Int) (r_Kind : Int) (r_Colours : List Int) (r_SizeLow : Int) (r_SizeHigh : Int) (r_Places : List Int) (r_Span_From : Int) (r_Span_Until : Int) (f_Thing_Id : Int) (f_Thing_Kind : Int) (f_Thing_Colour : Int) (f_Thing_Size : Int) (f_Thing_Worth : Int) (f_Place : Int) (f_At : Int) (f_Finder : Int) : c201.fn [.agg [.lit (.int .i64 r_Id), .lit (.int .i64 r_Kind), .sl false 1 (.lit (.int .i64 0)) (ML dI r_Colours), .lit (.int .i64 r_SizeLow), .lit (.int .i64 r_SizeHigh), .sl false 1 (.lit (.int .i64 0)) (ML dI r_Places), .lit (.int .i64 r_Span_From), .lit (.int .i64 r_Span_Until)], .agg [.lit (.int .i64 f_Thing_Id), .lit (.int .i64 f_Thing_Kind), .lit (.int .i64 f_Thing_Colour), .lit (.int .i64 f_Thing_Size), .lit (.int .i64 f_Thing_Worth), .lit (.int .i64 f_Place), .lit (.int .i64 f_At), .lit (.int .i64 f_Finder)]] [] = some ((fun (r : TReport) (f : TFind) => smR r) ⟨r_Id, r_Kind, r_Colours, r_SizeLow, r_SizeHigh, r_Places, ⟨r_Span_From, r_Span_Until⟩⟩ ⟨⟨f_Thing_Id, f_Thing_Kind, f_Thing_Colour, f_Thing_Size, f_Thing_Worth⟩, f_Place, f_At, f_Finder⟩, (fun (r : TReport) (f : TFind) => (dB (mIn f.Thing.Size r.SizeLow r.SizeHigh) : D)) ⟨r_Id, r_Kind, r_Colours, r_SizeLow, r_SizeHigh, r_Places, ⟨r_Span_From, r_Span_Until⟩⟩ ⟨⟨f_Thing_Id, f_Thing_Kind, f_Thing_Colour, f_Thing_Size, f_Thing_Worth⟩, f_Place, f_At, f_Finder⟩, (fun (r : TReport) (f : TFind) => []) ⟨r_Id, r_Kind, r_Colours, r_SizeLow, r_SizeHigh, r_Places, ⟨r_Span_From, r_Span_Until⟩⟩ ⟨⟨f_Thing_Id, f_Thing_Kind, f_Thing_Colour, f_Thing_Size, f_Thing_Worth⟩, f_Place, f_At, f_Finder⟩) :=
  mkCon_fn (fun x y h _ => c201_inj x y h) ((⟨r_Id, r_Kind, r_Colours, r_SizeLow, r_SizeHigh, r_Places, ⟨r_Span_From, r_Span_Until⟩⟩, ⟨⟨f_Thing_Id, f_Thing_Kind, f_Thing_Colour, f_Thing_Size, f_Thing_Worth⟩, f_Place, f_At, f_Finder⟩) : TReport × TFind) (by simp [nz, nz1, ML_nil, encLI, encTFind, encTReport, encTSpan, encTThing]) rfl
theorem c201_pc (r : TReport) (f : TFind) (hpre : smR r) : PCo Try.prog 201 [encTReport r, encTFind f] (Tab.of []) (dB (mIn f.Thing.Size r.SizeLow r.SizeHigh)) (Tab.of []) := by
  obtain ⟨r_Id, r_Kind, r_Colours, r_SizeLow, r_SizeHigh, r_Places, ⟨r_Span_From, r_Span_Until⟩⟩ := r
  obtain ⟨⟨f_Thing_Id, f_Thing_Kind, f_Thing_Colour, f_Thing_Size, f_Thing_Worth⟩, f_Place, f_At, f_Finder⟩ := f
  refine pco_of_run [] (E := ⟨[c135], []⟩) (m := false) (base := 0) (Env.ok_cons c135_ok Env.ok_nil) G_ok mix 300 6 Try.func201 (by kernel_rfl) rfl (by kernel_rfl) (by kernel_rfl) rfl ?_
  simp [Try.f201]
  all_goals first | omega | (rw [Bool.eq_iff_iff]; simp; omega) | grind
theorem c201_ok : c201.ok Try.prog := mkCon_ok fun ⟨r, f⟩ hpre => c201_pc r f hpre
/-- loop.example/g03007/impl.matchChecks$5 -/
noncomputable def c202 : Con := mkCon 202 false (α := TReport × TFind) (fun x => (fun (r : TReport) (f : TFind) => [encTReport r, encTFind f]) x.1 x.2) (fun _ => []) (fun x => (fun (r : TReport) (f : TFind) => smR r) x.1 x.2) (fun x => (fun (r : TReport) (f : TFind) => (dB (mAllows r.Places f.Place) : D)) x.1 x.2) (fun x => (fun (r : TReport) (f : TFind) => []) x.1 x.2)
@[simp] theorem c202_f : c202.f = 202 := rfl
@[simp] theorem c202_own : c202.own = false := rfl
theorem c202_inj : ∀ u_ v_ : TReport × TFind, ((fun x => (fun (r : TReport) (f : TFind) => [encTReport r, encTFind f]) x.1 x.2) u_).map nz = ((fun x => (fun (r : TReport) (f : TFind) => [encTReport r, encTFind f]) x.1 x.2) v_).map nz → u_ = v_ := by
  intro u_ v_ h
  obtain ⟨⟨r_Id, r_Kind, r_Colours, r_SizeLow, r_SizeHigh, r_Places, ⟨r_Span_From, r_Span_Until⟩⟩, ⟨⟨f_Thing_Id, f_Thing_Kind, f_Thing_Colour, f_Thing_Size, f_Thing_Worth⟩, f_Place, f_At, f_Finder⟩⟩ := u_
  obtain ⟨⟨r_Id', r_Kind', r_Colours', r_SizeLow', r_SizeHigh', r_Places', ⟨r_Span_From', r_Span_Until'⟩⟩, ⟨⟨f_Thing_Id', f_Thing_Kind', f_Thing_Colour', f_Thing_Size', f_Thing_Worth'⟩, f_Place', f_At', f_Finder'⟩⟩ := v_
  simp [nz_lit, nz1_lit, nz_agg, nz_sl, nz1_sl, encLI, encTFind, encTReport, encTSpan, encTThing] at h
  first | (simp [h]; done) | (obtain ⟨⟩ := h; simp_all; done) | simp_all
@[simp] theorem c202_fn (r_Id : Int) (r_Kind : Int) (r_Colours : List Int) (r_SizeLow : Int) (r_SizeHigh : Int) (r_Places : List Int) (r_Span_From : Int) (r_Span_Until : Int) (f_Thing_Id : Int) (f_Thing_Kind : Int) (f_Thing_Colour : Int) (f_Thing_Size : Int) (f_Thing_Worth : Int) (f_Place : Int) (f_At : Int) (f_Finder : Int) : c202.fn [.agg [.lit (.int .i64 r_Id), .lit (.int .i64 r_Kind), .sl false 1 (.lit (.int .i64 0)) (ML dI r_Colours), .lit (.int .i64 r_SizeLow), .lit (.int .i64 r_SizeHigh), .sl false 1 (.lit (.int .i64 0)) (ML dI r_Places), .lit (.int .i64 r_Span_From), .lit (.int .i64 r_Span_Until)], .agg [.lit (.int .i64 f_Thing_Id), .lit (.int .i64 f_Thing_Kind), .lit (.int .i64 f_Thing_Colour), .lit (.int .i64 f_Thing_Size), .lit (.int .i64 f_Thing_Worth), .lit (.int .i64 f_Place), .lit (.int .i64 f_At), .lit (.int .i64 f_Finder)]] [] = some ((fun (r : TReport) (f : TFind) => smR r) ⟨r_Id, r_Kind, r_Colours, r_SizeLow, r_SizeHigh, r_Places, ⟨r_Span_From, r_Span_Until⟩⟩ ⟨⟨f_Thing_Id, f_Thing_Kind, f_Thing_Colour, f_Thing_Size, f_Thing_Worth⟩, f_Place, f_At, f_Finder⟩, (fun (r : TReport) (f : TFind) => (dB (mAllows r.Places f.Place) : D)) ⟨r_Id, r_Kind, r_Colours, r_SizeLow, r_SizeHigh, r_Places, ⟨r_Span_From, r_Span_Until⟩⟩ ⟨⟨f_Thing_Id, f_Thing_Kind, f_Thing_Colour, f_Thing_Size, f_Thing_Worth⟩, f_Place, f_At, f_Finder⟩, (fun (r : TReport) (f : TFind) => []) ⟨r_Id, r_Kind, r_Colours, r_SizeLow, r_SizeHigh, r_Places, ⟨r_Span_From, r_Span_Until⟩⟩ ⟨⟨f_Thing_Id, f_Thing_Kind, f_Thing_Colour, f_Thing_Size, f_Thing_Worth⟩, f_Place, f_At, f_Finder⟩) :=
  mkCon_fn (fun x y h _ => c202_inj x y h) ((⟨r_Id, r_Kind, r_Colours, r_SizeLow, r_SizeHigh, r_Places, ⟨r_Span_From, r_Span_Until⟩⟩, ⟨⟨f_Thing_Id, f_Thing_Kind, f_Thing_Colour, f_Thing_Size, f_Thing_Worth⟩, f_Place, f_At, f_Finder⟩) : TReport × TFind) (by simp [nz, nz1, ML_nil, encLI, encTFind, encTReport, encTSpan, encTThing]) rfl
theorem c202_pc (r : TReport) (f : TFind) (hpre : smR r) : PCo Try.prog 202 [encTReport r, encTFind f] (Tab.of []) (dB (mAllows r.Places f.Place)) (Tab.of []) := by
  obtain ⟨r_Id, r_Kind, r_Colours, r_SizeLow, r_SizeHigh, r_Places, ⟨r_Span_From, r_Span_Until⟩⟩ := r
  obtain ⟨⟨f_Thing_Id, f_Thing_Kind, f_Thing_Colour, f_Thing_Size, f_Thing_Worth⟩, f_Place, f_At, f_Finder⟩ := f
  refine pco_of_run [] (E := ⟨[c200], []⟩) (m := false) (base := 0) (Env.ok_cons c200_ok Env.ok_nil) G_ok mix 300 6 Try.func202 (by kernel_rfl) rfl (by kernel_rfl) (by kernel_rfl) rfl ?_
  simp [Try.f202]
  simp at hpre
  simp [hpre]
theorem c202_ok : c202.ok Try.prog := mkCon_ok fun ⟨r, f⟩ hpre => c202_pc r f hpre
/-- loop.example/g03007/impl.matchChecks$6 -/
noncomputable def c203 : Con := mkCon 203 false (α := TReport × TFind) (fun x => (fun (r : TReport) (f : TFind) => [encTReport r, encTFind f]) x.1 x.2) (fun _ => []) (fun x => (fun (r : TReport) (f : TFind) => smR r) x.1 x.2) (fun x => (fun (r : TReport) (f : TFind) => (dB (decide (r.Span.From ≤ f.At)) : D)) x.1 x.2) (fun x => (fun (r : TReport) (f : TFind) => []) x.1 x.2)
@[simp] theorem c203_f : c203.f = 203 := rfl
@[simp] theorem c203_own : c203.own = false := rfl
theorem c203_inj : ∀ u_ v_ : TReport × TFind, ((fun x => (fun (r : TReport) (f : TFind) => [encTReport r, encTFind f]) x.1 x.2) u_).map nz = ((fun x => (fun (r : TReport) (f : TFind) => [encTReport r, encTFind f]) x.1 x.2) v_).map nz → u_ = v_ := by
  intro u_ v_ h
  obtain ⟨⟨r_Id, r_Kind, r_Colours, r_SizeLow, r_SizeHigh, r_Places, ⟨r_Span_From, r_Span_Until⟩⟩, ⟨⟨f_Thing_Id, f_Thing_Kind, f_Thing_Colour, f_Thing_Size, f_Thing_Worth⟩, f_Place, f_At, f_Finder⟩⟩ := u_
  obtain ⟨⟨r_Id', r_Kind', r_Colours', r_SizeLow', r_SizeHigh', r_Places', ⟨r_Span_From', r_Span_Until'⟩⟩, ⟨⟨f_Thing_Id', f_Thing_Kind', f_Thing_Colour', f_Thing_Size', f_Thing_Worth'⟩, f_Place', f_At', f_Finder'⟩⟩ := v_
  simp [nz_lit, nz1_lit, nz_agg, nz_sl, nz1_sl, encLI, encTFind, encTReport, encTSpan, encTThing] at h
  first | (simp [h]; done) | (obtain ⟨⟩ := h; simp_all; done) | simp_all
@[simp] theorem c203_fn (r_Id : Int) (r_Kind : Int) (r_Colours : List Int) (r_SizeLow : Int) (r_SizeHigh : Int) (r_Places : List Int) (r_Span_From : Int) (r_Span_Until : Int) (f_Thing_Id : Int) (f_Thing_Kind : Int) (f_Thing_Colour : Int) (f_Thing_Size : Int) (f_Thing_Worth : Int) (f_Place : Int) (f_At : Int) (f_Finder : Int) : c203.fn [.agg [.lit (.int .i64 r_Id), .lit (.int .i64 r_Kind), .sl false 1 (.lit (.int .i64 0)) (ML dI r_Colours), .lit (.int .i64 r_SizeLow), .lit (.int .i64 r_SizeHigh), .sl false 1 (.lit (.int .i64 0)) (ML dI r_Places), .lit (.int .i64 r_Span_From), .lit (.int .i64 r_Span_Until)], .agg [.lit (.int .i64 f_Thing_Id), .lit (.int .i64 f_Thing_Kind), .lit (.int .i64 f_Thing_Colour), .lit (.int .i64 f_Thing_Size), .lit (.int .i64 f_Thing_Worth), .lit (.int .i64 f_Place), .lit (.int .i64 f_At), .lit (.int .i64 f_Finder)]] [] = some ((fun (r : TReport) (f : TFind) => smR r) ⟨r_Id, r_Kind, r_Colours, r_SizeLow, r_SizeHigh, r_Places, ⟨r_Span_From, r_Span_Until⟩⟩ ⟨⟨f_Thing_Id, f_Thing_Kind, f_Thing_Colour, f_Thing_Size, f_Thing_Worth⟩, f_Place, f_At, f_Finder⟩, (fun (r : TReport) (f : TFind) => (dB (decide (r.Span.From ≤ f.At)) : D)) ⟨r_Id, r_Kind, r_Colours, r_SizeLow, r_SizeHigh, r_Places, ⟨r_Span_From, r_Span_Until⟩⟩ ⟨⟨f_Thing_Id, f_Thing_Kind, f_Thing_Colour, f_Thing_Size, f_Thing_Worth⟩, f_Place, f_At, f_Finder⟩, (fun (r : TReport) (f : TFind) => []) ⟨r_Id, r_Kind, r_Colours, r_SizeLow, r_SizeHigh, r_Places, ⟨r_Span_From, r_Span_Until⟩⟩ ⟨⟨f_Thing_Id, f_Thing_Kind, f_Thing_Colour, f_Thing_Size, f_Thing_Worth⟩, f_Place, f_At, f_Finder⟩) :=
  mkCon_fn (fun x y h _ => c203_inj x y h) ((⟨r_Id, r_Kind, r_Colours, r_SizeLow, r_SizeHigh, r_Places, ⟨r_Span_From, r_Span_Until⟩⟩, ⟨⟨f_Thing_Id, f_Thing_Kind, f_Thing_Colour, f_Thing_Size, f_Thing_Worth⟩, f_Place, f_At, f_Finder⟩) : TReport × TFind) (by simp [nz, nz1, ML_nil, encLI, encTFind, encTReport, encTSpan, encTThing]) rfl
theorem c203_pc (r : TReport) (f : TFind) (hpre : smR r) : PCo Try.prog 203 [encTReport r, encTFind f] (Tab.of []) (dB (decide (r.Span.From ≤ f.At))) (Tab.of []) := by
  obtain ⟨r_Id, r_Kind, r_Colours, r_SizeLow, r_SizeHigh, r_Places, ⟨r_Span_From, r_Span_Until⟩⟩ := r
  obtain ⟨⟨f_Thing_Id, f_Thing_Kind, f_Thing_Colour, f_Thing_Size, f_Thing_Worth⟩, f_Place, f_At, f_Finder⟩ := f
  refine pco_of_run [] (E := ⟨[], []⟩) (m := false) (base := 0) Env.ok_nil G_ok mix 300 6 Try.func203 (by kernel_rfl) rfl (by kernel_rfl) (by kernel_rfl) rfl ?_
  simp [Try.f203]
  first | done | rfl
theorem c203_ok : c203.ok Try.prog := mkCon_ok fun ⟨r, f⟩ hpre => c203_pc r f hpre
def wInvalid : ByteArray := ⟨#[105, 110, 118, 97, 108, 105, 100]⟩
/-- loop.example/g03007/impl.matchChecks -/
noncomputable def c154 : Con := mkCon 154 false (α := Unit) (fun _ => []) (fun _ => []) (fun _ => True) (fun _ => (.sl false 2 .any [.agg [.lit (.string ⟨#[105, 110, 118, 97, 108, 105, 100]⟩), .fn (.func 197) [] []], .agg [.lit (.string ⟨#[107, 105, 110, 100]⟩), .fn (.func 198) [] []], .agg [.lit (.string ⟨#[99, 111, 108, 111, 117, 114]⟩), .fn (.func 199) [] []], .agg [.lit (.string ⟨#[115, 105, 122, 101]⟩), .fn (.func 201) [] []], .agg [.lit (.string ⟨#[112, 108, 97, 99, 101]⟩), .fn (.func 202) [] []], .agg [.lit (.string ⟨#[116, 105, 109, 101]⟩), .fn (.func 203) [] []]] : D)) (fun _ => [])
@[simp] theorem c154_f : c154.f = 154 := rfl
@[simp] theorem c154_own : c154.own = false := rfl
theorem c154_inj : ∀ x y : Unit, ((fun _ => []) x).map nz = ((fun _ => []) y).map nz → x = y := fun _ _ _ => rfl
@[simp] theorem c154_fn : c154.fn [] [] = some (True, (.sl false 2 .any [.agg [.lit (.string ⟨#[105, 110, 118, 97, 108, 105, 100]⟩), .fn (.func 197) [] []], .agg [.lit (.string ⟨#[107, 105, 110, 100]⟩), .fn (.func 198) [] []], .agg [.lit (.string ⟨#[99, 111, 108, 111, 117, 114]⟩), .fn (.func 199) [] []], .agg [.lit (.string ⟨#[115, 105, 122, 101]⟩), .fn (.func 201) [] []], .agg [.lit (.string ⟨#[112, 108, 97, 99, 101]⟩), .fn (.func 202) [] []], .agg [.lit (.string ⟨#[116, 105, 109, 101]⟩), .fn (.func 203) [] []]] : D), []) :=
  mkCon_fn (fun x y h _ => c154_inj x y h) (() : Unit) (by simp [nz, nz1, ML_nil]) rfl
theorem c154_pc  : PCo Try.prog 154 [] (Tab.of []) (.sl false 2 .any [.agg [.lit (.string ⟨#[105, 110, 118, 97, 108, 105, 100]⟩), .fn (.func 197) [] []], .agg [.lit (.string ⟨#[107, 105, 110, 100]⟩), .fn (.func 198) [] []], .agg [.lit (.string ⟨#[99, 111, 108, 111, 117, 114]⟩), .fn (.func 199) [] []], .agg [.lit (.string ⟨#[115, 105, 122, 101]⟩), .fn (.func 201) [] []], .agg [.lit (.string ⟨#[112, 108, 97, 99, 101]⟩), .fn (.func 202) [] []], .agg [.lit (.string ⟨#[116, 105, 109, 101]⟩), .fn (.func 203) [] []]]) (Tab.of []) := by
  refine pco_of_run [] (E := ⟨[c197, c198, c199, c201, c202, c203], []⟩) (m := false) (base := 0) (Env.ok_cons c197_ok (Env.ok_cons c198_ok (Env.ok_cons c199_ok (Env.ok_cons c201_ok (Env.ok_cons c202_ok (Env.ok_cons c203_ok Env.ok_nil)))))) G_ok mix 300 6 Try.func154 (by kernel_rfl) rfl (by kernel_rfl) (by kernel_rfl) rfl ?_
  simp [Try.f154]
  all_goals first | omega | (rw [Bool.eq_iff_iff]; simp; omega) | grind
theorem c154_ok : c154.ok Try.prog := mkCon_ok fun _ hpre => c154_pc 
def mWhyNot (r : TReport) (f : TFind) : ByteArray := if (mIsReport r && mIsFind f) = false then ⟨#[105, 110, 118, 97, 108, 105, 100]⟩ else if r.Kind ≠ f.Thing.Kind then ⟨#[107, 105, 110, 100]⟩ else if mAllows r.Colours f.Thing.Colour = false then ⟨#[99, 111, 108, 111, 117, 114]⟩ else if mIn f.Thing.Size r.SizeLow r.SizeHigh = false then ⟨#[115, 105, 122, 101]⟩ else if mAllows r.Places f.Place = false then ⟨#[112, 108, 97, 99, 101]⟩ else if f.At < r.Span.From then ⟨#[116, 105, 109, 101]⟩ else ⟨#[]⟩
/-- loop.example/g03007/impl.WhyNot -/
noncomputable def c85 : Con := mkCon 85 false (α := TReport × TFind) (fun x => (fun (r : TReport) (f : TFind) => [encTReport r, encTFind f]) x.1 x.2) (fun _ => []) (fun x => (fun (r : TReport) (f : TFind) => smR r) x.1 x.2) (fun x => (fun (r : TReport) (f : TFind) => (dS (mWhyNot r f) : D)) x.1 x.2) (fun x => (fun (r : TReport) (f : TFind) => []) x.1 x.2)
@[simp] theorem c85_f : c85.f = 85 := rfl
@[simp] theorem c85_own : c85.own = false := rfl
theorem c85_inj : ∀ u_ v_ : TReport × TFind, ((fun x => (fun (r : TReport) (f : TFind) => [encTReport r, encTFind f]) x.1 x.2) u_).map nz = ((fun x => (fun (r : TReport) (f : TFind) => [encTReport r, encTFind f]) x.1 x.2) v_).map nz → u_ = v_ := by
  intro u_ v_ h
  obtain ⟨⟨r_Id, r_Kind, r_Colours, r_SizeLow, r_SizeHigh, r_Places, ⟨r_Span_From, r_Span_Until⟩⟩, ⟨⟨f_Thing_Id, f_Thing_Kind, f_Thing_Colour, f_Thing_Size, f_Thing_Worth⟩, f_Place, f_At, f_Finder⟩⟩ := u_
  obtain ⟨⟨r_Id', r_Kind', r_Colours', r_SizeLow', r_SizeHigh', r_Places', ⟨r_Span_From', r_Span_Until'⟩⟩, ⟨⟨f_Thing_Id', f_Thing_Kind', f_Thing_Colour', f_Thing_Size', f_Thing_Worth'⟩, f_Place', f_At', f_Finder'⟩⟩ := v_
  simp [nz_lit, nz1_lit, nz_agg, nz_sl, nz1_sl, encLI, encTFind, encTReport, encTSpan, encTThing] at h
  first | (simp [h]; done) | (obtain ⟨⟩ := h; simp_all; done) | simp_all
@[simp] theorem c85_fn (r_Id : Int) (r_Kind : Int) (r_Colours : List Int) (r_SizeLow : Int) (r_SizeHigh : Int) (r_Places : List Int) (r_Span_From : Int) (r_Span_Until : Int) (f_Thing_Id : Int) (f_Thing_Kind : Int) (f_Thing_Colour : Int) (f_Thing_Size : Int) (f_Thing_Worth : Int) (f_Place : Int) (f_At : Int) (f_Finder : Int) : c85.fn [.agg [.lit (.int .i64 r_Id), .lit (.int .i64 r_Kind), .sl false 1 (.lit (.int .i64 0)) (ML dI r_Colours), .lit (.int .i64 r_SizeLow), .lit (.int .i64 r_SizeHigh), .sl false 1 (.lit (.int .i64 0)) (ML dI r_Places), .lit (.int .i64 r_Span_From), .lit (.int .i64 r_Span_Until)], .agg [.lit (.int .i64 f_Thing_Id), .lit (.int .i64 f_Thing_Kind), .lit (.int .i64 f_Thing_Colour), .lit (.int .i64 f_Thing_Size), .lit (.int .i64 f_Thing_Worth), .lit (.int .i64 f_Place), .lit (.int .i64 f_At), .lit (.int .i64 f_Finder)]] [] = some ((fun (r : TReport) (f : TFind) => smR r) ⟨r_Id, r_Kind, r_Colours, r_SizeLow, r_SizeHigh, r_Places, ⟨r_Span_From, r_Span_Until⟩⟩ ⟨⟨f_Thing_Id, f_Thing_Kind, f_Thing_Colour, f_Thing_Size, f_Thing_Worth⟩, f_Place, f_At, f_Finder⟩, (fun (r : TReport) (f : TFind) => (dS (mWhyNot r f) : D)) ⟨r_Id, r_Kind, r_Colours, r_SizeLow, r_SizeHigh, r_Places, ⟨r_Span_From, r_Span_Until⟩⟩ ⟨⟨f_Thing_Id, f_Thing_Kind, f_Thing_Colour, f_Thing_Size, f_Thing_Worth⟩, f_Place, f_At, f_Finder⟩, (fun (r : TReport) (f : TFind) => []) ⟨r_Id, r_Kind, r_Colours, r_SizeLow, r_SizeHigh, r_Places, ⟨r_Span_From, r_Span_Until⟩⟩ ⟨⟨f_Thing_Id, f_Thing_Kind, f_Thing_Colour, f_Thing_Size, f_Thing_Worth⟩, f_Place, f_At, f_Finder⟩) :=
  mkCon_fn (fun x y h _ => c85_inj x y h) ((⟨r_Id, r_Kind, r_Colours, r_SizeLow, r_SizeHigh, r_Places, ⟨r_Span_From, r_Span_Until⟩⟩, ⟨⟨f_Thing_Id, f_Thing_Kind, f_Thing_Colour, f_Thing_Size, f_Thing_Worth⟩, f_Place, f_At, f_Finder⟩) : TReport × TFind) (by simp [nz, nz1, ML_nil, encLI, encTFind, encTReport, encTSpan, encTThing]) rfl
theorem c85_pc (r : TReport) (f : TFind) (hpre : smR r) : PCo Try.prog 85 [encTReport r, encTFind f] (Tab.of []) (dS (mWhyNot r f)) (Tab.of []) := by
  refine pco_of_run [] (E := ⟨[c154, c197, c198, c199, c201, c202, c203], []⟩) (m := false) (base := 0) (Env.ok_cons c154_ok (Env.ok_cons c197_ok (Env.ok_cons c198_ok (Env.ok_cons c199_ok (Env.ok_cons c201_ok (Env.ok_cons c202_ok (Env.ok_cons c203_ok Env.ok_nil))))))) G_ok mix 300 6 Try.func85 (by kernel_rfl) rfl (by kernel_rfl) (by kernel_rfl) rfl ?_
  simp at hpre
  simp [Try.f85, hpre]
  refine loop_unroll 600 ?_
  simp [hpre]
  grind [mWhyNot]
theorem c85_ok : c85.ok Try.prog := mkCon_ok fun ⟨r, f⟩ hpre => c85_pc r f hpre
/-- loop.example/g03007/spec.WhyNot -/
noncomputable def c84 : Con := mkCon 84 false (α := TReport × TFind) (fun x => (fun (r : TReport) (f : TFind) => [encTReport r, encTFind f]) x.1 x.2) (fun _ => []) (fun x => (fun (r : TReport) (f : TFind) => smR r) x.1 x.2) (fun x => (fun (r : TReport) (f : TFind) => (dS (mWhyNot r f) : D)) x.1 x.2) (fun x => (fun (r : TReport) (f : TFind) => []) x.1 x.2)
@[simp] theorem c84_f : c84.f = 84 := rfl
@[simp] theorem c84_own : c84.own = false := rfl
theorem c84_inj : ∀ u_ v_ : TReport × TFind, ((fun x => (fun (r : TReport) (f : TFind) => [encTReport r, encTFind f]) x.1 x.2) u_).map nz = ((fun x => (fun (r : TReport) (f : TFind) => [encTReport r, encTFind f]) x.1 x.2) v_).map nz → u_ = v_ := by
  intro u_ v_ h
  obtain ⟨⟨r_Id, r_Kind, r_Colours, r_SizeLow, r_SizeHigh, r_Places, ⟨r_Span_From, r_Span_Until⟩⟩, ⟨⟨f_Thing_Id, f_Thing_Kind, f_Thing_Colour, f_Thing_Size, f_Thing_Worth⟩, f_Place, f_At, f_Finder⟩⟩ := u_
  obtain ⟨⟨r_Id', r_Kind', r_Colours', r_SizeLow', r_SizeHigh', r_Places', ⟨r_Span_From', r_Span_Until'⟩⟩, ⟨⟨f_Thing_Id', f_Thing_Kind', f_Thing_Colour', f_Thing_Size', f_Thing_Worth'⟩, f_Place', f_At', f_Finder'⟩⟩ := v_
  simp [nz_lit, nz1_lit, nz_agg, nz_sl, nz1_sl, encLI, encTFind, encTReport, encTSpan, encTThing] at h
  first | (simp [h]; done) | (obtain ⟨⟩ := h; simp_all; done) | simp_all
@[simp] theorem c84_fn (r_Id : Int) (r_Kind : Int) (r_Colours : List Int) (r_SizeLow : Int) (r_SizeHigh : Int) (r_Places : List Int) (r_Span_From : Int) (r_Span_Until : Int) (f_Thing_Id : Int) (f_Thing_Kind : Int) (f_Thing_Colour : Int) (f_Thing_Size : Int) (f_Thing_Worth : Int) (f_Place : Int) (f_At : Int) (f_Finder : Int) : c84.fn [.agg [.lit (.int .i64 r_Id), .lit (.int .i64 r_Kind), .sl false 1 (.lit (.int .i64 0)) (ML dI r_Colours), .lit (.int .i64 r_SizeLow), .lit (.int .i64 r_SizeHigh), .sl false 1 (.lit (.int .i64 0)) (ML dI r_Places), .lit (.int .i64 r_Span_From), .lit (.int .i64 r_Span_Until)], .agg [.lit (.int .i64 f_Thing_Id), .lit (.int .i64 f_Thing_Kind), .lit (.int .i64 f_Thing_Colour), .lit (.int .i64 f_Thing_Size), .lit (.int .i64 f_Thing_Worth), .lit (.int .i64 f_Place), .lit (.int .i64 f_At), .lit (.int .i64 f_Finder)]] [] = some ((fun (r : TReport) (f : TFind) => smR r) ⟨r_Id, r_Kind, r_Colours, r_SizeLow, r_SizeHigh, r_Places, ⟨r_Span_From, r_Span_Until⟩⟩ ⟨⟨f_Thing_Id, f_Thing_Kind, f_Thing_Colour, f_Thing_Size, f_Thing_Worth⟩, f_Place, f_At, f_Finder⟩, (fun (r : TReport) (f : TFind) => (dS (mWhyNot r f) : D)) ⟨r_Id, r_Kind, r_Colours, r_SizeLow, r_SizeHigh, r_Places, ⟨r_Span_From, r_Span_Until⟩⟩ ⟨⟨f_Thing_Id, f_Thing_Kind, f_Thing_Colour, f_Thing_Size, f_Thing_Worth⟩, f_Place, f_At, f_Finder⟩, (fun (r : TReport) (f : TFind) => []) ⟨r_Id, r_Kind, r_Colours, r_SizeLow, r_SizeHigh, r_Places, ⟨r_Span_From, r_Span_Until⟩⟩ ⟨⟨f_Thing_Id, f_Thing_Kind, f_Thing_Colour, f_Thing_Size, f_Thing_Worth⟩, f_Place, f_At, f_Finder⟩) :=
  mkCon_fn (fun x y h _ => c84_inj x y h) ((⟨r_Id, r_Kind, r_Colours, r_SizeLow, r_SizeHigh, r_Places, ⟨r_Span_From, r_Span_Until⟩⟩, ⟨⟨f_Thing_Id, f_Thing_Kind, f_Thing_Colour, f_Thing_Size, f_Thing_Worth⟩, f_Place, f_At, f_Finder⟩) : TReport × TFind) (by simp [nz, nz1, ML_nil, encLI, encTFind, encTReport, encTSpan, encTThing]) rfl
theorem c84_pc (r : TReport) (f : TFind) (hpre : smR r) : PCo Try.prog 84 [encTReport r, encTFind f] (Tab.of []) (dS (mWhyNot r f)) (Tab.of []) := by
  refine pco_of_run [] (E := ⟨[c31, c54, c117, c153], []⟩) (m := false) (base := 0) (Env.ok_cons c31_ok (Env.ok_cons c54_ok (Env.ok_cons c117_ok (Env.ok_cons c153_ok Env.ok_nil)))) G_ok mix 300 6 Try.func84 (by kernel_rfl) rfl (by kernel_rfl) (by kernel_rfl) rfl ?_
  simp [Try.f84]
  simp at hpre
  simp [hpre]
  grind [mWhyNot, mAllows]
theorem c84_ok : c84.ok Try.prog := mkCon_ok fun ⟨r, f⟩ hpre => c84_pc r f hpre
def mCanBe (r : TReport) (f : TFind) : Bool := mIsReport r && mIsFind f && decide (r.Kind = f.Thing.Kind) && mAllows r.Colours f.Thing.Colour && mIn f.Thing.Size r.SizeLow r.SizeHigh && mAllows r.Places f.Place && decide (r.Span.From ≤ f.At)
theorem canBe_why (r : TReport) (f : TFind) : decide (mWhyNot r f = ⟨#[]⟩) = mCanBe r f := by
  have e1 : ((⟨#[105, 110, 118, 97, 108, 105, 100]⟩ : ByteArray) = ⟨#[]⟩) = False := by simp
  have e2 : ((⟨#[107, 105, 110, 100]⟩ : ByteArray) = ⟨#[]⟩) = False := by simp
  have e3 : ((⟨#[99, 111, 108, 111, 117, 114]⟩ : ByteArray) = ⟨#[]⟩) = False := by simp
  have e4 : ((⟨#[115, 105, 122, 101]⟩ : ByteArray) = ⟨#[]⟩) = False := by simp
  have e5 : ((⟨#[112, 108, 97, 99, 101]⟩ : ByteArray) = ⟨#[]⟩) = False := by simp
  have e6 : ((⟨#[116, 105, 109, 101]⟩ : ByteArray) = ⟨#[]⟩) = False := by simp
  rw [Bool.eq_iff_iff]
  simp only [mWhyNot, mCanBe, decide_eq_true_eq, Bool.and_eq_true]
  (repeat' split) <;> simp_all
  all_goals trace_state
/-- loop.example/g03007/impl.CanBe -/
noncomputable def c75 : Con := mkCon 75 false (α := TReport × TFind) (fun x => (fun (r : TReport) (f : TFind) => [encTReport r, encTFind f]) x.1 x.2) (fun _ => []) (fun x => (fun (r : TReport) (f : TFind) => smR r) x.1 x.2) (fun x => (fun (r : TReport) (f : TFind) => (dB (mCanBe r f) : D)) x.1 x.2) (fun x => (fun (r : TReport) (f : TFind) => []) x.1 x.2)
@[simp] theorem c75_f : c75.f = 75 := rfl
@[simp] theorem c75_own : c75.own = false := rfl
theorem c75_inj : ∀ u_ v_ : TReport × TFind, ((fun x => (fun (r : TReport) (f : TFind) => [encTReport r, encTFind f]) x.1 x.2) u_).map nz = ((fun x => (fun (r : TReport) (f : TFind) => [encTReport r, encTFind f]) x.1 x.2) v_).map nz → u_ = v_ := by
  intro u_ v_ h
  obtain ⟨⟨r_Id, r_Kind, r_Colours, r_SizeLow, r_SizeHigh, r_Places, ⟨r_Span_From, r_Span_Until⟩⟩, ⟨⟨f_Thing_Id, f_Thing_Kind, f_Thing_Colour, f_Thing_Size, f_Thing_Worth⟩, f_Place, f_At, f_Finder⟩⟩ := u_
  obtain ⟨⟨r_Id', r_Kind', r_Colours', r_SizeLow', r_SizeHigh', r_Places', ⟨r_Span_From', r_Span_Until'⟩⟩, ⟨⟨f_Thing_Id', f_Thing_Kind', f_Thing_Colour', f_Thing_Size', f_Thing_Worth'⟩, f_Place', f_At', f_Finder'⟩⟩ := v_
  simp [nz_lit, nz1_lit, nz_agg, nz_sl, nz1_sl, encLI, encTFind, encTReport, encTSpan, encTThing] at h
  first | (simp [h]; done) | (obtain ⟨⟩ := h; simp_all; done) | simp_all
@[simp] theorem c75_fn (r_Id : Int) (r_Kind : Int) (r_Colours : List Int) (r_SizeLow : Int) (r_SizeHigh : Int) (r_Places : List Int) (r_Span_From : Int) (r_Span_Until : Int) (f_Thing_Id : Int) (f_Thing_Kind : Int) (f_Thing_Colour : Int) (f_Thing_Size : Int) (f_Thing_Worth : Int) (f_Place : Int) (f_At : Int) (f_Finder : Int) : c75.fn [.agg [.lit (.int .i64 r_Id), .lit (.int .i64 r_Kind), .sl false 1 (.lit (.int .i64 0)) (ML dI r_Colours), .lit (.int .i64 r_SizeLow), .lit (.int .i64 r_SizeHigh), .sl false 1 (.lit (.int .i64 0)) (ML dI r_Places), .lit (.int .i64 r_Span_From), .lit (.int .i64 r_Span_Until)], .agg [.lit (.int .i64 f_Thing_Id), .lit (.int .i64 f_Thing_Kind), .lit (.int .i64 f_Thing_Colour), .lit (.int .i64 f_Thing_Size), .lit (.int .i64 f_Thing_Worth), .lit (.int .i64 f_Place), .lit (.int .i64 f_At), .lit (.int .i64 f_Finder)]] [] = some ((fun (r : TReport) (f : TFind) => smR r) ⟨r_Id, r_Kind, r_Colours, r_SizeLow, r_SizeHigh, r_Places, ⟨r_Span_From, r_Span_Until⟩⟩ ⟨⟨f_Thing_Id, f_Thing_Kind, f_Thing_Colour, f_Thing_Size, f_Thing_Worth⟩, f_Place, f_At, f_Finder⟩, (fun (r : TReport) (f : TFind) => (dB (mCanBe r f) : D)) ⟨r_Id, r_Kind, r_Colours, r_SizeLow, r_SizeHigh, r_Places, ⟨r_Span_From, r_Span_Until⟩⟩ ⟨⟨f_Thing_Id, f_Thing_Kind, f_Thing_Colour, f_Thing_Size, f_Thing_Worth⟩, f_Place, f_At, f_Finder⟩, (fun (r : TReport) (f : TFind) => []) ⟨r_Id, r_Kind, r_Colours, r_SizeLow, r_SizeHigh, r_Places, ⟨r_Span_From, r_Span_Until⟩⟩ ⟨⟨f_Thing_Id, f_Thing_Kind, f_Thing_Colour, f_Thing_Size, f_Thing_Worth⟩, f_Place, f_At, f_Finder⟩) :=
  mkCon_fn (fun x y h _ => c75_inj x y h) ((⟨r_Id, r_Kind, r_Colours, r_SizeLow, r_SizeHigh, r_Places, ⟨r_Span_From, r_Span_Until⟩⟩, ⟨⟨f_Thing_Id, f_Thing_Kind, f_Thing_Colour, f_Thing_Size, f_Thing_Worth⟩, f_Place, f_At, f_Finder⟩) : TReport × TFind) (by simp [nz, nz1, ML_nil, encLI, encTFind, encTReport, encTSpan, encTThing]) rfl
theorem c75_pc (r : TReport) (f : TFind) (hpre : smR r) : PCo Try.prog 75 [encTReport r, encTFind f] (Tab.of []) (dB (mCanBe r f)) (Tab.of []) := by
  refine pco_of_run [] (E := ⟨[c85], []⟩) (m := false) (base := 0) (Env.ok_cons c85_ok Env.ok_nil) G_ok mix 300 6 Try.func75 (by kernel_rfl) rfl (by kernel_rfl) (by kernel_rfl) rfl ?_
  simp [Try.f75]
  simp at hpre
  simp [hpre, ← canBe_why]
theorem c75_ok : c75.ok Try.prog := mkCon_ok fun ⟨r, f⟩ hpre => c75_pc r f hpre
/-- loop.example/g03007/spec.CanBe -/
noncomputable def c74 : Con := mkCon 74 false (α := TReport × TFind) (fun x => (fun (r : TReport) (f : TFind) => [encTReport r, encTFind f]) x.1 x.2) (fun _ => []) (fun x => (fun (r : TReport) (f : TFind) => smR r) x.1 x.2) (fun x => (fun (r : TReport) (f : TFind) => (dB (mCanBe r f) : D)) x.1 x.2) (fun x => (fun (r : TReport) (f : TFind) => []) x.1 x.2)
@[simp] theorem c74_f : c74.f = 74 := rfl
@[simp] theorem c74_own : c74.own = false := rfl
theorem c74_inj : ∀ u_ v_ : TReport × TFind, ((fun x => (fun (r : TReport) (f : TFind) => [encTReport r, encTFind f]) x.1 x.2) u_).map nz = ((fun x => (fun (r : TReport) (f : TFind) => [encTReport r, encTFind f]) x.1 x.2) v_).map nz → u_ = v_ := by
  intro u_ v_ h
  obtain ⟨⟨r_Id, r_Kind, r_Colours, r_SizeLow, r_SizeHigh, r_Places, ⟨r_Span_From, r_Span_Until⟩⟩, ⟨⟨f_Thing_Id, f_Thing_Kind, f_Thing_Colour, f_Thing_Size, f_Thing_Worth⟩, f_Place, f_At, f_Finder⟩⟩ := u_
  obtain ⟨⟨r_Id', r_Kind', r_Colours', r_SizeLow', r_SizeHigh', r_Places', ⟨r_Span_From', r_Span_Until'⟩⟩, ⟨⟨f_Thing_Id', f_Thing_Kind', f_Thing_Colour', f_Thing_Size', f_Thing_Worth'⟩, f_Place', f_At', f_Finder'⟩⟩ := v_
  simp [nz_lit, nz1_lit, nz_agg, nz_sl, nz1_sl, encLI, encTFind, encTReport, encTSpan, encTThing] at h
  first | (simp [h]; done) | (obtain ⟨⟩ := h; simp_all; done) | simp_all
@[simp] theorem c74_fn (r_Id : Int) (r_Kind : Int) (r_Colours : List Int) (r_SizeLow : Int) (r_SizeHigh : Int) (r_Places : List Int) (r_Span_From : Int) (r_Span_Until : Int) (f_Thing_Id : Int) (f_Thing_Kind : Int) (f_Thing_Colour : Int) (f_Thing_Size : Int) (f_Thing_Worth : Int) (f_Place : Int) (f_At : Int) (f_Finder : Int) : c74.fn [.agg [.lit (.int .i64 r_Id), .lit (.int .i64 r_Kind), .sl false 1 (.lit (.int .i64 0)) (ML dI r_Colours), .lit (.int .i64 r_SizeLow), .lit (.int .i64 r_SizeHigh), .sl false 1 (.lit (.int .i64 0)) (ML dI r_Places), .lit (.int .i64 r_Span_From), .lit (.int .i64 r_Span_Until)], .agg [.lit (.int .i64 f_Thing_Id), .lit (.int .i64 f_Thing_Kind), .lit (.int .i64 f_Thing_Colour), .lit (.int .i64 f_Thing_Size), .lit (.int .i64 f_Thing_Worth), .lit (.int .i64 f_Place), .lit (.int .i64 f_At), .lit (.int .i64 f_Finder)]] [] = some ((fun (r : TReport) (f : TFind) => smR r) ⟨r_Id, r_Kind, r_Colours, r_SizeLow, r_SizeHigh, r_Places, ⟨r_Span_From, r_Span_Until⟩⟩ ⟨⟨f_Thing_Id, f_Thing_Kind, f_Thing_Colour, f_Thing_Size, f_Thing_Worth⟩, f_Place, f_At, f_Finder⟩, (fun (r : TReport) (f : TFind) => (dB (mCanBe r f) : D)) ⟨r_Id, r_Kind, r_Colours, r_SizeLow, r_SizeHigh, r_Places, ⟨r_Span_From, r_Span_Until⟩⟩ ⟨⟨f_Thing_Id, f_Thing_Kind, f_Thing_Colour, f_Thing_Size, f_Thing_Worth⟩, f_Place, f_At, f_Finder⟩, (fun (r : TReport) (f : TFind) => []) ⟨r_Id, r_Kind, r_Colours, r_SizeLow, r_SizeHigh, r_Places, ⟨r_Span_From, r_Span_Until⟩⟩ ⟨⟨f_Thing_Id, f_Thing_Kind, f_Thing_Colour, f_Thing_Size, f_Thing_Worth⟩, f_Place, f_At, f_Finder⟩) :=
  mkCon_fn (fun x y h _ => c74_inj x y h) ((⟨r_Id, r_Kind, r_Colours, r_SizeLow, r_SizeHigh, r_Places, ⟨r_Span_From, r_Span_Until⟩⟩, ⟨⟨f_Thing_Id, f_Thing_Kind, f_Thing_Colour, f_Thing_Size, f_Thing_Worth⟩, f_Place, f_At, f_Finder⟩) : TReport × TFind) (by simp [nz, nz1, ML_nil, encLI, encTFind, encTReport, encTSpan, encTThing]) rfl
theorem c74_pc (r : TReport) (f : TFind) (hpre : smR r) : PCo Try.prog 74 [encTReport r, encTFind f] (Tab.of []) (dB (mCanBe r f)) (Tab.of []) := by
  refine pco_of_run [] (E := ⟨[c84], []⟩) (m := false) (base := 0) (Env.ok_cons c84_ok Env.ok_nil) G_ok mix 300 6 Try.func74 (by kernel_rfl) rfl (by kernel_rfl) (by kernel_rfl) rfl ?_
  simp [Try.f74]
  simp at hpre
  simp [hpre, ← canBe_why]
theorem c74_ok : c74.ok Try.prog := mkCon_ok fun ⟨r, f⟩ hpre => c74_pc r f hpre
def b2i (b : Bool) : Int := if b then 1 else 0
theorem b2i_bd (b : Bool) : 0 ≤ b2i b ∧ b2i b ≤ 1 := by cases b <;> simp [b2i]
def mScore (r : TReport) (f : TFind) : Int := if mCanBe r f then 1 + b2i (mIn r.Colours.length 1 2) + b2i (decide (r.SizeHigh - r.SizeLow ≤ 5)) + b2i (mIn r.Places.length 1 2) + b2i (decide (f.At ≤ r.Span.Until + 24)) else 0
theorem canBe_bd {r : TReport} {f : TFind} (h : mCanBe r f = true) : (1 ≤ r.SizeLow ∧ r.SizeLow ≤ r.SizeHigh ∧ r.SizeHigh ≤ 50) ∧ (0 ≤ r.Span.From ∧ r.Span.From ≤ r.Span.Until ∧ r.Span.Until ≤ 100000) ∧ 0 ≤ f.At ∧ f.At ≤ 100000 := by
  simp [mCanBe, mIsReport, mIsFind, mIsSpan, mIn] at h; omega
/-- loop.example/g03007/spec.l8One -/
noncomputable def c149 : Con := mkCon 149 false (α := Bool) (fun x => (fun (b : Bool) => [dB b]) x) (fun _ => []) (fun x => (fun (b : Bool) => True) x) (fun x => (fun (b : Bool) => (dI (b2i b) : D)) x) (fun x => (fun (b : Bool) => []) x)
@[simp] theorem c149_f : c149.f = 149 := rfl
@[simp] theorem c149_own : c149.own = false := rfl
theorem c149_inj : ∀ u_ v_ : Bool, ((fun x => (fun (b : Bool) => [dB b]) x) u_).map nz = ((fun x => (fun (b : Bool) => [dB b]) x) v_).map nz → u_ = v_ := by
  intro u_ v_ h
  obtain b := u_
  obtain b' := v_
  simp [nz_lit, nz1_lit, nz_agg, nz_sl, nz1_sl] at h
  first | (simp [h]; done) | (obtain ⟨⟩ := h; simp_all; done) | simp_all
@[simp] theorem c149_fn (b : Bool) : c149.fn [.lit (.bool b)] [] = some ((fun (b : Bool) => True) b, (fun (b : Bool) => (dI (b2i b) : D)) b, (fun (b : Bool) => []) b) :=
  mkCon_fn (fun x y h _ => c149_inj x y h) (b : Bool) (by simp [nz, nz1, ML_nil]) rfl
theorem c149_pc (b : Bool) : PCo Try.prog 149 [dB b] (Tab.of []) (dI (b2i b)) (Tab.of []) := by
  refine pco_of_run [] (E := ⟨[], []⟩) (m := false) (base := 0) Env.ok_nil G_ok mix 300 6 Try.func149 (by kernel_rfl) rfl (by kernel_rfl) (by kernel_rfl) rfl ?_
  simp [Try.f149]
  cases b <;> simp [b2i]
theorem c149_ok : c149.ok Try.prog := mkCon_ok fun b hpre => c149_pc b
/-- loop.example/g03007/spec.Score -/
noncomputable def c78 : Con := mkCon 78 false (α := TReport × TFind) (fun x => (fun (r : TReport) (f : TFind) => [encTReport r, encTFind f]) x.1 x.2) (fun _ => []) (fun x => (fun (r : TReport) (f : TFind) => smR r) x.1 x.2) (fun x => (fun (r : TReport) (f : TFind) => (dI (mScore r f) : D)) x.1 x.2) (fun x => (fun (r : TReport) (f : TFind) => []) x.1 x.2)
@[simp] theorem c78_f : c78.f = 78 := rfl
@[simp] theorem c78_own : c78.own = false := rfl
theorem c78_inj : ∀ u_ v_ : TReport × TFind, ((fun x => (fun (r : TReport) (f : TFind) => [encTReport r, encTFind f]) x.1 x.2) u_).map nz = ((fun x => (fun (r : TReport) (f : TFind) => [encTReport r, encTFind f]) x.1 x.2) v_).map nz → u_ = v_ := by
  intro u_ v_ h
  obtain ⟨⟨r_Id, r_Kind, r_Colours, r_SizeLow, r_SizeHigh, r_Places, ⟨r_Span_From, r_Span_Until⟩⟩, ⟨⟨f_Thing_Id, f_Thing_Kind, f_Thing_Colour, f_Thing_Size, f_Thing_Worth⟩, f_Place, f_At, f_Finder⟩⟩ := u_
  obtain ⟨⟨r_Id', r_Kind', r_Colours', r_SizeLow', r_SizeHigh', r_Places', ⟨r_Span_From', r_Span_Until'⟩⟩, ⟨⟨f_Thing_Id', f_Thing_Kind', f_Thing_Colour', f_Thing_Size', f_Thing_Worth'⟩, f_Place', f_At', f_Finder'⟩⟩ := v_
  simp [nz_lit, nz1_lit, nz_agg, nz_sl, nz1_sl, encLI, encTFind, encTReport, encTSpan, encTThing] at h
  first | (simp [h]; done) | (obtain ⟨⟩ := h; simp_all; done) | simp_all
@[simp] theorem c78_fn (r_Id : Int) (r_Kind : Int) (r_Colours : List Int) (r_SizeLow : Int) (r_SizeHigh : Int) (r_Places : List Int) (r_Span_From : Int) (r_Span_Until : Int) (f_Thing_Id : Int) (f_Thing_Kind : Int) (f_Thing_Colour : Int) (f_Thing_Size : Int) (f_Thing_Worth : Int) (f_Place : Int) (f_At : Int) (f_Finder : Int) : c78.fn [.agg [.lit (.int .i64 r_Id), .lit (.int .i64 r_Kind), .sl false 1 (.lit (.int .i64 0)) (ML dI r_Colours), .lit (.int .i64 r_SizeLow), .lit (.int .i64 r_SizeHigh), .sl false 1 (.lit (.int .i64 0)) (ML dI r_Places), .lit (.int .i64 r_Span_From), .lit (.int .i64 r_Span_Until)], .agg [.lit (.int .i64 f_Thing_Id), .lit (.int .i64 f_Thing_Kind), .lit (.int .i64 f_Thing_Colour), .lit (.int .i64 f_Thing_Size), .lit (.int .i64 f_Thing_Worth), .lit (.int .i64 f_Place), .lit (.int .i64 f_At), .lit (.int .i64 f_Finder)]] [] = some ((fun (r : TReport) (f : TFind) => smR r) ⟨r_Id, r_Kind, r_Colours, r_SizeLow, r_SizeHigh, r_Places, ⟨r_Span_From, r_Span_Until⟩⟩ ⟨⟨f_Thing_Id, f_Thing_Kind, f_Thing_Colour, f_Thing_Size, f_Thing_Worth⟩, f_Place, f_At, f_Finder⟩, (fun (r : TReport) (f : TFind) => (dI (mScore r f) : D)) ⟨r_Id, r_Kind, r_Colours, r_SizeLow, r_SizeHigh, r_Places, ⟨r_Span_From, r_Span_Until⟩⟩ ⟨⟨f_Thing_Id, f_Thing_Kind, f_Thing_Colour, f_Thing_Size, f_Thing_Worth⟩, f_Place, f_At, f_Finder⟩, (fun (r : TReport) (f : TFind) => []) ⟨r_Id, r_Kind, r_Colours, r_SizeLow, r_SizeHigh, r_Places, ⟨r_Span_From, r_Span_Until⟩⟩ ⟨⟨f_Thing_Id, f_Thing_Kind, f_Thing_Colour, f_Thing_Size, f_Thing_Worth⟩, f_Place, f_At, f_Finder⟩) :=
  mkCon_fn (fun x y h _ => c78_inj x y h) ((⟨r_Id, r_Kind, r_Colours, r_SizeLow, r_SizeHigh, r_Places, ⟨r_Span_From, r_Span_Until⟩⟩, ⟨⟨f_Thing_Id, f_Thing_Kind, f_Thing_Colour, f_Thing_Size, f_Thing_Worth⟩, f_Place, f_At, f_Finder⟩) : TReport × TFind) (by simp [nz, nz1, ML_nil, encLI, encTFind, encTReport, encTSpan, encTThing]) rfl
theorem c78_pc (r : TReport) (f : TFind) (hpre : smR r) : PCo Try.prog 78 [encTReport r, encTFind f] (Tab.of []) (dI (mScore r f)) (Tab.of []) := by
  refine pco_of_run [3] (E := ⟨[c74, c117, c149], []⟩) (m := false) (base := 0) (Env.ok_cons c74_ok (Env.ok_cons c117_ok (Env.ok_cons c149_ok Env.ok_nil))) G_ok mix 300 6 Try.func78 (by kernel_rfl) rfl (by kernel_rfl) (by kernel_rfl) rfl ?_
  simp [Try.f78]
  simp at hpre
  simp [hpre]
  refine ⟨fun h => by simp [mScore, h], fun h => ?_⟩
  have hb := canBe_bd h
  have h1 := b2i_bd (mIn r.Colours.length 1 2)
  have h2 := b2i_bd (decide (r.SizeHigh - r.SizeLow ≤ 5))
  have h3 := b2i_bd (mIn r.Places.length 1 2)
  have h4 := b2i_bd (decide (f.At ≤ r.Span.Until + 24))
  repeat' (first | omega | refine And.intro ?_ ?_ | intro _)
  simp [mScore, h]
theorem c78_ok : c78.ok Try.prog := mkCon_ok fun ⟨r, f⟩ hpre => c78_pc r f hpre
/-- loop.example/g03007/impl.Score -/
noncomputable def c79 : Con := mkCon 79 false (α := TReport × TFind) (fun x => (fun (r : TReport) (f : TFind) => [encTReport r, encTFind f]) x.1 x.2) (fun _ => []) (fun x => (fun (r : TReport) (f : TFind) => smR r) x.1 x.2) (fun x => (fun (r : TReport) (f : TFind) => (dI (mScore r f) : D)) x.1 x.2) (fun x => (fun (r : TReport) (f : TFind) => []) x.1 x.2)
@[simp] theorem c79_f : c79.f = 79 := rfl
@[simp] theorem c79_own : c79.own = false := rfl
theorem c79_inj : ∀ u_ v_ : TReport × TFind, ((fun x => (fun (r : TReport) (f : TFind) => [encTReport r, encTFind f]) x.1 x.2) u_).map nz = ((fun x => (fun (r : TReport) (f : TFind) => [encTReport r, encTFind f]) x.1 x.2) v_).map nz → u_ = v_ := by
  intro u_ v_ h
  obtain ⟨⟨r_Id, r_Kind, r_Colours, r_SizeLow, r_SizeHigh, r_Places, ⟨r_Span_From, r_Span_Until⟩⟩, ⟨⟨f_Thing_Id, f_Thing_Kind, f_Thing_Colour, f_Thing_Size, f_Thing_Worth⟩, f_Place, f_At, f_Finder⟩⟩ := u_
  obtain ⟨⟨r_Id', r_Kind', r_Colours', r_SizeLow', r_SizeHigh', r_Places', ⟨r_Span_From', r_Span_Until'⟩⟩, ⟨⟨f_Thing_Id', f_Thing_Kind', f_Thing_Colour', f_Thing_Size', f_Thing_Worth'⟩, f_Place', f_At', f_Finder'⟩⟩ := v_
  simp [nz_lit, nz1_lit, nz_agg, nz_sl, nz1_sl, encLI, encTFind, encTReport, encTSpan, encTThing] at h
  first | (simp [h]; done) | (obtain ⟨⟩ := h; simp_all; done) | simp_all
@[simp] theorem c79_fn (r_Id : Int) (r_Kind : Int) (r_Colours : List Int) (r_SizeLow : Int) (r_SizeHigh : Int) (r_Places : List Int) (r_Span_From : Int) (r_Span_Until : Int) (f_Thing_Id : Int) (f_Thing_Kind : Int) (f_Thing_Colour : Int) (f_Thing_Size : Int) (f_Thing_Worth : Int) (f_Place : Int) (f_At : Int) (f_Finder : Int) : c79.fn [.agg [.lit (.int .i64 r_Id), .lit (.int .i64 r_Kind), .sl false 1 (.lit (.int .i64 0)) (ML dI r_Colours), .lit (.int .i64 r_SizeLow), .lit (.int .i64 r_SizeHigh), .sl false 1 (.lit (.int .i64 0)) (ML dI r_Places), .lit (.int .i64 r_Span_From), .lit (.int .i64 r_Span_Until)], .agg [.lit (.int .i64 f_Thing_Id), .lit (.int .i64 f_Thing_Kind), .lit (.int .i64 f_Thing_Colour), .lit (.int .i64 f_Thing_Size), .lit (.int .i64 f_Thing_Worth), .lit (.int .i64 f_Place), .lit (.int .i64 f_At), .lit (.int .i64 f_Finder)]] [] = some ((fun (r : TReport) (f : TFind) => smR r) ⟨r_Id, r_Kind, r_Colours, r_SizeLow, r_SizeHigh, r_Places, ⟨r_Span_From, r_Span_Until⟩⟩ ⟨⟨f_Thing_Id, f_Thing_Kind, f_Thing_Colour, f_Thing_Size, f_Thing_Worth⟩, f_Place, f_At, f_Finder⟩, (fun (r : TReport) (f : TFind) => (dI (mScore r f) : D)) ⟨r_Id, r_Kind, r_Colours, r_SizeLow, r_SizeHigh, r_Places, ⟨r_Span_From, r_Span_Until⟩⟩ ⟨⟨f_Thing_Id, f_Thing_Kind, f_Thing_Colour, f_Thing_Size, f_Thing_Worth⟩, f_Place, f_At, f_Finder⟩, (fun (r : TReport) (f : TFind) => []) ⟨r_Id, r_Kind, r_Colours, r_SizeLow, r_SizeHigh, r_Places, ⟨r_Span_From, r_Span_Until⟩⟩ ⟨⟨f_Thing_Id, f_Thing_Kind, f_Thing_Colour, f_Thing_Size, f_Thing_Worth⟩, f_Place, f_At, f_Finder⟩) :=
  mkCon_fn (fun x y h _ => c79_inj x y h) ((⟨r_Id, r_Kind, r_Colours, r_SizeLow, r_SizeHigh, r_Places, ⟨r_Span_From, r_Span_Until⟩⟩, ⟨⟨f_Thing_Id, f_Thing_Kind, f_Thing_Colour, f_Thing_Size, f_Thing_Worth⟩, f_Place, f_At, f_Finder⟩) : TReport × TFind) (by simp [nz, nz1, ML_nil, encLI, encTFind, encTReport, encTSpan, encTThing]) rfl
theorem c79_pc (r : TReport) (f : TFind) (hpre : smR r) : PCo Try.prog 79 [encTReport r, encTFind f] (Tab.of []) (dI (mScore r f)) (Tab.of []) := by
  refine pco_of_run [4] (E := ⟨[c75, c135], []⟩) (m := false) (base := 0) (Env.ok_cons c75_ok (Env.ok_cons c135_ok Env.ok_nil)) G_ok mix 300 6 Try.func79 (by kernel_rfl) rfl (by kernel_rfl) (by kernel_rfl) rfl ?_
  simp [Try.f79]
  simp at hpre
  simp [hpre]
  refine ⟨fun h => by simp [mScore, h], fun h => ?_⟩
  have hb := canBe_bd h
  refine ⟨⟨by omega, by omega⟩, ?_⟩
  refine loop_unroll 600 ?_
  simp
  simp only [mScore, h, if_true]
  have e : (f.At ≤ r.Span.Until + 24) ↔ (f.At - r.Span.Until ≤ 24) := by omega
  simp only [b2i, e]
  repeat' (first | refine And.intro ?_ ?_ | intro _)
  all_goals (simp [*]; first | done | omega)
theorem c79_ok : c79.ok Try.prog := mkCon_ok fun ⟨r, f⟩ hpre => c79_pc r f hpre
/-- loop.example/g03007/laws.FnExactCanBe -/
theorem law15 (r : TReport) (wr : wfTReport r) (f : TFind) (wf : wfTFind f) : PCo Try.prog 15 [encTReport r, encTFind f] (Tab.of []) (dB true) (Tab.of []) := by
  obtain ⟨r_Id, r_Kind, r_Colours, r_SizeLow, r_SizeHigh, r_Places, ⟨r_Span_From, r_Span_Until⟩⟩ := r
  obtain ⟨⟨f_Thing_Id, f_Thing_Kind, f_Thing_Colour, f_Thing_Size, f_Thing_Worth⟩, f_Place, f_At, f_Finder⟩ := f
  refine pco_of_run [5, 7, 10] (E := ⟨[c32, c53, c55, c57, c74, c75], []⟩) (m := false) (base := 0) (Env.ok_cons c32_ok (Env.ok_cons c53_ok (Env.ok_cons c55_ok (Env.ok_cons c57_ok (Env.ok_cons c74_ok (Env.ok_cons c75_ok Env.ok_nil)))))) G_ok mix 400 6 Try.func15 (by kernel_rfl) rfl (by kernel_rfl) (by kernel_rfl) rfl ?_
  simp [Try.f15]
  have h1 := wfR_len wr
  simp at h1
  refine ⟨h1, fun h => ?_⟩
  have h2 := szR_len h
  simp at h2
  omega
theorem law15_pc (D0 : D) (h0 : Sh G 9 55 D0) (D1 : D) (h1 : Sh G 9 25 D1) : PC Try.prog 15 [D0, D1] (dB true) [] := by
  obtain ⟨r, rfl, wr⟩ := sh55 (n := 6) h0
  obtain ⟨f, rfl, wf⟩ := sh25 (n := 6) h1
  exact law15 r wr f wf
/-- loop.example/g03007/laws.FnExactWhyNot -/
theorem law20 (r : TReport) (wr : wfTReport r) (f : TFind) (wf : wfTFind f) : PCo Try.prog 20 [encTReport r, encTFind f] (Tab.of []) (dB true) (Tab.of []) := by
  obtain ⟨r_Id, r_Kind, r_Colours, r_SizeLow, r_SizeHigh, r_Places, ⟨r_Span_From, r_Span_Until⟩⟩ := r
  obtain ⟨⟨f_Thing_Id, f_Thing_Kind, f_Thing_Colour, f_Thing_Size, f_Thing_Worth⟩, f_Place, f_At, f_Finder⟩ := f
  refine pco_of_run [5, 7, 10] (E := ⟨[c32, c53, c55, c57, c84, c85], []⟩) (m := false) (base := 0) (Env.ok_cons c32_ok (Env.ok_cons c53_ok (Env.ok_cons c55_ok (Env.ok_cons c57_ok (Env.ok_cons c84_ok (Env.ok_cons c85_ok Env.ok_nil)))))) G_ok mix 400 6 Try.func20 (by kernel_rfl) rfl (by kernel_rfl) (by kernel_rfl) rfl ?_
  simp [Try.f20]
  have h1 := wfR_len wr
  simp at h1
  refine ⟨h1, fun h => ?_⟩
  have h2 := szR_len h
  simp at h2
  omega
theorem law20_pc (D0 : D) (h0 : Sh G 9 55 D0) (D1 : D) (h1 : Sh G 9 25 D1) : PC Try.prog 20 [D0, D1] (dB true) [] := by
  obtain ⟨r, rfl, wr⟩ := sh55 (n := 6) h0
  obtain ⟨f, rfl, wf⟩ := sh25 (n := 6) h1
  exact law20 r wr f wf
/-- loop.example/g03007/laws.FnExactScore -/
theorem law17 (r : TReport) (wr : wfTReport r) (f : TFind) (wf : wfTFind f) : PCo Try.prog 17 [encTReport r, encTFind f] (Tab.of []) (dB true) (Tab.of []) := by
  obtain ⟨r_Id, r_Kind, r_Colours, r_SizeLow, r_SizeHigh, r_Places, ⟨r_Span_From, r_Span_Until⟩⟩ := r
  obtain ⟨⟨f_Thing_Id, f_Thing_Kind, f_Thing_Colour, f_Thing_Size, f_Thing_Worth⟩, f_Place, f_At, f_Finder⟩ := f
  refine pco_of_run [5, 7, 10] (E := ⟨[c32, c53, c55, c57, c78, c79], []⟩) (m := false) (base := 0) (Env.ok_cons c32_ok (Env.ok_cons c53_ok (Env.ok_cons c55_ok (Env.ok_cons c57_ok (Env.ok_cons c78_ok (Env.ok_cons c79_ok Env.ok_nil)))))) G_ok mix 400 6 Try.func17 (by kernel_rfl) rfl (by kernel_rfl) (by kernel_rfl) rfl ?_
  simp [Try.f17]
  have h1 := wfR_len wr
  simp at h1
  refine ⟨h1, fun h => ?_⟩
  have h2 := szR_len h
  simp at h2
  omega
theorem law17_pc (D0 : D) (h0 : Sh G 9 55 D0) (D1 : D) (h1 : Sh G 9 25 D1) : PC Try.prog 17 [D0, D1] (dB true) [] := by
  obtain ⟨r, rfl, wr⟩ := sh55 (n := 6) h0
  obtain ⟨f, rfl, wf⟩ := sh25 (n := 6) h1
  exact law17 r wr f wf

end Go.Proofs.Ytlpobdjfdbfhaaa
