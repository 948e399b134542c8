/- Contracts of the functions that the laws run. -/
import Derived.Test.YtmhbciaolpamaaaRch07
import Derived.Test.YtmhbciaolpamaaaREngB
namespace Go.Proofs.YtmhbciaolpamaaaR
open Go Go.Eng
set_option linter.unusedSimpArgs false
set_option linter.unusedVariables false
set_option maxRecDepth 10000
set_option maxHeartbeats 1000000
theorem mem_at {l : List Int} {p : Nat} {n : Int} (h : p < l.length) : n ∈ l.drop p ↔ (n = l[p]?.getD 0 ∨ n ∈ l.drop (p + 1)) := by
  rw [drop_at (d := 0) h, List.mem_cons]
theorem mem_end {l : List Int} {p : Nat} {n : Int} (h : l.length ≤ p) : ¬ n ∈ l.drop p := by
  rw [List.drop_eq_nil_of_le h]; simp
theorem indexBy_mem {n : Int} : ∀ (l : List Int) (i : Int), 0 ≤ i → (0 ≤ indexBy (wantN (fun x => x) n) i l ↔ n ∈ l)
  | [], i, _ => by simp [indexBy]
  | x :: r, i, hi => by
    simp only [indexBy, List.mem_cons]
    by_cases h : x = n
    · have hw : wantN (fun x => x) n x = true := by simp [wantN, h]
      rw [if_pos hw]; simp [hi, h]
    · have hw : wantN (fun x => x) n x = false := by simp [wantN, h]
      rw [if_neg (by simp [hw]), indexBy_mem r (i + 1) (by omega)]
      constructor
      · exact .inr
      · rintro (e | e)
        · exact absurd e.symm h
        · exact e
/-- slices.Index[[]in -/
noncomputable def c255 : Con := mkCon 255 false (α := (List Int) × Int) (fun x => (fun (l : List Int) (n : Int) => [encLI l, dI n]) x.1 x.2) (fun _ => []) (fun x => (fun (l : List Int) (n : Int) => l.length ≤ 1099511627776) x.1 x.2) (fun x => (fun (l : List Int) (n : Int) => (dI (indexBy (wantN (fun x => x) n) 0 l) : D)) x.1 x.2) (fun x => (fun (l : List Int) (n : Int) => []) x.1 x.2)
@[simp] theorem c255_f : c255.f = 255 := rfl
@[simp] theorem c255_own : c255.own = false := rfl
theorem c255_inj : ∀ u_ v_ : (List Int) × Int, ((fun x => (fun (l : List Int) (n : Int) => [encLI l, dI n]) x.1 x.2) u_).map nz = ((fun x => (fun (l : List Int) (n : Int) => [encLI l, dI n]) x.1 x.2) v_).map nz → u_ = v_ := by
  intro u_ v_ h
  obtain ⟨l, n⟩ := u_
  obtain ⟨l', n'⟩ := v_
  simp [nz_lit, nz1_lit, nz_agg, nz_sl, nz1_sl, encLI] at h
  first | (simp [h]; done) | (obtain ⟨⟩ := h; simp_all; done) | simp_all
@[simp] theorem c255_fn (l : List Int) (n : Int) : c255.fn [.sl false 1 (.lit (.int .i64 0)) (ML dI l), .lit (.int .i64 n)] [] = some ((fun (l : List Int) (n : Int) => l.length ≤ 1099511627776) l n, (fun (l : List Int) (n : Int) => (dI (indexBy (wantN (fun x => x) n) 0 l) : D)) l n, (fun (l : List Int) (n : Int) => []) l n) :=
  mkCon_fn (fun x y h _ => c255_inj x y h) ((l, n) : (List Int) × Int) (by simp [nz, nz1, ML_nil, encLI]) rfl
@[simp] theorem c255_fn1 (s_l : Nat) (z_l : D) (n : Int) : c255.fn [.sl false s_l z_l [], .lit (.int .i64 n)] [] = some ((fun (l : List Int) (n : Int) => l.length ≤ 1099511627776) [] n, (fun (l : List Int) (n : Int) => (dI (indexBy (wantN (fun x => x) n) 0 l) : D)) [] n, (fun (l : List Int) (n : Int) => []) [] n) :=
  mkCon_fn (fun x y h _ => c255_inj x y h) (([], n) : (List Int) × Int) (by simp [nz, nz1, ML_nil, encLI]) rfl
theorem c255_pc (l : List Int) (n : Int) (hpre : l.length ≤ 1099511627776) : PCo Try.prog 255 [encLI l, dI n] (Tab.of []) (dI (indexBy (wantN (fun x => x) n) 0 l)) (Tab.of []) := by
  refine pco_of_run [] (E := ⟨[], []⟩) (m := false) (base := 0) Env.ok_nil G_ok mix 300 6 Try.func255 (by kernel_rfl) rfl (by kernel_rfl) (by kernel_rfl) rfl ?_
  simp [Try.f255]
  refine loop_inv (fun p : Nat => p ≤ l.length ∧ indexBy (wantN (fun x => x) n) 0 l = indexBy (wantN (fun x => x) n) p (l.drop p)) (fun p => [(0, encLI l), (1, dI n), (7, dI l.length), (8, dI p)]) (fun _ => []) 1 (fun p => l.length - p) 0 400 (by simp) (by simp) (by simp) ?_
  intro p ⟨hp, hi⟩
  simp
  refine ⟨fun hlt => ?_, fun hge => ?_⟩
  · rw [indexBy_at (d := 0) hlt] at hi; simp only [wantN, decide_eq_true_eq] at hi
    repeat' (first | omega | refine And.intro ?_ ?_ | intro _)
    all_goals first | exact Again.mk (p + 1) ⟨by omega, by rw [hi]; grind⟩ (by simp) (by first | omega | (simp; omega)) | (rw [hi]; grind)
  · rw [hi, indexBy_end hge]
theorem c255_ok : c255.ok Try.prog := mkCon_ok fun ⟨l, n⟩ hpre => c255_pc l n hpre
/-- slices.Contains[[]in -/
noncomputable def c252 : Con := mkCon 252 false (α := (List Int) × Int) (fun x => (fun (l : List Int) (n : Int) => [encLI l, dI n]) x.1 x.2) (fun _ => []) (fun x => (fun (l : List Int) (n : Int) => l.length ≤ 1099511627776) x.1 x.2) (fun x => (fun (l : List Int) (n : Int) => (dB (decide (n ∈ l)) : D)) x.1 x.2) (fun x => (fun (l : List Int) (n : Int) => []) x.1 x.2)
@[simp] theorem c252_f : c252.f = 252 := rfl
@[simp] theorem c252_own : c252.own = false := rfl
theorem c252_inj : ∀ u_ v_ : (List Int) × Int, ((fun x => (fun (l : List Int) (n : Int) => [encLI l, dI n]) x.1 x.2) u_).map nz = ((fun x => (fun (l : List Int) (n : Int) => [encLI l, dI n]) x.1 x.2) v_).map nz → u_ = v_ := by
  intro u_ v_ h
  obtain ⟨l, n⟩ := u_
  obtain ⟨l', n'⟩ := v_
  simp [nz_lit, nz1_lit, nz_agg, nz_sl, nz1_sl, encLI] at h
  first | (simp [h]; done) | (obtain ⟨⟩ := h; simp_all; done) | simp_all
@[simp] theorem c252_fn (l : List Int) (n : Int) : c252.fn [.sl false 1 (.lit (.int .i64 0)) (ML dI l), .lit (.int .i64 n)] [] = some ((fun (l : List Int) (n : Int) => l.length ≤ 1099511627776) l n, (fun (l : List Int) (n : Int) => (dB (decide (n ∈ l)) : D)) l n, (fun (l : List Int) (n : Int) => []) l n) :=
  mkCon_fn (fun x y h _ => c252_inj x y h) ((l, n) : (List Int) × Int) (by simp [nz, nz1, ML_nil, encLI]) rfl
@[simp] theorem c252_fn1 (s_l : Nat) (z_l : D) (n : Int) : c252.fn [.sl false s_l z_l [], .lit (.int .i64 n)] [] = some ((fun (l : List Int) (n : Int) => l.length ≤ 1099511627776) [] n, (fun (l : List Int) (n : Int) => (dB (decide (n ∈ l)) : D)) [] n, (fun (l : List Int) (n : Int) => []) [] n) :=
  mkCon_fn (fun x y h _ => c252_inj x y h) (([], n) : (List Int) × Int) (by simp [nz, nz1, ML_nil, encLI]) rfl
theorem c252_pc (l : List Int) (n : Int) (hpre : l.length ≤ 1099511627776) : PCo Try.prog 252 [encLI l, dI n] (Tab.of []) (dB (decide (n ∈ l))) (Tab.of []) := by
  refine pco_of_run [] (E := ⟨[c255], []⟩) (m := false) (base := 0) (Env.ok_cons c255_ok Env.ok_nil) G_ok mix 300 6 Try.func252 (by kernel_rfl) rfl (by kernel_rfl) (by kernel_rfl) rfl ?_
  simp [Try.f252]
  refine ⟨hpre, ?_⟩
  exact indexBy_mem l 0 (by omega)
theorem c252_ok : c252.ok Try.prog := mkCon_ok fun ⟨l, n⟩ hpre => c252_pc l n hpre
/-- loop.example/g03007/spec.l8Has -/
noncomputable def c201 : Con := mkCon 201 false (α := (List Int) × Int) (fun x => (fun (l : List Int) (n : Int) => [encLI l, dI n]) x.1 x.2) (fun _ => []) (fun x => (fun (l : List Int) (n : Int) => l.length ≤ 1099511627776) x.1 x.2) (fun x => (fun (l : List Int) (n : Int) => (dB (decide (n ∈ l)) : D)) x.1 x.2) (fun x => (fun (l : List Int) (n : Int) => []) x.1 x.2)
@[simp] theorem c201_f : c201.f = 201 := rfl
@[simp] theorem c201_own : c201.own = false := rfl
theorem c201_inj : ∀ u_ v_ : (List Int) × Int, ((fun x => (fun (l : List Int) (n : Int) => [encLI l, dI n]) x.1 x.2) u_).map nz = ((fun x => (fun (l : List Int) (n : Int) => [encLI l, dI n]) x.1 x.2) v_).map nz → u_ = v_ := by
  intro u_ v_ h
  obtain ⟨l, n⟩ := u_
  obtain ⟨l', n'⟩ := v_
  simp [nz_lit, nz1_lit, nz_agg, nz_sl, nz1_sl, encLI] at h
  first | (simp [h]; done) | (obtain ⟨⟩ := h; simp_all; done) | simp_all
@[simp] theorem c201_fn (l : List Int) (n : Int) : c201.fn [.sl false 1 (.lit (.int .i64 0)) (ML dI l), .lit (.int .i64 n)] [] = some ((fun (l : List Int) (n : Int) => l.length ≤ 1099511627776) l n, (fun (l : List Int) (n : Int) => (dB (decide (n ∈ l)) : D)) l n, (fun (l : List Int) (n : Int) => []) l n) :=
  mkCon_fn (fun x y h _ => c201_inj x y h) ((l, n) : (List Int) × Int) (by simp [nz, nz1, ML_nil, encLI]) rfl
@[simp] theorem c201_fn1 (s_l : Nat) (z_l : D) (n : Int) : c201.fn [.sl false s_l z_l [], .lit (.int .i64 n)] [] = some ((fun (l : List Int) (n : Int) => l.length ≤ 1099511627776) [] n, (fun (l : List Int) (n : Int) => (dB (decide (n ∈ l)) : D)) [] n, (fun (l : List Int) (n : Int) => []) [] n) :=
  mkCon_fn (fun x y h _ => c201_inj x y h) (([], n) : (List Int) × Int) (by simp [nz, nz1, ML_nil, encLI]) rfl
theorem c201_pc (l : List Int) (n : Int) (hpre : l.length ≤ 1099511627776) : PCo Try.prog 201 [encLI l, dI n] (Tab.of []) (dB (decide (n ∈ l))) (Tab.of []) := by
  refine pco_of_run [] (E := ⟨[], []⟩) (m := false) (base := 0) Env.ok_nil G_ok mix 300 6 Try.func201 (by kernel_rfl) rfl (by kernel_rfl) (by kernel_rfl) rfl ?_
  simp [Try.f201]
  refine loop_inv (fun p : Nat => p ≤ l.length ∧ (n ∈ l ↔ n ∈ l.drop p)) (fun p => [(0, encLI l), (1, dI n), (4, dB false), (5, dI p)]) (fun _ => []) 1 (fun p => l.length - p) 0 400 (by simp) (by simp) (by simp) ?_
  intro p ⟨hp, hi⟩
  simp
  refine ⟨fun hlt => ?_, fun hge => ?_⟩
  · rw [mem_at hlt] at hi
    repeat' (first | omega | refine And.intro ?_ ?_ | intro _)
    all_goals first | exact Again.mk (p + 1) ⟨by omega, by rw [hi]; grind⟩ (by simp) (by first | omega | (simp; omega)) | grind
  · have := mem_end (n := n) hge; grind
theorem c201_ok : c201.ok Try.prog := mkCon_ok fun ⟨l, n⟩ hpre => c201_pc l n hpre
def mAllows (l : List Int) (n : Int) : Bool := decide (l.length = 0) || decide (n ∈ l)
/-- loop.example/g03007/impl.allows -/
noncomputable def c245 : Con := mkCon 245 false (α := (List Int) × Int) (fun x => (fun (l : List Int) (n : Int) => [encLI l, dI n]) x.1 x.2) (fun _ => []) (fun x => (fun (l : List Int) (n : Int) => l.length ≤ 1099511627776) x.1 x.2) (fun x => (fun (l : List Int) (n : Int) => (dB (mAllows l n) : D)) x.1 x.2) (fun x => (fun (l : List Int) (n : Int) => []) x.1 x.2)
@[simp] theorem c245_f : c245.f = 245 := rfl
@[simp] theorem c245_own : c245.own = false := rfl
theorem c245_inj : ∀ u_ v_ : (List Int) × Int, ((fun x => (fun (l : List Int) (n : Int) => [encLI l, dI n]) x.1 x.2) u_).map nz = ((fun x => (fun (l : List Int) (n : Int) => [encLI l, dI n]) x.1 x.2) v_).map nz → u_ = v_ := by
  intro u_ v_ h
  obtain ⟨l, n⟩ := u_
  obtain ⟨l', n'⟩ := v_
  simp [nz_lit, nz1_lit, nz_agg, nz_sl, nz1_sl, encLI] at h
  first | (simp [h]; done) | (obtain ⟨⟩ := h; simp_all; done) | simp_all
@[simp] theorem c245_fn (l : List Int) (n : Int) : c245.fn [.sl false 1 (.lit (.int .i64 0)) (ML dI l), .lit (.int .i64 n)] [] = some ((fun (l : List Int) (n : Int) => l.length ≤ 1099511627776) l n, (fun (l : List Int) (n : Int) => (dB (mAllows l n) : D)) l n, (fun (l : List Int) (n : Int) => []) l n) :=
  mkCon_fn (fun x y h _ => c245_inj x y h) ((l, n) : (List Int) × Int) (by simp [nz, nz1, ML_nil, encLI]) rfl
@[simp] theorem c245_fn1 (s_l : Nat) (z_l : D) (n : Int) : c245.fn [.sl false s_l z_l [], .lit (.int .i64 n)] [] = some ((fun (l : List Int) (n : Int) => l.length ≤ 1099511627776) [] n, (fun (l : List Int) (n : Int) => (dB (mAllows l n) : D)) [] n, (fun (l : List Int) (n : Int) => []) [] n) :=
  mkCon_fn (fun x y h _ => c245_inj x y h) (([], n) : (List Int) × Int) (by simp [nz, nz1, ML_nil, encLI]) rfl
theorem c245_pc (l : List Int) (n : Int) (hpre : l.length ≤ 1099511627776) : PCo Try.prog 245 [encLI l, dI n] (Tab.of []) (dB (mAllows l n)) (Tab.of []) := by
  refine pco_of_run [] (E := ⟨[c252], []⟩) (m := false) (base := 0) (Env.ok_cons c252_ok Env.ok_nil) G_ok mix 300 6 Try.func245 (by kernel_rfl) rfl (by kernel_rfl) (by kernel_rfl) rfl ?_
  simp [Try.f245]
  simp [mAllows, hpre]
  first | rfl | omega | (rw [Bool.eq_iff_iff]; simp; done) | (rw [Bool.eq_iff_iff]; simp; omega) | (rw [Bool.eq_iff_iff]; simp; grind) | grind
theorem c245_ok : c245.ok Try.prog := mkCon_ok fun ⟨l, n⟩ hpre => c245_pc l n hpre
/-- loop.example/g03007/impl.matchChecks$1 -/
noncomputable def c242 : Con := mkCon 242 false (α := TReport × TFind) (fun x => (fun (r : TReport) (f : TFind) => [encTReport r, encTFind f]) x.1 x.2) (fun _ => []) (fun x => (fun (r : TReport) (f : TFind) => smR r) x.1 x.2) (fun x => (fun (r : TReport) (f : TFind) => (dB (mIsReport r && mIsFind f) : D)) x.1 x.2) (fun x => (fun (r : TReport) (f : TFind) => []) x.1 x.2)
@[simp] theorem c242_f : c242.f = 242 := rfl
@[simp] theorem c242_own : c242.own = false := rfl
theorem c242_inj : ∀ u_ v_ : TReport × TFind, ((fun x => (fun (r : TReport) (f : TFind) => [encTReport r, encTFind f]) x.1 x.2) u_).map nz = ((fun x => (fun (r : TReport) (f : TFind) => [encTReport r, encTFind f]) x.1 x.2) v_).map nz → u_ = v_ := by
  intro u_ v_ h
  obtain ⟨⟨r_Id, r_Kind, r_Colours, r_SizeLow, r_SizeHigh, r_Places, ⟨r_Span_From, r_Span_Until⟩⟩, ⟨⟨f_Thing_Id, f_Thing_Kind, f_Thing_Colour, f_Thing_Size, f_Thing_Worth⟩, f_Place, f_At, f_Finder⟩⟩ := u_
  obtain ⟨⟨r_Id', r_Kind', r_Colours', r_SizeLow', r_SizeHigh', r_Places', ⟨r_Span_From', r_Span_Until'⟩⟩, ⟨⟨f_Thing_Id', f_Thing_Kind', f_Thing_Colour', f_Thing_Size', f_Thing_Worth'⟩, f_Place', f_At', f_Finder'⟩⟩ := v_
  simp [nz_lit, nz1_lit, nz_agg, nz_sl, nz1_sl, encLI, encTFind, encTReport, encTSpan, encTThing] at h
  first | (simp [h]; done) | (obtain ⟨⟩ := h; simp_all; done) | simp_all
@[simp] theorem c242_fn (r_Id : Int) (r_Kind : Int) (r_Colours : List Int) (r_SizeLow : Int) (r_SizeHigh : Int) (r_Places : List Int) (r_Span_From : Int) (r_Span_Until : Int) (f_Thing_Id : Int) (f_Thing_Kind : Int) (f_Thing_Colour : Int) (f_Thing_Size : Int) (f_Thing_Worth : Int) (f_Place : Int) (f_At : Int) (f_Finder : Int) : c242.fn [.agg [.lit (.int .i64 r_Id), .lit (.int .i64 r_Kind), .sl false 1 (.lit (.int .i64 0)) (ML dI r_Colours), .lit (.int .i64 r_SizeLow), .lit (.int .i64 r_SizeHigh), .sl false 1 (.lit (.int .i64 0)) (ML dI r_Places), .lit (.int .i64 r_Span_From), .lit (.int .i64 r_Span_Until)], .agg [.lit (.int .i64 f_Thing_Id), .lit (.int .i64 f_Thing_Kind), .lit (.int .i64 f_Thing_Colour), .lit (.int .i64 f_Thing_Size), .lit (.int .i64 f_Thing_Worth), .lit (.int .i64 f_Place), .lit (.int .i64 f_At), .lit (.int .i64 f_Finder)]] [] = some ((fun (r : TReport) (f : TFind) => smR r) ⟨r_Id, r_Kind, r_Colours, r_SizeLow, r_SizeHigh, r_Places, ⟨r_Span_From, r_Span_Until⟩⟩ ⟨⟨f_Thing_Id, f_Thing_Kind, f_Thing_Colour, f_Thing_Size, f_Thing_Worth⟩, f_Place, f_At, f_Finder⟩, (fun (r : TReport) (f : TFind) => (dB (mIsReport r && mIsFind f) : D)) ⟨r_Id, r_Kind, r_Colours, r_SizeLow, r_SizeHigh, r_Places, ⟨r_Span_From, r_Span_Until⟩⟩ ⟨⟨f_Thing_Id, f_Thing_Kind, f_Thing_Colour, f_Thing_Size, f_Thing_Worth⟩, f_Place, f_At, f_Finder⟩, (fun (r : TReport) (f : TFind) => []) ⟨r_Id, r_Kind, r_Colours, r_SizeLow, r_SizeHigh, r_Places, ⟨r_Span_From, r_Span_Until⟩⟩ ⟨⟨f_Thing_Id, f_Thing_Kind, f_Thing_Colour, f_Thing_Size, f_Thing_Worth⟩, f_Place, f_At, f_Finder⟩) :=
  mkCon_fn (fun x y h _ => c242_inj x y h) ((⟨r_Id, r_Kind, r_Colours, r_SizeLow, r_SizeHigh, r_Places, ⟨r_Span_From, r_Span_Until⟩⟩, ⟨⟨f_Thing_Id, f_Thing_Kind, f_Thing_Colour, f_Thing_Size, f_Thing_Worth⟩, f_Place, f_At, f_Finder⟩) : TReport × TFind) (by simp [nz, nz1, ML_nil, encLI, encTFind, encTReport, encTSpan, encTThing]) rfl
theorem c242_pc (r : TReport) (f : TFind) (hpre : smR r) : PCo Try.prog 242 [encTReport r, encTFind f] (Tab.of []) (dB (mIsReport r && mIsFind f)) (Tab.of []) := by
  obtain ⟨r_Id, r_Kind, r_Colours, r_SizeLow, r_SizeHigh, r_Places, ⟨r_Span_From, r_Span_Until⟩⟩ := r
  obtain ⟨⟨f_Thing_Id, f_Thing_Kind, f_Thing_Colour, f_Thing_Size, f_Thing_Worth⟩, f_Place, f_At, f_Finder⟩ := f
  refine pco_of_run [] (E := ⟨[c110, c197], []⟩) (m := false) (base := 0) (Env.ok_cons c110_ok (Env.ok_cons c197_ok Env.ok_nil)) G_ok mix 300 6 Try.func242 (by kernel_rfl) rfl (by kernel_rfl) (by kernel_rfl) rfl ?_
  simp [Try.f242]
  simp at hpre
  simp [hpre]
theorem c242_ok : c242.ok Try.prog := mkCon_ok fun ⟨r, f⟩ hpre => c242_pc r f hpre
/-- loop.example/g03007/impl.matchChecks$2 -/
noncomputable def c243 : Con := mkCon 243 false (α := TReport × TFind) (fun x => (fun (r : TReport) (f : TFind) => [encTReport r, encTFind f]) x.1 x.2) (fun _ => []) (fun x => (fun (r : TReport) (f : TFind) => smR r) x.1 x.2) (fun x => (fun (r : TReport) (f : TFind) => (dB (decide (r.Kind = f.Thing.Kind)) : D)) x.1 x.2) (fun x => (fun (r : TReport) (f : TFind) => []) x.1 x.2)
@[simp] theorem c243_f : c243.f = 243 := rfl
@[simp] theorem c243_own : c243.own = false := rfl
theorem c243_inj : ∀ u_ v_ : TReport × TFind, ((fun x => (fun (r : TReport) (f : TFind) => [encTReport r, encTFind f]) x.1 x.2) u_).map nz = ((fun x => (fun (r : TReport) (f : TFind) => [encTReport r, encTFind f]) x.1 x.2) v_).map nz → u_ = v_ := by
  intro u_ v_ h
  obtain ⟨⟨r_Id, r_Kind, r_Colours, r_SizeLow, r_SizeHigh, r_Places, ⟨r_Span_From, r_Span_Until⟩⟩, ⟨⟨f_Thing_Id, f_Thing_Kind, f_Thing_Colour, f_Thing_Size, f_Thing_Worth⟩, f_Place, f_At, f_Finder⟩⟩ := u_
  obtain ⟨⟨r_Id', r_Kind', r_Colours', r_SizeLow', r_SizeHigh', r_Places', ⟨r_Span_From', r_Span_Until'⟩⟩, ⟨⟨f_Thing_Id', f_Thing_Kind', f_Thing_Colour', f_Thing_Size', f_Thing_Worth'⟩, f_Place', f_At', f_Finder'⟩⟩ := v_
  simp [nz_lit, nz1_lit, nz_agg, nz_sl, nz1_sl, encLI, encTFind, encTReport, encTSpan, encTThing] at h
  first | (simp [h]; done) | (obtain ⟨⟩ := h; simp_all; done) | simp_all
@[simp] theorem c243_fn (r_Id : Int) (r_Kind : Int) (r_Colours : List Int) (r_SizeLow : Int) (r_SizeHigh : Int) (r_Places : List Int) (r_Span_From : Int) (r_Span_Until : Int) (f_Thing_Id : Int) (f_Thing_Kind : Int) (f_Thing_Colour : Int) (f_Thing_Size : Int) (f_Thing_Worth : Int) (f_Place : Int) (f_At : Int) (f_Finder : Int) : c243.fn [.agg [.lit (.int .i64 r_Id), .lit (.int .i64 r_Kind), .sl false 1 (.lit (.int .i64 0)) (ML dI r_Colours), .lit (.int .i64 r_SizeLow), .lit (.int .i64 r_SizeHigh), .sl false 1 (.lit (.int .i64 0)) (ML dI r_Places), .lit (.int .i64 r_Span_From), .lit (.int .i64 r_Span_Until)], .agg [.lit (.int .i64 f_Thing_Id), .lit (.int .i64 f_Thing_Kind), .lit (.int .i64 f_Thing_Colour), .lit (.int .i64 f_Thing_Size), .lit (.int .i64 f_Thing_Worth), .lit (.int .i64 f_Place), .lit (.int .i64 f_At), .lit (.int .i64 f_Finder)]] [] = some ((fun (r : TReport) (f : TFind) => smR r) ⟨r_Id, r_Kind, r_Colours, r_SizeLow, r_SizeHigh, r_Places, ⟨r_Span_From, r_Span_Until⟩⟩ ⟨⟨f_Thing_Id, f_Thing_Kind, f_Thing_Colour, f_Thing_Size, f_Thing_Worth⟩, f_Place, f_At, f_Finder⟩, (fun (r : TReport) (f : TFind) => (dB (decide (r.Kind = f.Thing.Kind)) : D)) ⟨r_Id, r_Kind, r_Colours, r_SizeLow, r_SizeHigh, r_Places, ⟨r_Span_From, r_Span_Until⟩⟩ ⟨⟨f_Thing_Id, f_Thing_Kind, f_Thing_Colour, f_Thing_Size, f_Thing_Worth⟩, f_Place, f_At, f_Finder⟩, (fun (r : TReport) (f : TFind) => []) ⟨r_Id, r_Kind, r_Colours, r_SizeLow, r_SizeHigh, r_Places, ⟨r_Span_From, r_Span_Until⟩⟩ ⟨⟨f_Thing_Id, f_Thing_Kind, f_Thing_Colour, f_Thing_Size, f_Thing_Worth⟩, f_Place, f_At, f_Finder⟩) :=
  mkCon_fn (fun x y h _ => c243_inj x y h) ((⟨r_Id, r_Kind, r_Colours, r_SizeLow, r_SizeHigh, r_Places, ⟨r_Span_From, r_Span_Until⟩⟩, ⟨⟨f_Thing_Id, f_Thing_Kind, f_Thing_Colour, f_Thing_Size, f_Thing_Worth⟩, f_Place, f_At, f_Finder⟩) : TReport × TFind) (by simp [nz, nz1, ML_nil, encLI, encTFind, encTReport, encTSpan, encTThing]) rfl
theorem c243_pc (r : TReport) (f : TFind) (hpre : smR r) : PCo Try.prog 243 [encTReport r, encTFind f] (Tab.of []) (dB (decide (r.Kind = f.Thing.Kind))) (Tab.of []) := by
  obtain ⟨r_Id, r_Kind, r_Colours, r_SizeLow, r_SizeHigh, r_Places, ⟨r_Span_From, r_Span_Until⟩⟩ := r
  obtain ⟨⟨f_Thing_Id, f_Thing_Kind, f_Thing_Colour, f_Thing_Size, f_Thing_Worth⟩, f_Place, f_At, f_Finder⟩ := f
  refine pco_of_run [] (E := ⟨[], []⟩) (m := false) (base := 0) Env.ok_nil G_ok mix 300 6 Try.func243 (by kernel_rfl) rfl (by kernel_rfl) (by kernel_rfl) rfl ?_
  simp [Try.f243]
  first | done | rfl
theorem c243_ok : c243.ok Try.prog := mkCon_ok fun ⟨r, f⟩ hpre => c243_pc r f hpre
/-- loop.example/g03007/impl.matchChecks$3 -/
noncomputable def c244 : Con := mkCon 244 false (α := TReport × TFind) (fun x => (fun (r : TReport) (f : TFind) => [encTReport r, encTFind f]) x.1 x.2) (fun _ => []) (fun x => (fun (r : TReport) (f : TFind) => smR r) x.1 x.2) (fun x => (fun (r : TReport) (f : TFind) => (dB (mAllows r.Colours f.Thing.Colour) : D)) x.1 x.2) (fun x => (fun (r : TReport) (f : TFind) => []) x.1 x.2)
@[simp] theorem c244_f : c244.f = 244 := rfl
@[simp] theorem c244_own : c244.own = false := rfl
theorem c244_inj : ∀ u_ v_ : TReport × TFind, ((fun x => (fun (r : TReport) (f : TFind) => [encTReport r, encTFind f]) x.1 x.2) u_).map nz = ((fun x => (fun (r : TReport) (f : TFind) => [encTReport r, encTFind f]) x.1 x.2) v_).map nz → u_ = v_ := by
  intro u_ v_ h
  obtain ⟨⟨r_Id, r_Kind, r_Colours, r_SizeLow, r_SizeHigh, r_Places, ⟨r_Span_From, r_Span_Until⟩⟩, ⟨⟨f_Thing_Id, f_Thing_Kind, f_Thing_Colour, f_Thing_Size, f_Thing_Worth⟩, f_Place, f_At, f_Finder⟩⟩ := u_
  obtain ⟨⟨r_Id', r_Kind', r_Colours', r_SizeLow', r_SizeHigh', r_Places', ⟨r_Span_From', r_Span_Until'⟩⟩, ⟨⟨f_Thing_Id', f_Thing_Kind', f_Thing_Colour', f_Thing_Size', f_Thing_Worth'⟩, f_Place', f_At', f_Finder'⟩⟩ := v_
  simp [nz_lit, nz1_lit, nz_agg, nz_sl, nz1_sl, encLI, encTFind, encTReport, encTSpan, encTThing] at h
  first | (simp [h]; done) | (obtain ⟨⟩ := h; simp_all; done) | simp_all
@[simp] theorem c244_fn (r_Id : Int) (r_Kind : Int) (r_Colours : List Int) (r_SizeLow : Int) (r_SizeHigh : Int) (r_Places : List Int) (r_Span_From : Int) (r_Span_Until : Int) (f_Thing_Id : Int) (f_Thing_Kind : Int) (f_Thing_Colour : Int) (f_Thing_Size : Int) (f_Thing_Worth : Int) (f_Place : Int) (f_At : Int) (f_Finder : Int) : c244.fn [.agg [.lit (.int .i64 r_Id), .lit (.int .i64 r_Kind), .sl false 1 (.lit (.int .i64 0)) (ML dI r_Colours), .lit (.int .i64 r_SizeLow), .lit (.int .i64 r_SizeHigh), .sl false 1 (.lit (.int .i64 0)) (ML dI r_Places), .lit (.int .i64 r_Span_From), .lit (.int .i64 r_Span_Until)], .agg [.lit (.int .i64 f_Thing_Id), .lit (.int .i64 f_Thing_Kind), .lit (.int .i64 f_Thing_Colour), .lit (.int .i64 f_Thing_Size), .lit (.int .i64 f_Thing_Worth), .lit (.int .i64 f_Place), .lit (.int .i64 f_At), .lit (.int .i64 f_Finder)]] [] = some ((fun (r : TReport) (f : TFind) => smR r) ⟨r_Id, r_Kind, r_Colours, r_SizeLow, r_SizeHigh, r_Places, ⟨r_Span_From, r_Span_Until⟩⟩ ⟨⟨f_Thing_Id, f_Thing_Kind, f_Thing_Colour, f_Thing_Size, f_Thing_Worth⟩, f_Place, f_At, f_Finder⟩, (fun (r : TReport) (f : TFind) => (dB (mAllows r.Colours f.Thing.Colour) : D)) ⟨r_Id, r_Kind, r_Colours, r_SizeLow, r_SizeHigh, r_Places, ⟨r_Span_From, r_Span_Until⟩⟩ ⟨⟨f_Thing_Id, f_Thing_Kind, f_Thing_Colour, f_Thing_Size, f_Thing_Worth⟩, f_Place, f_At, f_Finder⟩, (fun (r : TReport) (f : TFind) => []) ⟨r_Id, r_Kind, r_Colours, r_SizeLow, r_SizeHigh, r_Places, ⟨r_Span_From, r_Span_Until⟩⟩ ⟨⟨f_Thing_Id, f_Thing_Kind, f_Thing_Colour, f_Thing_Size, f_Thing_Worth⟩, f_Place, f_At, f_Finder⟩) :=
  mkCon_fn (fun x y h _ => c244_inj x y h) ((⟨r_Id, r_Kind, r_Colours, r_SizeLow, r_SizeHigh, r_Places, ⟨r_Span_From, r_Span_Until⟩⟩, ⟨⟨f_Thing_Id, f_Thing_Kind, f_Thing_Colour, f_Thing_Size, f_Thing_Worth⟩, f_Place, f_At, f_Finder⟩) : TReport × TFind) (by simp [nz, nz1, ML_nil, encLI, encTFind, encTReport, encTSpan, encTThing]) rfl
theorem c244_pc (r : TReport) (f : TFind) (hpre : smR r) : PCo Try.prog 244 [encTReport r, encTFind f] (Tab.of []) (dB (mAllows r.Colours f.Thing.Colour)) (Tab.of []) := by
  obtain ⟨r_Id, r_Kind, r_Colours, r_SizeLow, r_SizeHigh, r_Places, ⟨r_Span_From, r_Span_Until⟩⟩ := r
  obtain ⟨⟨f_Thing_Id, f_Thing_Kind, f_Thing_Colour, f_Thing_Size, f_Thing_Worth⟩, f_Place, f_At, f_Finder⟩ := f
  refine pco_of_run [] (E := ⟨[c245], []⟩) (m := false) (base := 0) (Env.ok_cons c245_ok Env.ok_nil) G_ok mix 300 6 Try.func244 (by kernel_rfl) rfl (by kernel_rfl) (by kernel_rfl) rfl ?_
  simp [Try.f244]
  simp at hpre
  simp [hpre]
theorem c244_ok : c244.ok Try.prog := mkCon_ok fun ⟨r, f⟩ hpre => c244_pc r f hpre
/-- loop.example/g03007/impl.matchChecks$4 -/
noncomputable def c246 : Con := mkCon 246 false (α := TReport × TFind) (fun x => (fun (r : TReport) (f : TFind) => [encTReport r, encTFind f]) x.1 x.2) (fun _ => []) (fun x => (fun (r : TReport) (f : TFind) => smR r) x.1 x.2) (fun x => (fun (r : TReport) (f : TFind) => (dB (mIn f.Thing.Size r.SizeLow r.SizeHigh) : D)) x.1 x.2) (fun x => (fun (r : TReport) (f : TFind) => []) x.1 x.2)
@[simp] theorem c246_f : c246.f = 246 := rfl
@[simp] theorem c246_own : c246.own = false := rfl
theorem c246_inj : ∀ u_ v_ : TReport × TFind, ((fun x => (fun (r : TReport) (f : TFind) => [encTReport r, encTFind f]) x.1 x.2) u_).map nz = ((fun x => (fun (r : TReport) (f : TFind) => [encTReport r, encTFind f]) x.1 x.2) v_).map nz → u_ = v_ := by
  intro u_ v_ h
  obtain ⟨⟨r_Id, r_Kind, r_Colours, r_SizeLow, r_SizeHigh, r_Places, ⟨r_Span_From, r_Span_Until⟩⟩, ⟨⟨f_Thing_Id, f_Thing_Kind, f_Thing_Colour, f_Thing_Size, f_Thing_Worth⟩, f_Place, f_At, f_Finder⟩⟩ := u_
  obtain ⟨⟨r_Id', r_Kind', r_Colours', r_SizeLow', r_SizeHigh', r_Places', ⟨r_Span_From', r_Span_Until'⟩⟩, ⟨⟨f_Thing_Id', f_Thing_Kind', f_Thing_Colour', f_Thing_Size', f_Thing_Worth'⟩, f_Place', f_At', f_Finder'⟩⟩ := v_
  simp [nz_lit, nz1_lit, nz_agg, nz_sl, nz1_sl, encLI, encTFind, encTReport, encTSpan, encTThing] at h
  first | (simp [h]; done) | (obtain ⟨⟩ := h; simp_all; done) | simp_all
@[simp] theorem c246_fn (r_Id : Int) (r_Kind : Int) (r_Colours : List Int) (r_SizeLow : Int) (r_SizeHigh : Int) (r_Places : List Int) (r_Span_From : Int) (r_Span_Until : Int) (f_Thing_Id : Int) (f_Thing_Kind : Int) (f_Thing_Colour : Int) (f_Thing_Size : Int) (f_Thing_Worth : Int) (f_Place : Int) (f_At : Int) (f_Finder : Int) : c246.fn [.agg [.lit (.int .i64 r_Id), .lit (.int .i64 r_Kind), .sl false 1 (.lit (.int .i64 0)) (ML dI r_Colours), .lit (.int .i64 r_SizeLow), .lit (.int .i64 r_SizeHigh), .sl false 1 (.lit (.int .i64 0)) (ML dI r_Places), .lit (.int .i64 r_Span_From), .lit (.int .i64 r_Span_Until)], .agg [.lit (.int .i64 f_Thing_Id), .lit (.int .i64 f_Thing_Kind), .lit (.int .i64 f_Thing_Colour), .lit (.int .i64 f_Thing_Size), .lit (.int .i64 f_Thing_Worth), .lit (.int .i64 f_Place), .lit (.int .i64 f_At), .lit (.int .i64 f_Finder)]] [] = some ((fun (r : TReport) (f : TFind) => smR r) ⟨r_Id, r_Kind, r_Colours, r_SizeLow, r_SizeHigh, r_Places, ⟨r_Span_From, r_Span_Until⟩⟩ ⟨⟨f_Thing_Id, f_Thing_Kind, f_Thing_Colour, f_Thing_Size, f_Thing_Worth⟩, f_Place, f_At, f_Finder⟩, (fun (r : TReport) (f : TFind) => (dB (mIn f.Thing.Size r.SizeLow r.SizeHigh) : D)) ⟨r_Id, r_Kind, r_Colours, r_SizeLow, r_SizeHigh, r_Places, ⟨r_Span_From, r_Span_Until⟩⟩ ⟨⟨f_Thing_Id, f_Thing_Kind, f_Thing_Colour, f_Thing_Size, f_Thing_Worth⟩, f_Place, f_At, f_Finder⟩, (fun (r : TReport) (f : TFind) => []) ⟨r_Id, r_Kind, r_Colours, r_SizeLow, r_SizeHigh, r_Places, ⟨r_Span_From, r_Span_Until⟩⟩ ⟨⟨f_Thing_Id, f_Thing_Kind, f_Thing_Colour, f_Thing_Size, f_Thing_Worth⟩, f_Place, f_At, f_Finder⟩) :=
  mkCon_fn (fun x y h _ => c246_inj x y h) ((⟨r_Id, r_Kind, r_Colours, r_SizeLow, r_SizeHigh, r_Places, ⟨r_Span_From, r_Span_Until⟩⟩, ⟨⟨f_Thing_Id, f_Thing_Kind, f_Thing_Colour, f_Thing_Size, f_Thing_Worth⟩, f_Place, f_At, f_Finder⟩) : TReport × TFind) (by simp [nz, nz1, ML_nil, encLI, encTFind, encTReport, encTSpan, encTThing]) rfl
theorem c246_pc (r : TReport) (f : TFind) (hpre : smR r) : PCo Try.prog 246 [encTReport r, encTFind f] (Tab.of []) (dB (mIn f.Thing.Size r.SizeLow r.SizeHigh)) (Tab.of []) := by
  obtain ⟨r_Id, r_Kind, r_Colours, r_SizeLow, r_SizeHigh, r_Places, ⟨r_Span_From, r_Span_Until⟩⟩ := r
  obtain ⟨⟨f_Thing_Id, f_Thing_Kind, f_Thing_Colour, f_Thing_Size, f_Thing_Worth⟩, f_Place, f_At, f_Finder⟩ := f
  refine pco_of_run [] (E := ⟨[c138], []⟩) (m := false) (base := 0) (Env.ok_cons c138_ok Env.ok_nil) G_ok mix 300 6 Try.func246 (by kernel_rfl) rfl (by kernel_rfl) (by kernel_rfl) rfl ?_
  simp [Try.f246]
  all_goals first | omega | (rw [Bool.eq_iff_iff]; simp; omega) | grind
theorem c246_ok : c246.ok Try.prog := mkCon_ok fun ⟨r, f⟩ hpre => c246_pc r f hpre
/-- loop.example/g03007/impl.matchChecks$5 -/
noncomputable def c247 : Con := mkCon 247 false (α := TReport × TFind) (fun x => (fun (r : TReport) (f : TFind) => [encTReport r, encTFind f]) x.1 x.2) (fun _ => []) (fun x => (fun (r : TReport) (f : TFind) => smR r) x.1 x.2) (fun x => (fun (r : TReport) (f : TFind) => (dB (mAllows r.Places f.Place) : D)) x.1 x.2) (fun x => (fun (r : TReport) (f : TFind) => []) x.1 x.2)
@[simp] theorem c247_f : c247.f = 247 := rfl
@[simp] theorem c247_own : c247.own = false := rfl
theorem c247_inj : ∀ u_ v_ : TReport × TFind, ((fun x => (fun (r : TReport) (f : TFind) => [encTReport r, encTFind f]) x.1 x.2) u_).map nz = ((fun x => (fun (r : TReport) (f : TFind) => [encTReport r, encTFind f]) x.1 x.2) v_).map nz → u_ = v_ := by
  intro u_ v_ h
  obtain ⟨⟨r_Id, r_Kind, r_Colours, r_SizeLow, r_SizeHigh, r_Places, ⟨r_Span_From, r_Span_Until⟩⟩, ⟨⟨f_Thing_Id, f_Thing_Kind, f_Thing_Colour, f_Thing_Size, f_Thing_Worth⟩, f_Place, f_At, f_Finder⟩⟩ := u_
  obtain ⟨⟨r_Id', r_Kind', r_Colours', r_SizeLow', r_SizeHigh', r_Places', ⟨r_Span_From', r_Span_Until'⟩⟩, ⟨⟨f_Thing_Id', f_Thing_Kind', f_Thing_Colour', f_Thing_Size', f_Thing_Worth'⟩, f_Place', f_At', f_Finder'⟩⟩ := v_
  simp [nz_lit, nz1_lit, nz_agg, nz_sl, nz1_sl, encLI, encTFind, encTReport, encTSpan, encTThing] at h
  first | (simp [h]; done) | (obtain ⟨⟩ := h; simp_all; done) | simp_all
@[simp] theorem c247_fn (r_Id : Int) (r_Kind : Int) (r_Colours : List Int) (r_SizeLow : Int) (r_SizeHigh : Int) (r_Places : List Int) (r_Span_From : Int) (r_Span_Until : Int) (f_Thing_Id : Int) (f_Thing_Kind : Int) (f_Thing_Colour : Int) (f_Thing_Size : Int) (f_Thing_Worth : Int) (f_Place : Int) (f_At : Int) (f_Finder : Int) : c247.fn [.agg [.lit (.int .i64 r_Id), .lit (.int .i64 r_Kind), .sl false 1 (.lit (.int .i64 0)) (ML dI r_Colours), .lit (.int .i64 r_SizeLow), .lit (.int .i64 r_SizeHigh), .sl false 1 (.lit (.int .i64 0)) (ML dI r_Places), .lit (.int .i64 r_Span_From), .lit (.int .i64 r_Span_Until)], .agg [.lit (.int .i64 f_Thing_Id), .lit (.int .i64 f_Thing_Kind), .lit (.int .i64 f_Thing_Colour), .lit (.int .i64 f_Thing_Size), .lit (.int .i64 f_Thing_Worth), .lit (.int .i64 f_Place), .lit (.int .i64 f_At), .lit (.int .i64 f_Finder)]] [] = some ((fun (r : TReport) (f : TFind) => smR r) ⟨r_Id, r_Kind, r_Colours, r_SizeLow, r_SizeHigh, r_Places, ⟨r_Span_From, r_Span_Until⟩⟩ ⟨⟨f_Thing_Id, f_Thing_Kind, f_Thing_Colour, f_Thing_Size, f_Thing_Worth⟩, f_Place, f_At, f_Finder⟩, (fun (r : TReport) (f : TFind) => (dB (mAllows r.Places f.Place) : D)) ⟨r_Id, r_Kind, r_Colours, r_SizeLow, r_SizeHigh, r_Places, ⟨r_Span_From, r_Span_Until⟩⟩ ⟨⟨f_Thing_Id, f_Thing_Kind, f_Thing_Colour, f_Thing_Size, f_Thing_Worth⟩, f_Place, f_At, f_Finder⟩, (fun (r : TReport) (f : TFind) => []) ⟨r_Id, r_Kind, r_Colours, r_SizeLow, r_SizeHigh, r_Places, ⟨r_Span_From, r_Span_Until⟩⟩ ⟨⟨f_Thing_Id, f_Thing_Kind, f_Thing_Colour, f_Thing_Size, f_Thing_Worth⟩, f_Place, f_At, f_Finder⟩) :=
  mkCon_fn (fun x y h _ => c247_inj x y h) ((⟨r_Id, r_Kind, r_Colours, r_SizeLow, r_SizeHigh, r_Places, ⟨r_Span_From, r_Span_Until⟩⟩, ⟨⟨f_Thing_Id, f_Thing_Kind, f_Thing_Colour, f_Thing_Size, f_Thing_Worth⟩, f_Place, f_At, f_Finder⟩) : TReport × TFind) (by simp [nz, nz1, ML_nil, encLI, encTFind, encTReport, encTSpan, encTThing]) rfl
theorem c247_pc (r : TReport) (f : TFind) (hpre : smR r) : PCo Try.prog 247 [encTReport r, encTFind f] (Tab.of []) (dB (mAllows r.Places f.Place)) (Tab.of []) := by
  obtain ⟨r_Id, r_Kind, r_Colours, r_SizeLow, r_SizeHigh, r_Places, ⟨r_Span_From, r_Span_Until⟩⟩ := r
  obtain ⟨⟨f_Thing_Id, f_Thing_Kind, f_Thing_Colour, f_Thing_Size, f_Thing_Worth⟩, f_Place, f_At, f_Finder⟩ := f
  refine pco_of_run [] (E := ⟨[c245], []⟩) (m := false) (base := 0) (Env.ok_cons c245_ok Env.ok_nil) G_ok mix 300 6 Try.func247 (by kernel_rfl) rfl (by kernel_rfl) (by kernel_rfl) rfl ?_
  simp [Try.f247]
  simp at hpre
  simp [hpre]
theorem c247_ok : c247.ok Try.prog := mkCon_ok fun ⟨r, f⟩ hpre => c247_pc r f hpre
/-- loop.example/g03007/impl.matchChecks$6 -/
noncomputable def c248 : Con := mkCon 248 false (α := TReport × TFind) (fun x => (fun (r : TReport) (f : TFind) => [encTReport r, encTFind f]) x.1 x.2) (fun _ => []) (fun x => (fun (r : TReport) (f : TFind) => smR r) x.1 x.2) (fun x => (fun (r : TReport) (f : TFind) => (dB (decide (r.Span.From ≤ f.At)) : D)) x.1 x.2) (fun x => (fun (r : TReport) (f : TFind) => []) x.1 x.2)
@[simp] theorem c248_f : c248.f = 248 := rfl
@[simp] theorem c248_own : c248.own = false := rfl
theorem c248_inj : ∀ u_ v_ : TReport × TFind, ((fun x => (fun (r : TReport) (f : TFind) => [encTReport r, encTFind f]) x.1 x.2) u_).map nz = ((fun x => (fun (r : TReport) (f : TFind) => [encTReport r, encTFind f]) x.1 x.2) v_).map nz → u_ = v_ := by
  intro u_ v_ h
  obtain ⟨⟨r_Id, r_Kind, r_Colours, r_SizeLow, r_SizeHigh, r_Places, ⟨r_Span_From, r_Span_Until⟩⟩, ⟨⟨f_Thing_Id, f_Thing_Kind, f_Thing_Colour, f_Thing_Size, f_Thing_Worth⟩, f_Place, f_At, f_Finder⟩⟩ := u_
  obtain ⟨⟨r_Id', r_Kind', r_Colours', r_SizeLow', r_SizeHigh', r_Places', ⟨r_Span_From', r_Span_Until'⟩⟩, ⟨⟨f_Thing_Id', f_Thing_Kind', f_Thing_Colour', f_Thing_Size', f_Thing_Worth'⟩, f_Place', f_At', f_Finder'⟩⟩ := v_
  simp [nz_lit, nz1_lit, nz_agg, nz_sl, nz1_sl, encLI, encTFind, encTReport, encTSpan, encTThing] at h
  first | (simp [h]; done) | (obtain ⟨⟩ := h; simp_all; done) | simp_all
@[simp] theorem c248_fn (r_Id : Int) (r_Kind : Int) (r_Colours : List Int) (r_SizeLow : Int) (r_SizeHigh : Int) (r_Places : List Int) (r_Span_From : Int) (r_Span_Until : Int) (f_Thing_Id : Int) (f_Thing_Kind : Int) (f_Thing_Colour : Int) (f_Thing_Size : Int) (f_Thing_Worth : Int) (f_Place : Int) (f_At : Int) (f_Finder : Int) : c248.fn [.agg [.lit (.int .i64 r_Id), .lit (.int .i64 r_Kind), .sl false 1 (.lit (.int .i64 0)) (ML dI r_Colours), .lit (.int .i64 r_SizeLow), .lit (.int .i64 r_SizeHigh), .sl false 1 (.lit (.int .i64 0)) (ML dI r_Places), .lit (.int .i64 r_Span_From), .lit (.int .i64 r_Span_Until)], .agg [.lit (.int .i64 f_Thing_Id), .lit (.int .i64 f_Thing_Kind), .lit (.int .i64 f_Thing_Colour), .lit (.int .i64 f_Thing_Size), .lit (.int .i64 f_Thing_Worth), .lit (.int .i64 f_Place), .lit (.int .i64 f_At), .lit (.int .i64 f_Finder)]] [] = some ((fun (r : TReport) (f : TFind) => smR r) ⟨r_Id, r_Kind, r_Colours, r_SizeLow, r_SizeHigh, r_Places, ⟨r_Span_From, r_Span_Until⟩⟩ ⟨⟨f_Thing_Id, f_Thing_Kind, f_Thing_Colour, f_Thing_Size, f_Thing_Worth⟩, f_Place, f_At, f_Finder⟩, (fun (r : TReport) (f : TFind) => (dB (decide (r.Span.From ≤ f.At)) : D)) ⟨r_Id, r_Kind, r_Colours, r_SizeLow, r_SizeHigh, r_Places, ⟨r_Span_From, r_Span_Until⟩⟩ ⟨⟨f_Thing_Id, f_Thing_Kind, f_Thing_Colour, f_Thing_Size, f_Thing_Worth⟩, f_Place, f_At, f_Finder⟩, (fun (r : TReport) (f : TFind) => []) ⟨r_Id, r_Kind, r_Colours, r_SizeLow, r_SizeHigh, r_Places, ⟨r_Span_From, r_Span_Until⟩⟩ ⟨⟨f_Thing_Id, f_Thing_Kind, f_Thing_Colour, f_Thing_Size, f_Thing_Worth⟩, f_Place, f_At, f_Finder⟩) :=
  mkCon_fn (fun x y h _ => c248_inj x y h) ((⟨r_Id, r_Kind, r_Colours, r_SizeLow, r_SizeHigh, r_Places, ⟨r_Span_From, r_Span_Until⟩⟩, ⟨⟨f_Thing_Id, f_Thing_Kind, f_Thing_Colour, f_Thing_Size, f_Thing_Worth⟩, f_Place, f_At, f_Finder⟩) : TReport × TFind) (by simp [nz, nz1, ML_nil, encLI, encTFind, encTReport, encTSpan, encTThing]) rfl
theorem c248_pc (r : TReport) (f : TFind) (hpre : smR r) : PCo Try.prog 248 [encTReport r, encTFind f] (Tab.of []) (dB (decide (r.Span.From ≤ f.At))) (Tab.of []) := by
  obtain ⟨r_Id, r_Kind, r_Colours, r_SizeLow, r_SizeHigh, r_Places, ⟨r_Span_From, r_Span_Until⟩⟩ := r
  obtain ⟨⟨f_Thing_Id, f_Thing_Kind, f_Thing_Colour, f_Thing_Size, f_Thing_Worth⟩, f_Place, f_At, f_Finder⟩ := f
  refine pco_of_run [] (E := ⟨[], []⟩) (m := false) (base := 0) Env.ok_nil G_ok mix 300 6 Try.func248 (by kernel_rfl) rfl (by kernel_rfl) (by kernel_rfl) rfl ?_
  simp [Try.f248]
  first | done | rfl
theorem c248_ok : c248.ok Try.prog := mkCon_ok fun ⟨r, f⟩ hpre => c248_pc r f hpre
def wInvalid : ByteArray := ⟨#[105, 110, 118, 97, 108, 105, 100]⟩
/-- loop.example/g03007/impl.matchChecks -/
noncomputable def c227 : Con := mkCon 227 false (α := Unit) (fun _ => []) (fun _ => []) (fun _ => True) (fun _ => (.sl false 2 .any [.agg [.lit (.string ⟨#[105, 110, 118, 97, 108, 105, 100]⟩), .fn (.func 242) [] []], .agg [.lit (.string ⟨#[107, 105, 110, 100]⟩), .fn (.func 243) [] []], .agg [.lit (.string ⟨#[99, 111, 108, 111, 117, 114]⟩), .fn (.func 244) [] []], .agg [.lit (.string ⟨#[115, 105, 122, 101]⟩), .fn (.func 246) [] []], .agg [.lit (.string ⟨#[112, 108, 97, 99, 101]⟩), .fn (.func 247) [] []], .agg [.lit (.string ⟨#[116, 105, 109, 101]⟩), .fn (.func 248) [] []]] : D)) (fun _ => [])
@[simp] theorem c227_f : c227.f = 227 := rfl
@[simp] theorem c227_own : c227.own = false := rfl
theorem c227_inj : ∀ x y : Unit, ((fun _ => []) x).map nz = ((fun _ => []) y).map nz → x = y := fun _ _ _ => rfl
@[simp] theorem c227_fn : c227.fn [] [] = some (True, (.sl false 2 .any [.agg [.lit (.string ⟨#[105, 110, 118, 97, 108, 105, 100]⟩), .fn (.func 242) [] []], .agg [.lit (.string ⟨#[107, 105, 110, 100]⟩), .fn (.func 243) [] []], .agg [.lit (.string ⟨#[99, 111, 108, 111, 117, 114]⟩), .fn (.func 244) [] []], .agg [.lit (.string ⟨#[115, 105, 122, 101]⟩), .fn (.func 246) [] []], .agg [.lit (.string ⟨#[112, 108, 97, 99, 101]⟩), .fn (.func 247) [] []], .agg [.lit (.string ⟨#[116, 105, 109, 101]⟩), .fn (.func 248) [] []]] : D), []) :=
  mkCon_fn (fun x y h _ => c227_inj x y h) (() : Unit) (by simp [nz, nz1, ML_nil]) rfl
theorem c227_pc  : PCo Try.prog 227 [] (Tab.of []) (.sl false 2 .any [.agg [.lit (.string ⟨#[105, 110, 118, 97, 108, 105, 100]⟩), .fn (.func 242) [] []], .agg [.lit (.string ⟨#[107, 105, 110, 100]⟩), .fn (.func 243) [] []], .agg [.lit (.string ⟨#[99, 111, 108, 111, 117, 114]⟩), .fn (.func 244) [] []], .agg [.lit (.string ⟨#[115, 105, 122, 101]⟩), .fn (.func 246) [] []], .agg [.lit (.string ⟨#[112, 108, 97, 99, 101]⟩), .fn (.func 247) [] []], .agg [.lit (.string ⟨#[116, 105, 109, 101]⟩), .fn (.func 248) [] []]]) (Tab.of []) := by
  refine pco_of_run [] (E := ⟨[c242, c243, c244, c246, c247, c248], []⟩) (m := false) (base := 0) (Env.ok_cons c242_ok (Env.ok_cons c243_ok (Env.ok_cons c244_ok (Env.ok_cons c246_ok (Env.ok_cons c247_ok (Env.ok_cons c248_ok Env.ok_nil)))))) G_ok mix 300 6 Try.func227 (by kernel_rfl) rfl (by kernel_rfl) (by kernel_rfl) rfl ?_
  simp [Try.f227]
  all_goals first | omega | (rw [Bool.eq_iff_iff]; simp; omega) | grind
theorem c227_ok : c227.ok Try.prog := mkCon_ok fun _ hpre => c227_pc 
def mWhyNot (r : TReport) (f : TFind) : ByteArray := if (mIsReport r && mIsFind f) = false then ⟨#[105, 110, 118, 97, 108, 105, 100]⟩ else if r.Kind ≠ f.Thing.Kind then ⟨#[107, 105, 110, 100]⟩ else if mAllows r.Colours f.Thing.Colour = false then ⟨#[99, 111, 108, 111, 117, 114]⟩ else if mIn f.Thing.Size r.SizeLow r.SizeHigh = false then ⟨#[115, 105, 122, 101]⟩ else if mAllows r.Places f.Place = false then ⟨#[112, 108, 97, 99, 101]⟩ else if f.At < r.Span.From then ⟨#[116, 105, 109, 101]⟩ else ⟨#[]⟩
/-- loop.example/g03007/impl.WhyNot -/
noncomputable def c199 : Con := mkCon 199 false (α := TReport × TFind) (fun x => (fun (r : TReport) (f : TFind) => [encTReport r, encTFind f]) x.1 x.2) (fun _ => []) (fun x => (fun (r : TReport) (f : TFind) => smR r) x.1 x.2) (fun x => (fun (r : TReport) (f : TFind) => (dS (mWhyNot r f) : D)) x.1 x.2) (fun x => (fun (r : TReport) (f : TFind) => []) x.1 x.2)
@[simp] theorem c199_f : c199.f = 199 := rfl
@[simp] theorem c199_own : c199.own = false := rfl
theorem c199_inj : ∀ u_ v_ : TReport × TFind, ((fun x => (fun (r : TReport) (f : TFind) => [encTReport r, encTFind f]) x.1 x.2) u_).map nz = ((fun x => (fun (r : TReport) (f : TFind) => [encTReport r, encTFind f]) x.1 x.2) v_).map nz → u_ = v_ := by
  intro u_ v_ h
  obtain ⟨⟨r_Id, r_Kind, r_Colours, r_SizeLow, r_SizeHigh, r_Places, ⟨r_Span_From, r_Span_Until⟩⟩, ⟨⟨f_Thing_Id, f_Thing_Kind, f_Thing_Colour, f_Thing_Size, f_Thing_Worth⟩, f_Place, f_At, f_Finder⟩⟩ := u_
  obtain ⟨⟨r_Id', r_Kind', r_Colours', r_SizeLow', r_SizeHigh', r_Places', ⟨r_Span_From', r_Span_Until'⟩⟩, ⟨⟨f_Thing_Id', f_Thing_Kind', f_Thing_Colour', f_Thing_Size', f_Thing_Worth'⟩, f_Place', f_At', f_Finder'⟩⟩ := v_
  simp [nz_lit, nz1_lit, nz_agg, nz_sl, nz1_sl, encLI, encTFind, encTReport, encTSpan, encTThing] at h
  first | (simp [h]; done) | (obtain ⟨⟩ := h; simp_all; done) | simp_all
@[simp] theorem c199_fn (r_Id : Int) (r_Kind : Int) (r_Colours : List Int) (r_SizeLow : Int) (r_SizeHigh : Int) (r_Places : List Int) (r_Span_From : Int) (r_Span_Until : Int) (f_Thing_Id : Int) (f_Thing_Kind : Int) (f_Thing_Colour : Int) (f_Thing_Size : Int) (f_Thing_Worth : Int) (f_Place : Int) (f_At : Int) (f_Finder : Int) : c199.fn [.agg [.lit (.int .i64 r_Id), .lit (.int .i64 r_Kind), .sl false 1 (.lit (.int .i64 0)) (ML dI r_Colours), .lit (.int .i64 r_SizeLow), .lit (.int .i64 r_SizeHigh), .sl false 1 (.lit (.int .i64 0)) (ML dI r_Places), .lit (.int .i64 r_Span_From), .lit (.int .i64 r_Span_Until)], .agg [.lit (.int .i64 f_Thing_Id), .lit (.int .i64 f_Thing_Kind), .lit (.int .i64 f_Thing_Colour), .lit (.int .i64 f_Thing_Size), .lit (.int .i64 f_Thing_Worth), .lit (.int .i64 f_Place), .lit (.int .i64 f_At), .lit (.int .i64 f_Finder)]] [] = some ((fun (r : TReport) (f : TFind) => smR r) ⟨r_Id, r_Kind, r_Colours, r_SizeLow, r_SizeHigh, r_Places, ⟨r_Span_From, r_Span_Until⟩⟩ ⟨⟨f_Thing_Id, f_Thing_Kind, f_Thing_Colour, f_Thing_Size, f_Thing_Worth⟩, f_Place, f_At, f_Finder⟩, (fun (r : TReport) (f : TFind) => (dS (mWhyNot r f) : D)) ⟨r_Id, r_Kind, r_Colours, r_SizeLow, r_SizeHigh, r_Places, ⟨r_Span_From, r_Span_Until⟩⟩ ⟨⟨f_Thing_Id, f_Thing_Kind, f_Thing_Colour, f_Thing_Size, f_Thing_Worth⟩, f_Place, f_At, f_Finder⟩, (fun (r : TReport) (f : TFind) => []) ⟨r_Id, r_Kind, r_Colours, r_SizeLow, r_SizeHigh, r_Places, ⟨r_Span_From, r_Span_Until⟩⟩ ⟨⟨f_Thing_Id, f_Thing_Kind, f_Thing_Colour, f_Thing_Size, f_Thing_Worth⟩, f_Place, f_At, f_Finder⟩) :=
  mkCon_fn (fun x y h _ => c199_inj x y h) ((⟨r_Id, r_Kind, r_Colours, r_SizeLow, r_SizeHigh, r_Places, ⟨r_Span_From, r_Span_Until⟩⟩, ⟨⟨f_Thing_Id, f_Thing_Kind, f_Thing_Colour, f_Thing_Size, f_Thing_Worth⟩, f_Place, f_At, f_Finder⟩) : TReport × TFind) (by simp [nz, nz1, ML_nil, encLI, encTFind, encTReport, encTSpan, encTThing]) rfl
theorem c199_pc (r : TReport) (f : TFind) (hpre : smR r) : PCo Try.prog 199 [encTReport r, encTFind f] (Tab.of []) (dS (mWhyNot r f)) (Tab.of []) := by
  refine pco_of_run [] (E := ⟨[c227, c242, c243, c244, c246, c247, c248], []⟩) (m := false) (base := 0) (Env.ok_cons c227_ok (Env.ok_cons c242_ok (Env.ok_cons c243_ok (Env.ok_cons c244_ok (Env.ok_cons c246_ok (Env.ok_cons c247_ok (Env.ok_cons c248_ok Env.ok_nil))))))) G_ok mix 300 6 Try.func199 (by kernel_rfl) rfl (by kernel_rfl) (by kernel_rfl) rfl ?_
  simp at hpre
  simp [Try.f199, hpre]
  refine loop_unroll 600 ?_
  simp [hpre]
  grind [mWhyNot]
theorem c199_ok : c199.ok Try.prog := mkCon_ok fun ⟨r, f⟩ hpre => c199_pc r f hpre
/-- loop.example/g03007/spec.WhyNot -/
noncomputable def c195 : Con := mkCon 195 false (α := TReport × TFind) (fun x => (fun (r : TReport) (f : TFind) => [encTReport r, encTFind f]) x.1 x.2) (fun _ => []) (fun x => (fun (r : TReport) (f : TFind) => smR r) x.1 x.2) (fun x => (fun (r : TReport) (f : TFind) => (dS (mWhyNot r f) : D)) x.1 x.2) (fun x => (fun (r : TReport) (f : TFind) => []) x.1 x.2)
@[simp] theorem c195_f : c195.f = 195 := rfl
@[simp] theorem c195_own : c195.own = false := rfl
theorem c195_inj : ∀ u_ v_ : TReport × TFind, ((fun x => (fun (r : TReport) (f : TFind) => [encTReport r, encTFind f]) x.1 x.2) u_).map nz = ((fun x => (fun (r : TReport) (f : TFind) => [encTReport r, encTFind f]) x.1 x.2) v_).map nz → u_ = v_ := by
  intro u_ v_ h
  obtain ⟨⟨r_Id, r_Kind, r_Colours, r_SizeLow, r_SizeHigh, r_Places, ⟨r_Span_From, r_Span_Until⟩⟩, ⟨⟨f_Thing_Id, f_Thing_Kind, f_Thing_Colour, f_Thing_Size, f_Thing_Worth⟩, f_Place, f_At, f_Finder⟩⟩ := u_
  obtain ⟨⟨r_Id', r_Kind', r_Colours', r_SizeLow', r_SizeHigh', r_Places', ⟨r_Span_From', r_Span_Until'⟩⟩, ⟨⟨f_Thing_Id', f_Thing_Kind', f_Thing_Colour', f_Thing_Size', f_Thing_Worth'⟩, f_Place', f_At', f_Finder'⟩⟩ := v_
  simp [nz_lit, nz1_lit, nz_agg, nz_sl, nz1_sl, encLI, encTFind, encTReport, encTSpan, encTThing] at h
  first | (simp [h]; done) | (obtain ⟨⟩ := h; simp_all; done) | simp_all
@[simp] theorem c195_fn (r_Id : Int) (r_Kind : Int) (r_Colours : List Int) (r_SizeLow : Int) (r_SizeHigh : Int) (r_Places : List Int) (r_Span_From : Int) (r_Span_Until : Int) (f_Thing_Id : Int) (f_Thing_Kind : Int) (f_Thing_Colour : Int) (f_Thing_Size : Int) (f_Thing_Worth : Int) (f_Place : Int) (f_At : Int) (f_Finder : Int) : c195.fn [.agg [.lit (.int .i64 r_Id), .lit (.int .i64 r_Kind), .sl false 1 (.lit (.int .i64 0)) (ML dI r_Colours), .lit (.int .i64 r_SizeLow), .lit (.int .i64 r_SizeHigh), .sl false 1 (.lit (.int .i64 0)) (ML dI r_Places), .lit (.int .i64 r_Span_From), .lit (.int .i64 r_Span_Until)], .agg [.lit (.int .i64 f_Thing_Id), .lit (.int .i64 f_Thing_Kind), .lit (.int .i64 f_Thing_Colour), .lit (.int .i64 f_Thing_Size), .lit (.int .i64 f_Thing_Worth), .lit (.int .i64 f_Place), .lit (.int .i64 f_At), .lit (.int .i64 f_Finder)]] [] = some ((fun (r : TReport) (f : TFind) => smR r) ⟨r_Id, r_Kind, r_Colours, r_SizeLow, r_SizeHigh, r_Places, ⟨r_Span_From, r_Span_Until⟩⟩ ⟨⟨f_Thing_Id, f_Thing_Kind, f_Thing_Colour, f_Thing_Size, f_Thing_Worth⟩, f_Place, f_At, f_Finder⟩, (fun (r : TReport) (f : TFind) => (dS (mWhyNot r f) : D)) ⟨r_Id, r_Kind, r_Colours, r_SizeLow, r_SizeHigh, r_Places, ⟨r_Span_From, r_Span_Until⟩⟩ ⟨⟨f_Thing_Id, f_Thing_Kind, f_Thing_Colour, f_Thing_Size, f_Thing_Worth⟩, f_Place, f_At, f_Finder⟩, (fun (r : TReport) (f : TFind) => []) ⟨r_Id, r_Kind, r_Colours, r_SizeLow, r_SizeHigh, r_Places, ⟨r_Span_From, r_Span_Until⟩⟩ ⟨⟨f_Thing_Id, f_Thing_Kind, f_Thing_Colour, f_Thing_Size, f_Thing_Worth⟩, f_Place, f_At, f_Finder⟩) :=
  mkCon_fn (fun x y h _ => c195_inj x y h) ((⟨r_Id, r_Kind, r_Colours, r_SizeLow, r_SizeHigh, r_Places, ⟨r_Span_From, r_Span_Until⟩⟩, ⟨⟨f_Thing_Id, f_Thing_Kind, f_Thing_Colour, f_Thing_Size, f_Thing_Worth⟩, f_Place, f_At, f_Finder⟩) : TReport × TFind) (by simp [nz, nz1, ML_nil, encLI, encTFind, encTReport, encTSpan, encTThing]) rfl
theorem c195_pc (r : TReport) (f : TFind) (hpre : smR r) : PCo Try.prog 195 [encTReport r, encTFind f] (Tab.of []) (dS (mWhyNot r f)) (Tab.of []) := by
  refine pco_of_run [] (E := ⟨[c102, c107, c194, c201], []⟩) (m := false) (base := 0) (Env.ok_cons c102_ok (Env.ok_cons c107_ok (Env.ok_cons c194_ok (Env.ok_cons c201_ok Env.ok_nil)))) G_ok mix 300 6 Try.func195 (by kernel_rfl) rfl (by kernel_rfl) (by kernel_rfl) rfl ?_
  simp [Try.f195]
  simp at hpre
  simp [hpre]
  grind [mWhyNot, mAllows]
theorem c195_ok : c195.ok Try.prog := mkCon_ok fun ⟨r, f⟩ hpre => c195_pc r f hpre
def mCanBe (r : TReport) (f : TFind) : Bool := mIsReport r && mIsFind f && decide (r.Kind = f.Thing.Kind) && mAllows r.Colours f.Thing.Colour && mIn f.Thing.Size r.SizeLow r.SizeHigh && mAllows r.Places f.Place && decide (r.Span.From ≤ f.At)
theorem canBe_why (r : TReport) (f : TFind) : decide (mWhyNot r f = ⟨#[]⟩) = mCanBe r f := by
  have e1 : ((⟨#[105, 110, 118, 97, 108, 105, 100]⟩ : ByteArray) = ⟨#[]⟩) = False := by simp
  have e2 : ((⟨#[107, 105, 110, 100]⟩ : ByteArray) = ⟨#[]⟩) = False := by simp
  have e3 : ((⟨#[99, 111, 108, 111, 117, 114]⟩ : ByteArray) = ⟨#[]⟩) = False := by simp
  have e4 : ((⟨#[115, 105, 122, 101]⟩ : ByteArray) = ⟨#[]⟩) = False := by simp
  have e5 : ((⟨#[112, 108, 97, 99, 101]⟩ : ByteArray) = ⟨#[]⟩) = False := by simp
  have e6 : ((⟨#[116, 105, 109, 101]⟩ : ByteArray) = ⟨#[]⟩) = False := by simp
  rw [Bool.eq_iff_iff]
  simp only [mWhyNot, mCanBe, decide_eq_true_eq, Bool.and_eq_true]
  (repeat' split) <;> simp_all
  all_goals trace_state
/-- loop.example/g03007/impl.CanBe -/
noncomputable def c125 : Con := mkCon 125 false (α := TReport × TFind) (fun x => (fun (r : TReport) (f : TFind) => [encTReport r, encTFind f]) x.1 x.2) (fun _ => []) (fun x => (fun (r : TReport) (f : TFind) => smR r) x.1 x.2) (fun x => (fun (r : TReport) (f : TFind) => (dB (mCanBe r f) : D)) x.1 x.2) (fun x => (fun (r : TReport) (f : TFind) => []) x.1 x.2)
@[simp] theorem c125_f : c125.f = 125 := rfl
@[simp] theorem c125_own : c125.own = false := rfl
theorem c125_inj : ∀ u_ v_ : TReport × TFind, ((fun x => (fun (r : TReport) (f : TFind) => [encTReport r, encTFind f]) x.1 x.2) u_).map nz = ((fun x => (fun (r : TReport) (f : TFind) => [encTReport r, encTFind f]) x.1 x.2) v_).map nz → u_ = v_ := by
  intro u_ v_ h
  obtain ⟨⟨r_Id, r_Kind, r_Colours, r_SizeLow, r_SizeHigh, r_Places, ⟨r_Span_From, r_Span_Until⟩⟩, ⟨⟨f_Thing_Id, f_Thing_Kind, f_Thing_Colour, f_Thing_Size, f_Thing_Worth⟩, f_Place, f_At, f_Finder⟩⟩ := u_
  obtain ⟨⟨r_Id', r_Kind', r_Colours', r_SizeLow', r_SizeHigh', r_Places', ⟨r_Span_From', r_Span_Until'⟩⟩, ⟨⟨f_Thing_Id', f_Thing_Kind', f_Thing_Colour', f_Thing_Size', f_Thing_Worth'⟩, f_Place', f_At', f_Finder'⟩⟩ := v_
  simp [nz_lit, nz1_lit, nz_agg, nz_sl, nz1_sl, encLI, encTFind, encTReport, encTSpan, encTThing] at h
  first | (simp [h]; done) | (obtain ⟨⟩ := h; simp_all; done) | simp_all
@[simp] theorem c125_fn (r_Id : Int) (r_Kind : Int) (r_Colours : List Int) (r_SizeLow : Int) (r_SizeHigh : Int) (r_Places : List Int) (r_Span_From : Int) (r_Span_Until : Int) (f_Thing_Id : Int) (f_Thing_Kind : Int) (f_Thing_Colour : Int) (f_Thing_Size : Int) (f_Thing_Worth : Int) (f_Place : Int) (f_At : Int) (f_Finder : Int) : c125.fn [.agg [.lit (.int .i64 r_Id), .lit (.int .i64 r_Kind), .sl false 1 (.lit (.int .i64 0)) (ML dI r_Colours), .lit (.int .i64 r_SizeLow), .lit (.int .i64 r_SizeHigh), .sl false 1 (.lit (.int .i64 0)) (ML dI r_Places), .lit (.int .i64 r_Span_From), .lit (.int .i64 r_Span_Until)], .agg [.lit (.int .i64 f_Thing_Id), .lit (.int .i64 f_Thing_Kind), .lit (.int .i64 f_Thing_Colour), .lit (.int .i64 f_Thing_Size), .lit (.int .i64 f_Thing_Worth), .lit (.int .i64 f_Place), .lit (.int .i64 f_At), .lit (.int .i64 f_Finder)]] [] = some ((fun (r : TReport) (f : TFind) => smR r) ⟨r_Id, r_Kind, r_Colours, r_SizeLow, r_SizeHigh, r_Places, ⟨r_Span_From, r_Span_Until⟩⟩ ⟨⟨f_Thing_Id, f_Thing_Kind, f_Thing_Colour, f_Thing_Size, f_Thing_Worth⟩, f_Place, f_At, f_Finder⟩, (fun (r : TReport) (f : TFind) => (dB (mCanBe r f) : D)) ⟨r_Id, r_Kind, r_Colours, r_SizeLow, r_SizeHigh, r_Places, ⟨r_Span_From, r_Span_Until⟩⟩ ⟨⟨f_Thing_Id, f_Thing_Kind, f_Thing_Colour, f_Thing_Size, f_Thing_Worth⟩, f_Place, f_At, f_Finder⟩, (fun (r : TReport) (f : TFind) => []) ⟨r_Id, r_Kind, r_Colours, r_SizeLow, r_SizeHigh, r_Places, ⟨r_Span_From, r_Span_Until⟩⟩ ⟨⟨f_Thing_Id, f_Thing_Kind, f_Thing_Colour, f_Thing_Size, f_Thing_Worth⟩, f_Place, f_At, f_Finder⟩) :=
  mkCon_fn (fun x y h _ => c125_inj x y h) ((⟨r_Id, r_Kind, r_Colours, r_SizeLow, r_SizeHigh, r_Places, ⟨r_Span_From, r_Span_Until⟩⟩, ⟨⟨f_Thing_Id, f_Thing_Kind, f_Thing_Colour, f_Thing_Size, f_Thing_Worth⟩, f_Place, f_At, f_Finder⟩) : TReport × TFind) (by simp [nz, nz1, ML_nil, encLI, encTFind, encTReport, encTSpan, encTThing]) rfl
theorem c125_pc (r : TReport) (f : TFind) (hpre : smR r) : PCo Try.prog 125 [encTReport r, encTFind f] (Tab.of []) (dB (mCanBe r f)) (Tab.of []) := by
  refine pco_of_run [] (E := ⟨[c199], []⟩) (m := false) (base := 0) (Env.ok_cons c199_ok Env.ok_nil) G_ok mix 300 6 Try.func125 (by kernel_rfl) rfl (by kernel_rfl) (by kernel_rfl) rfl ?_
  simp [Try.f125]
  simp at hpre
  simp [hpre, ← canBe_why]
theorem c125_ok : c125.ok Try.prog := mkCon_ok fun ⟨r, f⟩ hpre => c125_pc r f hpre
/-- loop.example/g03007/spec.CanBe -/
noncomputable def c120 : Con := mkCon 120 false (α := TReport × TFind) (fun x => (fun (r : TReport) (f : TFind) => [encTReport r, encTFind f]) x.1 x.2) (fun _ => []) (fun x => (fun (r : TReport) (f : TFind) => smR r) x.1 x.2) (fun x => (fun (r : TReport) (f : TFind) => (dB (mCanBe r f) : D)) x.1 x.2) (fun x => (fun (r : TReport) (f : TFind) => []) x.1 x.2)
@[simp] theorem c120_f : c120.f = 120 := rfl
@[simp] theorem c120_own : c120.own = false := rfl
theorem c120_inj : ∀ u_ v_ : TReport × TFind, ((fun x => (fun (r : TReport) (f : TFind) => [encTReport r, encTFind f]) x.1 x.2) u_).map nz = ((fun x => (fun (r : TReport) (f : TFind) => [encTReport r, encTFind f]) x.1 x.2) v_).map nz → u_ = v_ := by
  intro u_ v_ h
  obtain ⟨⟨r_Id, r_Kind, r_Colours, r_SizeLow, r_SizeHigh, r_Places, ⟨r_Span_From, r_Span_Until⟩⟩, ⟨⟨f_Thing_Id, f_Thing_Kind, f_Thing_Colour, f_Thing_Size, f_Thing_Worth⟩, f_Place, f_At, f_Finder⟩⟩ := u_
  obtain ⟨⟨r_Id', r_Kind', r_Colours', r_SizeLow', r_SizeHigh', r_Places', ⟨r_Span_From', r_Span_Until'⟩⟩, ⟨⟨f_Thing_Id', f_Thing_Kind', f_Thing_Colour', f_Thing_Size', f_Thing_Worth'⟩, f_Place', f_At', f_Finder'⟩⟩ := v_
  simp [nz_lit, nz1_lit, nz_agg, nz_sl, nz1_sl, encLI, encTFind, encTReport, encTSpan, encTThing] at h
  first | (simp [h]; done) | (obtain ⟨⟩ := h; simp_all; done) | simp_all
@[simp] theorem c120_fn (r_Id : Int) (r_Kind : Int) (r_Colours : List Int) (r_SizeLow : Int) (r_SizeHigh : Int) (r_Places : List Int) (r_Span_From : Int) (r_Span_Until : Int) (f_Thing_Id : Int) (f_Thing_Kind : Int) (f_Thing_Colour : Int) (f_Thing_Size : Int) (f_Thing_Worth : Int) (f_Place : Int) (f_At : Int) (f_Finder : Int) : c120.fn [.agg [.lit (.int .i64 r_Id), .lit (.int .i64 r_Kind), .sl false 1 (.lit (.int .i64 0)) (ML dI r_Colours), .lit (.int .i64 r_SizeLow), .lit (.int .i64 r_SizeHigh), .sl false 1 (.lit (.int .i64 0)) (ML dI r_Places), .lit (.int .i64 r_Span_From), .lit (.int .i64 r_Span_Until)], .agg [.lit (.int .i64 f_Thing_Id), .lit (.int .i64 f_Thing_Kind), .lit (.int .i64 f_Thing_Colour), .lit (.int .i64 f_Thing_Size), .lit (.int .i64 f_Thing_Worth), .lit (.int .i64 f_Place), .lit (.int .i64 f_At), .lit (.int .i64 f_Finder)]] [] = some ((fun (r : TReport) (f : TFind) => smR r) ⟨r_Id, r_Kind, r_Colours, r_SizeLow, r_SizeHigh, r_Places, ⟨r_Span_From, r_Span_Until⟩⟩ ⟨⟨f_Thing_Id, f_Thing_Kind, f_Thing_Colour, f_Thing_Size, f_Thing_Worth⟩, f_Place, f_At, f_Finder⟩, (fun (r : TReport) (f : TFind) => (dB (mCanBe r f) : D)) ⟨r_Id, r_Kind, r_Colours, r_SizeLow, r_SizeHigh, r_Places, ⟨r_Span_From, r_Span_Until⟩⟩ ⟨⟨f_Thing_Id, f_Thing_Kind, f_Thing_Colour, f_Thing_Size, f_Thing_Worth⟩, f_Place, f_At, f_Finder⟩, (fun (r : TReport) (f : TFind) => []) ⟨r_Id, r_Kind, r_Colours, r_SizeLow, r_SizeHigh, r_Places, ⟨r_Span_From, r_Span_Until⟩⟩ ⟨⟨f_Thing_Id, f_Thing_Kind, f_Thing_Colour, f_Thing_Size, f_Thing_Worth⟩, f_Place, f_At, f_Finder⟩) :=
  mkCon_fn (fun x y h _ => c120_inj x y h) ((⟨r_Id, r_Kind, r_Colours, r_SizeLow, r_SizeHigh, r_Places, ⟨r_Span_From, r_Span_Until⟩⟩, ⟨⟨f_Thing_Id, f_Thing_Kind, f_Thing_Colour, f_Thing_Size, f_Thing_Worth⟩, f_Place, f_At, f_Finder⟩) : TReport × TFind) (by simp [nz, nz1, ML_nil, encLI, encTFind, encTReport, encTSpan, encTThing]) rfl
theorem c120_pc (r : TReport) (f : TFind) (hpre : smR r) : PCo Try.prog 120 [encTReport r, encTFind f] (Tab.of []) (dB (mCanBe r f)) (Tab.of []) := by
  refine pco_of_run [] (E := ⟨[c195], []⟩) (m := false) (base := 0) (Env.ok_cons c195_ok Env.ok_nil) G_ok mix 300 6 Try.func120 (by kernel_rfl) rfl (by kernel_rfl) (by kernel_rfl) rfl ?_
  simp [Try.f120]
  simp at hpre
  simp [hpre, ← canBe_why]
theorem c120_ok : c120.ok Try.prog := mkCon_ok fun ⟨r, f⟩ hpre => c120_pc r f hpre
def b2i (b : Bool) : Int := if b then 1 else 0
theorem b2i_bd (b : Bool) : 0 ≤ b2i b ∧ b2i b ≤ 1 := by cases b <;> simp [b2i]
def mScore (r : TReport) (f : TFind) : Int := if mCanBe r f then 1 + b2i (mIn r.Colours.length 1 2) + b2i (decide (r.SizeHigh - r.SizeLow ≤ 5)) + b2i (mIn r.Places.length 1 2) + b2i (decide (f.At ≤ r.Span.Until + 24)) else 0
theorem canBe_bd {r : TReport} {f : TFind} (h : mCanBe r f = true) : (1 ≤ r.SizeLow ∧ r.SizeLow ≤ r.SizeHigh ∧ r.SizeHigh ≤ 50) ∧ (0 ≤ r.Span.From ∧ r.Span.From ≤ r.Span.Until ∧ r.Span.Until ≤ 100000) ∧ 0 ≤ f.At ∧ f.At ≤ 100000 := by
  simp [mCanBe, mIsReport, mIsFind, mIsSpan, mIn] at h; omega
end Go.Proofs.YtmhbciaolpamaaaR
