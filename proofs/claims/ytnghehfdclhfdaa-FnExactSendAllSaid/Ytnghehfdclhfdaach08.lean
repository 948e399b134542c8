/- Contracts of the functions that the laws run. -/
import Derived.Test.Ytnghehfdclhfdaach07
import Derived.Test.YtnghehfdclhfdaaEngB
namespace Go.Proofs.Ytnghehfdclhfdaa
open Go Go.Eng
set_option linter.unusedSimpArgs false
set_option linter.unusedVariables false
set_option maxRecDepth 10000
set_option maxHeartbeats 1000000
theorem mem_at {l : List Int} {p : Nat} {n : Int} (h : p < l.length) : n ∈ l.drop p ↔ (n = l[p]?.getD 0 ∨ n ∈ l.drop (p + 1)) := by
  rw [drop_at (d := 0) h, List.mem_cons]
theorem mem_end {l : List Int} {p : Nat} {n : Int} (h : l.length ≤ p) : ¬ n ∈ l.drop p := by
  rw [List.drop_eq_nil_of_le h]; simp
theorem indexBy_mem {n : Int} : ∀ (l : List Int) (i : Int), 0 ≤ i → (0 ≤ indexBy (wantN (fun x => x) n) i l ↔ n ∈ l)
  | [], i, _ => by simp [indexBy]
  | x :: r, i, hi => by
    simp only [indexBy, List.mem_cons]
    by_cases h : x = n
    · have hw : wantN (fun x => x) n x = true := by simp [wantN, h]
      rw [if_pos hw]; simp [hi, h]
    · have hw : wantN (fun x => x) n x = false := by simp [wantN, h]
      rw [if_neg (by simp [hw]), indexBy_mem r (i + 1) (by omega)]
      constructor
      · exact .inr
      · rintro (e | e)
        · exact absurd e.symm h
        · exact e
/-- slices.Index[[]in -/
noncomputable def c141 : Con := mkCon 141 false (α := (List Int) × Int) (fun x => (fun (l : List Int) (n : Int) => [encLI l, dI n]) x.1 x.2) (fun _ => []) (fun x => (fun (l : List Int) (n : Int) => l.length ≤ 1099511627776) x.1 x.2) (fun x => (fun (l : List Int) (n : Int) => (dI (indexBy (wantN (fun x => x) n) 0 l) : D)) x.1 x.2) (fun x => (fun (l : List Int) (n : Int) => []) x.1 x.2)
@[simp] theorem c141_f : c141.f = 141 := rfl
@[simp] theorem c141_own : c141.own = false := rfl
theorem c141_inj : ∀ u_ v_ : (List Int) × Int, ((fun x => (fun (l : List Int) (n : Int) => [encLI l, dI n]) x.1 x.2) u_).map nz = ((fun x => (fun (l : List Int) (n : Int) => [encLI l, dI n]) x.1 x.2) v_).map nz → u_ = v_ := by
  intro u_ v_ h
  obtain ⟨l, n⟩ := u_
  obtain ⟨l', n'⟩ := v_
  simp [nz_lit, nz1_lit, nz_agg, nz_sl, nz1_sl, encLI] at h
  first | (simp [h]; done) | (obtain ⟨⟩ := h; simp_all; done) | simp_all
@[simp] theorem c141_fn (l : List Int) (n : Int) : c141.fn [.sl false 1 (.lit (.int .i64 0)) (ML dI l), .lit (.int .i64 n)] [] = some ((fun (l : List Int) (n : Int) => l.length ≤ 1099511627776) l n, (fun (l : List Int) (n : Int) => (dI (indexBy (wantN (fun x => x) n) 0 l) : D)) l n, (fun (l : List Int) (n : Int) => []) l n) :=
  mkCon_fn (fun x y h _ => c141_inj x y h) ((l, n) : (List Int) × Int) (by simp [nz, nz1, ML_nil, encLI]) rfl
@[simp] theorem c141_fn1 (s_l : Nat) (z_l : D) (n : Int) : c141.fn [.sl false s_l z_l [], .lit (.int .i64 n)] [] = some ((fun (l : List Int) (n : Int) => l.length ≤ 1099511627776) [] n, (fun (l : List Int) (n : Int) => (dI (indexBy (wantN (fun x => x) n) 0 l) : D)) [] n, (fun (l : List Int) (n : Int) => []) [] n) :=
  mkCon_fn (fun x y h _ => c141_inj x y h) (([], n) : (List Int) × Int) (by simp [nz, nz1, ML_nil, encLI]) rfl
theorem c141_pc (l : List Int) (n : Int) (hpre : l.length ≤ 1099511627776) : PCo Try.prog 141 [encLI l, dI n] (Tab.of []) (dI (indexBy (wantN (fun x => x) n) 0 l)) (Tab.of []) := by
  refine pco_of_run [] (E := ⟨[], [], []⟩) (m := false) (base := 0) Env.ok_nil G_ok mix 300 6 Try.func141 (by kernel_rfl) rfl (by kernel_rfl) (by kernel_rfl) rfl ?_
  simp [Try.f141]
  refine loop_inv (fun p : Nat => p ≤ l.length ∧ indexBy (wantN (fun x => x) n) 0 l = indexBy (wantN (fun x => x) n) p (l.drop p)) (fun p => [(0, encLI l), (1, dI n), (7, dI l.length), (8, dI p)]) (fun _ => []) 1 (fun p => l.length - p) 0 400 (by simp) (by simp) (by simp) ?_
  intro p ⟨hp, hi⟩
  simp
  refine ⟨fun hlt => ?_, fun hge => ?_⟩
  · rw [indexBy_at (d := 0) hlt] at hi; simp only [wantN, decide_eq_true_eq] at hi
    repeat' (first | omega | refine And.intro ?_ ?_ | intro _)
    all_goals first | exact Again.mk (p + 1) ⟨by omega, by rw [hi]; grind⟩ (by simp) (by first | omega | (simp; omega)) | (rw [hi]; grind)
  · rw [hi, indexBy_end hge]
theorem c141_ok : c141.ok Try.prog := mkCon_ok fun ⟨l, n⟩ hpre => c141_pc l n hpre
/-- slices.Contains[[]in -/
noncomputable def c110 : Con := mkCon 110 false (α := (List Int) × Int) (fun x => (fun (l : List Int) (n : Int) => [encLI l, dI n]) x.1 x.2) (fun _ => []) (fun x => (fun (l : List Int) (n : Int) => l.length ≤ 1099511627776) x.1 x.2) (fun x => (fun (l : List Int) (n : Int) => (dB (decide (n ∈ l)) : D)) x.1 x.2) (fun x => (fun (l : List Int) (n : Int) => []) x.1 x.2)
@[simp] theorem c110_f : c110.f = 110 := rfl
@[simp] theorem c110_own : c110.own = false := rfl
theorem c110_inj : ∀ u_ v_ : (List Int) × Int, ((fun x => (fun (l : List Int) (n : Int) => [encLI l, dI n]) x.1 x.2) u_).map nz = ((fun x => (fun (l : List Int) (n : Int) => [encLI l, dI n]) x.1 x.2) v_).map nz → u_ = v_ := by
  intro u_ v_ h
  obtain ⟨l, n⟩ := u_
  obtain ⟨l', n'⟩ := v_
  simp [nz_lit, nz1_lit, nz_agg, nz_sl, nz1_sl, encLI] at h
  first | (simp [h]; done) | (obtain ⟨⟩ := h; simp_all; done) | simp_all
@[simp] theorem c110_fn (l : List Int) (n : Int) : c110.fn [.sl false 1 (.lit (.int .i64 0)) (ML dI l), .lit (.int .i64 n)] [] = some ((fun (l : List Int) (n : Int) => l.length ≤ 1099511627776) l n, (fun (l : List Int) (n : Int) => (dB (decide (n ∈ l)) : D)) l n, (fun (l : List Int) (n : Int) => []) l n) :=
  mkCon_fn (fun x y h _ => c110_inj x y h) ((l, n) : (List Int) × Int) (by simp [nz, nz1, ML_nil, encLI]) rfl
@[simp] theorem c110_fn1 (s_l : Nat) (z_l : D) (n : Int) : c110.fn [.sl false s_l z_l [], .lit (.int .i64 n)] [] = some ((fun (l : List Int) (n : Int) => l.length ≤ 1099511627776) [] n, (fun (l : List Int) (n : Int) => (dB (decide (n ∈ l)) : D)) [] n, (fun (l : List Int) (n : Int) => []) [] n) :=
  mkCon_fn (fun x y h _ => c110_inj x y h) (([], n) : (List Int) × Int) (by simp [nz, nz1, ML_nil, encLI]) rfl
theorem c110_pc (l : List Int) (n : Int) (hpre : l.length ≤ 1099511627776) : PCo Try.prog 110 [encLI l, dI n] (Tab.of []) (dB (decide (n ∈ l))) (Tab.of []) := by
  refine pco_of_run [] (E := ⟨[c141], [], []⟩) (m := false) (base := 0) (Env.ok_cons c141_ok Env.ok_nil) G_ok mix 300 6 Try.func110 (by kernel_rfl) rfl (by kernel_rfl) (by kernel_rfl) rfl ?_
  simp [Try.f110]
  refine ⟨hpre, ?_⟩
  exact indexBy_mem l 0 (by omega)
theorem c110_ok : c110.ok Try.prog := mkCon_ok fun ⟨l, n⟩ hpre => c110_pc l n hpre
/-- loop.example/g03007/spec.l8Has -/
noncomputable def c87 : Con := mkCon 87 false (α := (List Int) × Int) (fun x => (fun (l : List Int) (n : Int) => [encLI l, dI n]) x.1 x.2) (fun _ => []) (fun x => (fun (l : List Int) (n : Int) => l.length ≤ 1099511627776) x.1 x.2) (fun x => (fun (l : List Int) (n : Int) => (dB (decide (n ∈ l)) : D)) x.1 x.2) (fun x => (fun (l : List Int) (n : Int) => []) x.1 x.2)
@[simp] theorem c87_f : c87.f = 87 := rfl
@[simp] theorem c87_own : c87.own = false := rfl
theorem c87_inj : ∀ u_ v_ : (List Int) × Int, ((fun x => (fun (l : List Int) (n : Int) => [encLI l, dI n]) x.1 x.2) u_).map nz = ((fun x => (fun (l : List Int) (n : Int) => [encLI l, dI n]) x.1 x.2) v_).map nz → u_ = v_ := by
  intro u_ v_ h
  obtain ⟨l, n⟩ := u_
  obtain ⟨l', n'⟩ := v_
  simp [nz_lit, nz1_lit, nz_agg, nz_sl, nz1_sl, encLI] at h
  first | (simp [h]; done) | (obtain ⟨⟩ := h; simp_all; done) | simp_all
@[simp] theorem c87_fn (l : List Int) (n : Int) : c87.fn [.sl false 1 (.lit (.int .i64 0)) (ML dI l), .lit (.int .i64 n)] [] = some ((fun (l : List Int) (n : Int) => l.length ≤ 1099511627776) l n, (fun (l : List Int) (n : Int) => (dB (decide (n ∈ l)) : D)) l n, (fun (l : List Int) (n : Int) => []) l n) :=
  mkCon_fn (fun x y h _ => c87_inj x y h) ((l, n) : (List Int) × Int) (by simp [nz, nz1, ML_nil, encLI]) rfl
@[simp] theorem c87_fn1 (s_l : Nat) (z_l : D) (n : Int) : c87.fn [.sl false s_l z_l [], .lit (.int .i64 n)] [] = some ((fun (l : List Int) (n : Int) => l.length ≤ 1099511627776) [] n, (fun (l : List Int) (n : Int) => (dB (decide (n ∈ l)) : D)) [] n, (fun (l : List Int) (n : Int) => []) [] n) :=
  mkCon_fn (fun x y h _ => c87_inj x y h) (([], n) : (List Int) × Int) (by simp [nz, nz1, ML_nil, encLI]) rfl
theorem c87_pc (l : List Int) (n : Int) (hpre : l.length ≤ 1099511627776) : PCo Try.prog 87 [encLI l, dI n] (Tab.of []) (dB (decide (n ∈ l))) (Tab.of []) := by
  refine pco_of_run [] (E := ⟨[], [], []⟩) (m := false) (base := 0) Env.ok_nil G_ok mix 300 6 Try.func87 (by kernel_rfl) rfl (by kernel_rfl) (by kernel_rfl) rfl ?_
  simp [Try.f87]
  refine loop_inv (fun p : Nat => p ≤ l.length ∧ (n ∈ l ↔ n ∈ l.drop p)) (fun p => [(0, encLI l), (1, dI n), (4, dB false), (5, dI p)]) (fun _ => []) 1 (fun p => l.length - p) 0 400 (by simp) (by simp) (by simp) ?_
  intro p ⟨hp, hi⟩
  simp
  refine ⟨fun hlt => ?_, fun hge => ?_⟩
  · rw [mem_at hlt] at hi
    repeat' (first | omega | refine And.intro ?_ ?_ | intro _)
    all_goals first | exact Again.mk (p + 1) ⟨by omega, by rw [hi]; grind⟩ (by simp) (by first | omega | (simp; omega)) | grind
  · have := mem_end (n := n) hge; grind
theorem c87_ok : c87.ok Try.prog := mkCon_ok fun ⟨l, n⟩ hpre => c87_pc l n hpre
def mAllows (l : List Int) (n : Int) : Bool := decide (l.length = 0) || decide (n ∈ l)
/-- loop.example/g03007/impl.allows -/
noncomputable def c79 : Con := mkCon 79 false (α := (List Int) × Int) (fun x => (fun (l : List Int) (n : Int) => [encLI l, dI n]) x.1 x.2) (fun _ => []) (fun x => (fun (l : List Int) (n : Int) => l.length ≤ 1099511627776) x.1 x.2) (fun x => (fun (l : List Int) (n : Int) => (dB (mAllows l n) : D)) x.1 x.2) (fun x => (fun (l : List Int) (n : Int) => []) x.1 x.2)
@[simp] theorem c79_f : c79.f = 79 := rfl
@[simp] theorem c79_own : c79.own = false := rfl
theorem c79_inj : ∀ u_ v_ : (List Int) × Int, ((fun x => (fun (l : List Int) (n : Int) => [encLI l, dI n]) x.1 x.2) u_).map nz = ((fun x => (fun (l : List Int) (n : Int) => [encLI l, dI n]) x.1 x.2) v_).map nz → u_ = v_ := by
  intro u_ v_ h
  obtain ⟨l, n⟩ := u_
  obtain ⟨l', n'⟩ := v_
  simp [nz_lit, nz1_lit, nz_agg, nz_sl, nz1_sl, encLI] at h
  first | (simp [h]; done) | (obtain ⟨⟩ := h; simp_all; done) | simp_all
@[simp] theorem c79_fn (l : List Int) (n : Int) : c79.fn [.sl false 1 (.lit (.int .i64 0)) (ML dI l), .lit (.int .i64 n)] [] = some ((fun (l : List Int) (n : Int) => l.length ≤ 1099511627776) l n, (fun (l : List Int) (n : Int) => (dB (mAllows l n) : D)) l n, (fun (l : List Int) (n : Int) => []) l n) :=
  mkCon_fn (fun x y h _ => c79_inj x y h) ((l, n) : (List Int) × Int) (by simp [nz, nz1, ML_nil, encLI]) rfl
@[simp] theorem c79_fn1 (s_l : Nat) (z_l : D) (n : Int) : c79.fn [.sl false s_l z_l [], .lit (.int .i64 n)] [] = some ((fun (l : List Int) (n : Int) => l.length ≤ 1099511627776) [] n, (fun (l : List Int) (n : Int) => (dB (mAllows l n) : D)) [] n, (fun (l : List Int) (n : Int) => []) [] n) :=
  mkCon_fn (fun x y h _ => c79_inj x y h) (([], n) : (List Int) × Int) (by simp [nz, nz1, ML_nil, encLI]) rfl
theorem c79_pc (l : List Int) (n : Int) (hpre : l.length ≤ 1099511627776) : PCo Try.prog 79 [encLI l, dI n] (Tab.of []) (dB (mAllows l n)) (Tab.of []) := by
  refine pco_of_run [] (E := ⟨[c110], [], []⟩) (m := false) (base := 0) (Env.ok_cons c110_ok Env.ok_nil) G_ok mix 300 6 Try.func79 (by kernel_rfl) rfl (by kernel_rfl) (by kernel_rfl) rfl ?_
  simp [Try.f79]
  simp [mAllows, hpre]
  first | rfl | omega | (rw [Bool.eq_iff_iff]; simp; done) | (rw [Bool.eq_iff_iff]; simp; omega) | (rw [Bool.eq_iff_iff]; simp; grind) | grind
theorem c79_ok : c79.ok Try.prog := mkCon_ok fun ⟨l, n⟩ hpre => c79_pc l n hpre
/-- loop.example/g03007/impl.matchChecks$1 -/
noncomputable def c131 : Con := mkCon 131 false (α := TReport × TFind) (fun x => (fun (r : TReport) (f : TFind) => [encTReport r, encTFind f]) x.1 x.2) (fun _ => []) (fun x => (fun (r : TReport) (f : TFind) => smR r) x.1 x.2) (fun x => (fun (r : TReport) (f : TFind) => (dB (mIsReport r && mIsFind f) : D)) x.1 x.2) (fun x => (fun (r : TReport) (f : TFind) => []) x.1 x.2)
@[simp] theorem c131_f : c131.f = 131 := rfl
@[simp] theorem c131_own : c131.own = false := rfl
theorem c131_inj : ∀ u_ v_ : TReport × TFind, ((fun x => (fun (r : TReport) (f : TFind) => [encTReport r, encTFind f]) x.1 x.2) u_).map nz = ((fun x => (fun (r : TReport) (f : TFind) => [encTReport r, encTFind f]) x.1 x.2) v_).map nz → u_ = v_ := by
  intro u_ v_ h
  obtain ⟨⟨r_Id, r_Kind, r_Colours, r_SizeLow, r_SizeHigh, r_Places, ⟨r_Span_From, r_Span_Until⟩⟩, ⟨⟨f_Thing_Id, f_Thing_Kind, f_Thing_Colour, f_Thing_Size, f_Thing_Worth⟩, f_Place, f_At, f_Finder⟩⟩ := u_
  obtain ⟨⟨r_Id', r_Kind', r_Colours', r_SizeLow', r_SizeHigh', r_Places', ⟨r_Span_From', r_Span_Until'⟩⟩, ⟨⟨f_Thing_Id', f_Thing_Kind', f_Thing_Colour', f_Thing_Size', f_Thing_Worth'⟩, f_Place', f_At', f_Finder'⟩⟩ := v_
  simp [nz_lit, nz1_lit, nz_agg, nz_sl, nz1_sl, encLI, encTFind, encTReport, encTSpan, encTThing] at h
  first | (simp [h]; done) | (obtain ⟨⟩ := h; simp_all; done) | simp_all
@[simp] theorem c131_fn (r_Id : Int) (r_Kind : Int) (r_Colours : List Int) (r_SizeLow : Int) (r_SizeHigh : Int) (r_Places : List Int) (r_Span_From : Int) (r_Span_Until : Int) (f_Thing_Id : Int) (f_Thing_Kind : Int) (f_Thing_Colour : Int) (f_Thing_Size : Int) (f_Thing_Worth : Int) (f_Place : Int) (f_At : Int) (f_Finder : Int) : c131.fn [.agg [.lit (.int .i64 r_Id), .lit (.int .i64 r_Kind), .sl false 1 (.lit (.int .i64 0)) (ML dI r_Colours), .lit (.int .i64 r_SizeLow), .lit (.int .i64 r_SizeHigh), .sl false 1 (.lit (.int .i64 0)) (ML dI r_Places), .lit (.int .i64 r_Span_From), .lit (.int .i64 r_Span_Until)], .agg [.lit (.int .i64 f_Thing_Id), .lit (.int .i64 f_Thing_Kind), .lit (.int .i64 f_Thing_Colour), .lit (.int .i64 f_Thing_Size), .lit (.int .i64 f_Thing_Worth), .lit (.int .i64 f_Place), .lit (.int .i64 f_At), .lit (.int .i64 f_Finder)]] [] = some ((fun (r : TReport) (f : TFind) => smR r) ⟨r_Id, r_Kind, r_Colours, r_SizeLow, r_SizeHigh, r_Places, ⟨r_Span_From, r_Span_Until⟩⟩ ⟨⟨f_Thing_Id, f_Thing_Kind, f_Thing_Colour, f_Thing_Size, f_Thing_Worth⟩, f_Place, f_At, f_Finder⟩, (fun (r : TReport) (f : TFind) => (dB (mIsReport r && mIsFind f) : D)) ⟨r_Id, r_Kind, r_Colours, r_SizeLow, r_SizeHigh, r_Places, ⟨r_Span_From, r_Span_Until⟩⟩ ⟨⟨f_Thing_Id, f_Thing_Kind, f_Thing_Colour, f_Thing_Size, f_Thing_Worth⟩, f_Place, f_At, f_Finder⟩, (fun (r : TReport) (f : TFind) => []) ⟨r_Id, r_Kind, r_Colours, r_SizeLow, r_SizeHigh, r_Places, ⟨r_Span_From, r_Span_Until⟩⟩ ⟨⟨f_Thing_Id, f_Thing_Kind, f_Thing_Colour, f_Thing_Size, f_Thing_Worth⟩, f_Place, f_At, f_Finder⟩) :=
  mkCon_fn (fun x y h _ => c131_inj x y h) ((⟨r_Id, r_Kind, r_Colours, r_SizeLow, r_SizeHigh, r_Places, ⟨r_Span_From, r_Span_Until⟩⟩, ⟨⟨f_Thing_Id, f_Thing_Kind, f_Thing_Colour, f_Thing_Size, f_Thing_Worth⟩, f_Place, f_At, f_Finder⟩) : TReport × TFind) (by simp [nz, nz1, ML_nil, encLI, encTFind, encTReport, encTSpan, encTThing]) rfl
theorem c131_pc (r : TReport) (f : TFind) (hpre : smR r) : PCo Try.prog 131 [encTReport r, encTFind f] (Tab.of []) (dB (mIsReport r && mIsFind f)) (Tab.of []) := by
  obtain ⟨r_Id, r_Kind, r_Colours, r_SizeLow, r_SizeHigh, r_Places, ⟨r_Span_From, r_Span_Until⟩⟩ := r
  obtain ⟨⟨f_Thing_Id, f_Thing_Kind, f_Thing_Colour, f_Thing_Size, f_Thing_Worth⟩, f_Place, f_At, f_Finder⟩ := f
  refine pco_of_run [] (E := ⟨[c73, c132], [], []⟩) (m := false) (base := 0) (Env.ok_cons c73_ok (Env.ok_cons c132_ok Env.ok_nil)) G_ok mix 300 6 Try.func131 (by kernel_rfl) rfl (by kernel_rfl) (by kernel_rfl) rfl ?_
  simp [Try.f131]
  simp at hpre
  simp [hpre]
theorem c131_ok : c131.ok Try.prog := mkCon_ok fun ⟨r, f⟩ hpre => c131_pc r f hpre
/-- loop.example/g03007/impl.matchChecks$2 -/
noncomputable def c133 : Con := mkCon 133 false (α := TReport × TFind) (fun x => (fun (r : TReport) (f : TFind) => [encTReport r, encTFind f]) x.1 x.2) (fun _ => []) (fun x => (fun (r : TReport) (f : TFind) => smR r) x.1 x.2) (fun x => (fun (r : TReport) (f : TFind) => (dB (decide (r.Kind = f.Thing.Kind)) : D)) x.1 x.2) (fun x => (fun (r : TReport) (f : TFind) => []) x.1 x.2)
@[simp] theorem c133_f : c133.f = 133 := rfl
@[simp] theorem c133_own : c133.own = false := rfl
theorem c133_inj : ∀ u_ v_ : TReport × TFind, ((fun x => (fun (r : TReport) (f : TFind) => [encTReport r, encTFind f]) x.1 x.2) u_).map nz = ((fun x => (fun (r : TReport) (f : TFind) => [encTReport r, encTFind f]) x.1 x.2) v_).map nz → u_ = v_ := by
  intro u_ v_ h
  obtain ⟨⟨r_Id, r_Kind, r_Colours, r_SizeLow, r_SizeHigh, r_Places, ⟨r_Span_From, r_Span_Until⟩⟩, ⟨⟨f_Thing_Id, f_Thing_Kind, f_Thing_Colour, f_Thing_Size, f_Thing_Worth⟩, f_Place, f_At, f_Finder⟩⟩ := u_
  obtain ⟨⟨r_Id', r_Kind', r_Colours', r_SizeLow', r_SizeHigh', r_Places', ⟨r_Span_From', r_Span_Until'⟩⟩, ⟨⟨f_Thing_Id', f_Thing_Kind', f_Thing_Colour', f_Thing_Size', f_Thing_Worth'⟩, f_Place', f_At', f_Finder'⟩⟩ := v_
  simp [nz_lit, nz1_lit, nz_agg, nz_sl, nz1_sl, encLI, encTFind, encTReport, encTSpan, encTThing] at h
  first | (simp [h]; done) | (obtain ⟨⟩ := h; simp_all; done) | simp_all
@[simp] theorem c133_fn (r_Id : Int) (r_Kind : Int) (r_Colours : List Int) (r_SizeLow : Int) (r_SizeHigh : Int) (r_Places : List Int) (r_Span_From : Int) (r_Span_Until : Int) (f_Thing_Id : Int) (f_Thing_Kind : Int) (f_Thing_Colour : Int) (f_Thing_Size : Int) (f_Thing_Worth : Int) (f_Place : Int) (f_At : Int) (f_Finder : Int) : c133.fn [.agg [.lit (.int .i64 r_Id), .lit (.int .i64 r_Kind), .sl false 1 (.lit (.int .i64 0)) (ML dI r_Colours), .lit (.int .i64 r_SizeLow), .lit (.int .i64 r_SizeHigh), .sl false 1 (.lit (.int .i64 0)) (ML dI r_Places), .lit (.int .i64 r_Span_From), .lit (.int .i64 r_Span_Until)], .agg [.lit (.int .i64 f_Thing_Id), .lit (.int .i64 f_Thing_Kind), .lit (.int .i64 f_Thing_Colour), .lit (.int .i64 f_Thing_Size), .lit (.int .i64 f_Thing_Worth), .lit (.int .i64 f_Place), .lit (.int .i64 f_At), .lit (.int .i64 f_Finder)]] [] = some ((fun (r : TReport) (f : TFind) => smR r) ⟨r_Id, r_Kind, r_Colours, r_SizeLow, r_SizeHigh, r_Places, ⟨r_Span_From, r_Span_Until⟩⟩ ⟨⟨f_Thing_Id, f_Thing_Kind, f_Thing_Colour, f_Thing_Size, f_Thing_Worth⟩, f_Place, f_At, f_Finder⟩, (fun (r : TReport) (f : TFind) => (dB (decide (r.Kind = f.Thing.Kind)) : D)) ⟨r_Id, r_Kind, r_Colours, r_SizeLow, r_SizeHigh, r_Places, ⟨r_Span_From, r_Span_Until⟩⟩ ⟨⟨f_Thing_Id, f_Thing_Kind, f_Thing_Colour, f_Thing_Size, f_Thing_Worth⟩, f_Place, f_At, f_Finder⟩, (fun (r : TReport) (f : TFind) => []) ⟨r_Id, r_Kind, r_Colours, r_SizeLow, r_SizeHigh, r_Places, ⟨r_Span_From, r_Span_Until⟩⟩ ⟨⟨f_Thing_Id, f_Thing_Kind, f_Thing_Colour, f_Thing_Size, f_Thing_Worth⟩, f_Place, f_At, f_Finder⟩) :=
  mkCon_fn (fun x y h _ => c133_inj x y h) ((⟨r_Id, r_Kind, r_Colours, r_SizeLow, r_SizeHigh, r_Places, ⟨r_Span_From, r_Span_Until⟩⟩, ⟨⟨f_Thing_Id, f_Thing_Kind, f_Thing_Colour, f_Thing_Size, f_Thing_Worth⟩, f_Place, f_At, f_Finder⟩) : TReport × TFind) (by simp [nz, nz1, ML_nil, encLI, encTFind, encTReport, encTSpan, encTThing]) rfl
theorem c133_pc (r : TReport) (f : TFind) (hpre : smR r) : PCo Try.prog 133 [encTReport r, encTFind f] (Tab.of []) (dB (decide (r.Kind = f.Thing.Kind))) (Tab.of []) := by
  obtain ⟨r_Id, r_Kind, r_Colours, r_SizeLow, r_SizeHigh, r_Places, ⟨r_Span_From, r_Span_Until⟩⟩ := r
  obtain ⟨⟨f_Thing_Id, f_Thing_Kind, f_Thing_Colour, f_Thing_Size, f_Thing_Worth⟩, f_Place, f_At, f_Finder⟩ := f
  refine pco_of_run [] (E := ⟨[], [], []⟩) (m := false) (base := 0) Env.ok_nil G_ok mix 300 6 Try.func133 (by kernel_rfl) rfl (by kernel_rfl) (by kernel_rfl) rfl ?_
  simp [Try.f133]
  first | done | rfl
theorem c133_ok : c133.ok Try.prog := mkCon_ok fun ⟨r, f⟩ hpre => c133_pc r f hpre
/-- loop.example/g03007/impl.matchChecks$3 -/
noncomputable def c134 : Con := mkCon 134 false (α := TReport × TFind) (fun x => (fun (r : TReport) (f : TFind) => [encTReport r, encTFind f]) x.1 x.2) (fun _ => []) (fun x => (fun (r : TReport) (f : TFind) => smR r) x.1 x.2) (fun x => (fun (r : TReport) (f : TFind) => (dB (mAllows r.Colours f.Thing.Colour) : D)) x.1 x.2) (fun x => (fun (r : TReport) (f : TFind) => []) x.1 x.2)
@[simp] theorem c134_f : c134.f = 134 := rfl
@[simp] theorem c134_own : c134.own = false := rfl
theorem c134_inj : ∀ u_ v_ : TReport × TFind, ((fun x => (fun (r : TReport) (f : TFind) => [encTReport r, encTFind f]) x.1 x.2) u_).map nz = ((fun x => (fun (r : TReport) (f : TFind) => [encTReport r, encTFind f]) x.1 x.2) v_).map nz → u_ = v_ := by
  intro u_ v_ h
  obtain ⟨⟨r_Id, r_Kind, r_Colours, r_SizeLow, r_SizeHigh, r_Places, ⟨r_Span_From, r_Span_Until⟩⟩, ⟨⟨f_Thing_Id, f_Thing_Kind, f_Thing_Colour, f_Thing_Size, f_Thing_Worth⟩, f_Place, f_At, f_Finder⟩⟩ := u_
  obtain ⟨⟨r_Id', r_Kind', r_Colours', r_SizeLow', r_SizeHigh', r_Places', ⟨r_Span_From', r_Span_Until'⟩⟩, ⟨⟨f_Thing_Id', f_Thing_Kind', f_Thing_Colour', f_Thing_Size', f_Thing_Worth'⟩, f_Place', f_At', f_Finder'⟩⟩ := v_
  simp [nz_lit, nz1_lit, nz_agg, nz_sl, nz1_sl, encLI, encTFind, encTReport, encTSpan, encTThing] at h
  first | (simp [h]; done) | (obtain ⟨⟩ := h; simp_all; done) | simp_all
@[simp] theorem c134_fn (r_Id : Int) (r_Kind : Int) (r_Colours : List Int) (r_SizeLow : Int) (r_SizeHigh : Int) (r_Places : List Int) (r_Span_From : Int) (r_Span_Until : Int) (f_Thing_Id : Int) (f_Thing_Kind : Int) (f_Thing_Colour : Int) (f_Thing_Size : Int) (f_Thing_Worth : Int) (f_Place : Int) (f_At : Int) (f_Finder : Int) : c134.fn [.agg [.lit (.int .i64 r_Id), .lit (.int .i64 r_Kind), .sl false 1 (.lit (.int .i64 0)) (ML dI r_Colours), .lit (.int .i64 r_SizeLow), .lit (.int .i64 r_SizeHigh), .sl false 1 (.lit (.int .i64 0)) (ML dI r_Places), .lit (.int .i64 r_Span_From), .lit (.int .i64 r_Span_Until)], .agg [.lit (.int .i64 f_Thing_Id), .lit (.int .i64 f_Thing_Kind), .lit (.int .i64 f_Thing_Colour), .lit (.int .i64 f_Thing_Size), .lit (.int .i64 f_Thing_Worth), .lit (.int .i64 f_Place), .lit (.int .i64 f_At), .lit (.int .i64 f_Finder)]] [] = some ((fun (r : TReport) (f : TFind) => smR r) ⟨r_Id, r_Kind, r_Colours, r_SizeLow, r_SizeHigh, r_Places, ⟨r_Span_From, r_Span_Until⟩⟩ ⟨⟨f_Thing_Id, f_Thing_Kind, f_Thing_Colour, f_Thing_Size, f_Thing_Worth⟩, f_Place, f_At, f_Finder⟩, (fun (r : TReport) (f : TFind) => (dB (mAllows r.Colours f.Thing.Colour) : D)) ⟨r_Id, r_Kind, r_Colours, r_SizeLow, r_SizeHigh, r_Places, ⟨r_Span_From, r_Span_Until⟩⟩ ⟨⟨f_Thing_Id, f_Thing_Kind, f_Thing_Colour, f_Thing_Size, f_Thing_Worth⟩, f_Place, f_At, f_Finder⟩, (fun (r : TReport) (f : TFind) => []) ⟨r_Id, r_Kind, r_Colours, r_SizeLow, r_SizeHigh, r_Places, ⟨r_Span_From, r_Span_Until⟩⟩ ⟨⟨f_Thing_Id, f_Thing_Kind, f_Thing_Colour, f_Thing_Size, f_Thing_Worth⟩, f_Place, f_At, f_Finder⟩) :=
  mkCon_fn (fun x y h _ => c134_inj x y h) ((⟨r_Id, r_Kind, r_Colours, r_SizeLow, r_SizeHigh, r_Places, ⟨r_Span_From, r_Span_Until⟩⟩, ⟨⟨f_Thing_Id, f_Thing_Kind, f_Thing_Colour, f_Thing_Size, f_Thing_Worth⟩, f_Place, f_At, f_Finder⟩) : TReport × TFind) (by simp [nz, nz1, ML_nil, encLI, encTFind, encTReport, encTSpan, encTThing]) rfl
theorem c134_pc (r : TReport) (f : TFind) (hpre : smR r) : PCo Try.prog 134 [encTReport r, encTFind f] (Tab.of []) (dB (mAllows r.Colours f.Thing.Colour)) (Tab.of []) := by
  obtain ⟨r_Id, r_Kind, r_Colours, r_SizeLow, r_SizeHigh, r_Places, ⟨r_Span_From, r_Span_Until⟩⟩ := r
  obtain ⟨⟨f_Thing_Id, f_Thing_Kind, f_Thing_Colour, f_Thing_Size, f_Thing_Worth⟩, f_Place, f_At, f_Finder⟩ := f
  refine pco_of_run [] (E := ⟨[c79], [], []⟩) (m := false) (base := 0) (Env.ok_cons c79_ok Env.ok_nil) G_ok mix 300 6 Try.func134 (by kernel_rfl) rfl (by kernel_rfl) (by kernel_rfl) rfl ?_
  simp [Try.f134]
  simp at hpre
  simp [hpre]
theorem c134_ok : c134.ok Try.prog := mkCon_ok fun ⟨r, f⟩ hpre => c134_pc r f hpre
/-- loop.example/g03007/impl.matchChecks$4 -/
noncomputable def c135 : Con := mkCon 135 false (α := TReport × TFind) (fun x => (fun (r : TReport) (f : TFind) => [encTReport r, encTFind f]) x.1 x.2) (fun _ => []) (fun x => (fun (r : TReport) (f : TFind) => smR r) x.1 x.2) (fun x => (fun (r : TReport) (f : TFind) => (dB (mIn f.Thing.Size r.SizeLow r.SizeHigh) : D)) x.1 x.2) (fun x => (fun (r : TReport) (f : TFind) => []) x.1 x.2)
@[simp] theorem c135_f : c135.f = 135 := rfl
@[simp] theorem c135_own : c135.own = false := rfl
theorem c135_inj : ∀ u_ v_ : TReport × TFind, ((fun x => (fun (r : TReport) (f : TFind) => [encTReport r, encTFind f]) x.1 x.2) u_).map nz = ((fun x => (fun (r : TReport) (f : TFind) => [encTReport r, encTFind f]) x.1 x.2) v_).map nz → u_ = v_ := by
  intro u_ v_ h
  obtain ⟨⟨r_Id, r_Kind, r_Colours, r_SizeLow, r_SizeHigh, r_Places, ⟨r_Span_From, r_Span_Until⟩⟩, ⟨⟨f_Thing_Id, f_Thing_Kind, f_Thing_Colour, f_Thing_Size, f_Thing_Worth⟩, f_Place, f_At, f_Finder⟩⟩ := u_
  obtain ⟨⟨r_Id', r_Kind', r_Colours', r_SizeLow', r_SizeHigh', r_Places', ⟨r_Span_From', r_Span_Until'⟩⟩, ⟨⟨f_Thing_Id', f_Thing_Kind', f_Thing_Colour', f_Thing_Size', f_Thing_Worth'⟩, f_Place', f_At', f_Finder'⟩⟩ := v_
  simp [nz_lit, nz1_lit, nz_agg, nz_sl, nz1_sl, encLI, encTFind, encTReport, encTSpan, encTThing] at h
  first | (simp [h]; done) | (obtain ⟨⟩ := h; simp_all; done) | simp_all
@[simp] theorem c135_fn (r_Id : Int) (r_Kind : Int) (r_Colours : List Int) (r_SizeLow : Int) (r_SizeHigh : Int) (r_Places : List Int) (r_Span_From : Int) (r_Span_Until : Int) (f_Thing_Id : Int) (f_Thing_Kind : Int) (f_Thing_Colour : Int) (f_Thing_Size : Int) (f_Thing_Worth : Int) (f_Place : Int) (f_At : Int) (f_Finder : Int) : c135.fn [.agg [.lit (.int .i64 r_Id), .lit (.int .i64 r_Kind), .sl false 1 (.lit (.int .i64 0)) (ML dI r_Colours), .lit (.int .i64 r_SizeLow), .lit (.int .i64 r_SizeHigh), .sl false 1 (.lit (.int .i64 0)) (ML dI r_Places), .lit (.int .i64 r_Span_From), .lit (.int .i64 r_Span_Until)], .agg [.lit (.int .i64 f_Thing_Id), .lit (.int .i64 f_Thing_Kind), .lit (.int .i64 f_Thing_Colour), .lit (.int .i64 f_Thing_Size), .lit (.int .i64 f_Thing_Worth), .lit (.int .i64 f_Place), .lit (.int .i64 f_At), .lit (.int .i64 f_Finder)]] [] = some ((fun (r : TReport) (f : TFind) => smR r) ⟨r_Id, r_Kind, r_Colours, r_SizeLow, r_SizeHigh, r_Places, ⟨r_Span_From, r_Span_Until⟩⟩ ⟨⟨f_Thing_Id, f_Thing_Kind, f_Thing_Colour, f_Thing_Size, f_Thing_Worth⟩, f_Place, f_At, f_Finder⟩, (fun (r : TReport) (f : TFind) => (dB (mIn f.Thing.Size r.SizeLow r.SizeHigh) : D)) ⟨r_Id, r_Kind, r_Colours, r_SizeLow, r_SizeHigh, r_Places, ⟨r_Span_From, r_Span_Until⟩⟩ ⟨⟨f_Thing_Id, f_Thing_Kind, f_Thing_Colour, f_Thing_Size, f_Thing_Worth⟩, f_Place, f_At, f_Finder⟩, (fun (r : TReport) (f : TFind) => []) ⟨r_Id, r_Kind, r_Colours, r_SizeLow, r_SizeHigh, r_Places, ⟨r_Span_From, r_Span_Until⟩⟩ ⟨⟨f_Thing_Id, f_Thing_Kind, f_Thing_Colour, f_Thing_Size, f_Thing_Worth⟩, f_Place, f_At, f_Finder⟩) :=
  mkCon_fn (fun x y h _ => c135_inj x y h) ((⟨r_Id, r_Kind, r_Colours, r_SizeLow, r_SizeHigh, r_Places, ⟨r_Span_From, r_Span_Until⟩⟩, ⟨⟨f_Thing_Id, f_Thing_Kind, f_Thing_Colour, f_Thing_Size, f_Thing_Worth⟩, f_Place, f_At, f_Finder⟩) : TReport × TFind) (by simp [nz, nz1, ML_nil, encLI, encTFind, encTReport, encTSpan, encTThing]) rfl
theorem c135_pc (r : TReport) (f : TFind) (hpre : smR r) : PCo Try.prog 135 [encTReport r, encTFind f] (Tab.of []) (dB (mIn f.Thing.Size r.SizeLow r.SizeHigh)) (Tab.of []) := by
  obtain ⟨r_Id, r_Kind, r_Colours, r_SizeLow, r_SizeHigh, r_Places, ⟨r_Span_From, r_Span_Until⟩⟩ := r
  obtain ⟨⟨f_Thing_Id, f_Thing_Kind, f_Thing_Colour, f_Thing_Size, f_Thing_Worth⟩, f_Place, f_At, f_Finder⟩ := f
  refine pco_of_run [] (E := ⟨[c102], [], []⟩) (m := false) (base := 0) (Env.ok_cons c102_ok Env.ok_nil) G_ok mix 300 6 Try.func135 (by kernel_rfl) rfl (by kernel_rfl) (by kernel_rfl) rfl ?_
  simp [Try.f135]
  all_goals first | omega | (rw [Bool.eq_iff_iff]; simp; omega) | grind
theorem c135_ok : c135.ok Try.prog := mkCon_ok fun ⟨r, f⟩ hpre => c135_pc r f hpre
/-- loop.example/g03007/impl.matchChecks$5 -/
noncomputable def c136 : Con := mkCon 136 false (α := TReport × TFind) (fun x => (fun (r : TReport) (f : TFind) => [encTReport r, encTFind f]) x.1 x.2) (fun _ => []) (fun x => (fun (r : TReport) (f : TFind) => smR r) x.1 x.2) (fun x => (fun (r : TReport) (f : TFind) => (dB (mAllows r.Places f.Place) : D)) x.1 x.2) (fun x => (fun (r : TReport) (f : TFind) => []) x.1 x.2)
@[simp] theorem c136_f : c136.f = 136 := rfl
@[simp] theorem c136_own : c136.own = false := rfl
theorem c136_inj : ∀ u_ v_ : TReport × TFind, ((fun x => (fun (r : TReport) (f : TFind) => [encTReport r, encTFind f]) x.1 x.2) u_).map nz = ((fun x => (fun (r : TReport) (f : TFind) => [encTReport r, encTFind f]) x.1 x.2) v_).map nz → u_ = v_ := by
  intro u_ v_ h
  obtain ⟨⟨r_Id, r_Kind, r_Colours, r_SizeLow, r_SizeHigh, r_Places, ⟨r_Span_From, r_Span_Until⟩⟩, ⟨⟨f_Thing_Id, f_Thing_Kind, f_Thing_Colour, f_Thing_Size, f_Thing_Worth⟩, f_Place, f_At, f_Finder⟩⟩ := u_
  obtain ⟨⟨r_Id', r_Kind', r_Colours', r_SizeLow', r_SizeHigh', r_Places', ⟨r_Span_From', r_Span_Until'⟩⟩, ⟨⟨f_Thing_Id', f_Thing_Kind', f_Thing_Colour', f_Thing_Size', f_Thing_Worth'⟩, f_Place', f_At', f_Finder'⟩⟩ := v_
  simp [nz_lit, nz1_lit, nz_agg, nz_sl, nz1_sl, encLI, encTFind, encTReport, encTSpan, encTThing] at h
  first | (simp [h]; done) | (obtain ⟨⟩ := h; simp_all; done) | simp_all
@[simp] theorem c136_fn (r_Id : Int) (r_Kind : Int) (r_Colours : List Int) (r_SizeLow : Int) (r_SizeHigh : Int) (r_Places : List Int) (r_Span_From : Int) (r_Span_Until : Int) (f_Thing_Id : Int) (f_Thing_Kind : Int) (f_Thing_Colour : Int) (f_Thing_Size : Int) (f_Thing_Worth : Int) (f_Place : Int) (f_At : Int) (f_Finder : Int) : c136.fn [.agg [.lit (.int .i64 r_Id), .lit (.int .i64 r_Kind), .sl false 1 (.lit (.int .i64 0)) (ML dI r_Colours), .lit (.int .i64 r_SizeLow), .lit (.int .i64 r_SizeHigh), .sl false 1 (.lit (.int .i64 0)) (ML dI r_Places), .lit (.int .i64 r_Span_From), .lit (.int .i64 r_Span_Until)], .agg [.lit (.int .i64 f_Thing_Id), .lit (.int .i64 f_Thing_Kind), .lit (.int .i64 f_Thing_Colour), .lit (.int .i64 f_Thing_Size), .lit (.int .i64 f_Thing_Worth), .lit (.int .i64 f_Place), .lit (.int .i64 f_At), .lit (.int .i64 f_Finder)]] [] = some ((fun (r : TReport) (f : TFind) => smR r) ⟨r_Id, r_Kind, r_Colours, r_SizeLow, r_SizeHigh, r_Places, ⟨r_Span_From, r_Span_Until⟩⟩ ⟨⟨f_Thing_Id, f_Thing_Kind, f_Thing_Colour, f_Thing_Size, f_Thing_Worth⟩, f_Place, f_At, f_Finder⟩, (fun (r : TReport) (f : TFind) => (dB (mAllows r.Places f.Place) : D)) ⟨r_Id, r_Kind, r_Colours, r_SizeLow, r_SizeHigh, r_Places, ⟨r_Span_From, r_Span_Until⟩⟩ ⟨⟨f_Thing_Id, f_Thing_Kind, f_Thing_Colour, f_Thing_Size, f_Thing_Worth⟩, f_Place, f_At, f_Finder⟩, (fun (r : TReport) (f : TFind) => []) ⟨r_Id, r_Kind, r_Colours, r_SizeLow, r_SizeHigh, r_Places, ⟨r_Span_From, r_Span_Until⟩⟩ ⟨⟨f_Thing_Id, f_Thing_Kind, f_Thing_Colour, f_Thing_Size, f_Thing_Worth⟩, f_Place, f_At, f_Finder⟩) :=
  mkCon_fn (fun x y h _ => c136_inj x y h) ((⟨r_Id, r_Kind, r_Colours, r_SizeLow, r_SizeHigh, r_Places, ⟨r_Span_From, r_Span_Until⟩⟩, ⟨⟨f_Thing_Id, f_Thing_Kind, f_Thing_Colour, f_Thing_Size, f_Thing_Worth⟩, f_Place, f_At, f_Finder⟩) : TReport × TFind) (by simp [nz, nz1, ML_nil, encLI, encTFind, encTReport, encTSpan, encTThing]) rfl
theorem c136_pc (r : TReport) (f : TFind) (hpre : smR r) : PCo Try.prog 136 [encTReport r, encTFind f] (Tab.of []) (dB (mAllows r.Places f.Place)) (Tab.of []) := by
  obtain ⟨r_Id, r_Kind, r_Colours, r_SizeLow, r_SizeHigh, r_Places, ⟨r_Span_From, r_Span_Until⟩⟩ := r
  obtain ⟨⟨f_Thing_Id, f_Thing_Kind, f_Thing_Colour, f_Thing_Size, f_Thing_Worth⟩, f_Place, f_At, f_Finder⟩ := f
  refine pco_of_run [] (E := ⟨[c79], [], []⟩) (m := false) (base := 0) (Env.ok_cons c79_ok Env.ok_nil) G_ok mix 300 6 Try.func136 (by kernel_rfl) rfl (by kernel_rfl) (by kernel_rfl) rfl ?_
  simp [Try.f136]
  simp at hpre
  simp [hpre]
theorem c136_ok : c136.ok Try.prog := mkCon_ok fun ⟨r, f⟩ hpre => c136_pc r f hpre
/-- loop.example/g03007/impl.matchChecks$6 -/
noncomputable def c137 : Con := mkCon 137 false (α := TReport × TFind) (fun x => (fun (r : TReport) (f : TFind) => [encTReport r, encTFind f]) x.1 x.2) (fun _ => []) (fun x => (fun (r : TReport) (f : TFind) => smR r) x.1 x.2) (fun x => (fun (r : TReport) (f : TFind) => (dB (decide (r.Span.From ≤ f.At)) : D)) x.1 x.2) (fun x => (fun (r : TReport) (f : TFind) => []) x.1 x.2)
@[simp] theorem c137_f : c137.f = 137 := rfl
@[simp] theorem c137_own : c137.own = false := rfl
theorem c137_inj : ∀ u_ v_ : TReport × TFind, ((fun x => (fun (r : TReport) (f : TFind) => [encTReport r, encTFind f]) x.1 x.2) u_).map nz = ((fun x => (fun (r : TReport) (f : TFind) => [encTReport r, encTFind f]) x.1 x.2) v_).map nz → u_ = v_ := by
  intro u_ v_ h
  obtain ⟨⟨r_Id, r_Kind, r_Colours, r_SizeLow, r_SizeHigh, r_Places, ⟨r_Span_From, r_Span_Until⟩⟩, ⟨⟨f_Thing_Id, f_Thing_Kind, f_Thing_Colour, f_Thing_Size, f_Thing_Worth⟩, f_Place, f_At, f_Finder⟩⟩ := u_
  obtain ⟨⟨r_Id', r_Kind', r_Colours', r_SizeLow', r_SizeHigh', r_Places', ⟨r_Span_From', r_Span_Until'⟩⟩, ⟨⟨f_Thing_Id', f_Thing_Kind', f_Thing_Colour', f_Thing_Size', f_Thing_Worth'⟩, f_Place', f_At', f_Finder'⟩⟩ := v_
  simp [nz_lit, nz1_lit, nz_agg, nz_sl, nz1_sl, encLI, encTFind, encTReport, encTSpan, encTThing] at h
  first | (simp [h]; done) | (obtain ⟨⟩ := h; simp_all; done) | simp_all
@[simp] theorem c137_fn (r_Id : Int) (r_Kind : Int) (r_Colours : List Int) (r_SizeLow : Int) (r_SizeHigh : Int) (r_Places : List Int) (r_Span_From : Int) (r_Span_Until : Int) (f_Thing_Id : Int) (f_Thing_Kind : Int) (f_Thing_Colour : Int) (f_Thing_Size : Int) (f_Thing_Worth : Int) (f_Place : Int) (f_At : Int) (f_Finder : Int) : c137.fn [.agg [.lit (.int .i64 r_Id), .lit (.int .i64 r_Kind), .sl false 1 (.lit (.int .i64 0)) (ML dI r_Colours), .lit (.int .i64 r_SizeLow), .lit (.int .i64 r_SizeHigh), .sl false 1 (.lit (.int .i64 0)) (ML dI r_Places), .lit (.int .i64 r_Span_From), .lit (.int .i64 r_Span_Until)], .agg [.lit (.int .i64 f_Thing_Id), .lit (.int .i64 f_Thing_Kind), .lit (.int .i64 f_Thing_Colour), .lit (.int .i64 f_Thing_Size), .lit (.int .i64 f_Thing_Worth), .lit (.int .i64 f_Place), .lit (.int .i64 f_At), .lit (.int .i64 f_Finder)]] [] = some ((fun (r : TReport) (f : TFind) => smR r) ⟨r_Id, r_Kind, r_Colours, r_SizeLow, r_SizeHigh, r_Places, ⟨r_Span_From, r_Span_Until⟩⟩ ⟨⟨f_Thing_Id, f_Thing_Kind, f_Thing_Colour, f_Thing_Size, f_Thing_Worth⟩, f_Place, f_At, f_Finder⟩, (fun (r : TReport) (f : TFind) => (dB (decide (r.Span.From ≤ f.At)) : D)) ⟨r_Id, r_Kind, r_Colours, r_SizeLow, r_SizeHigh, r_Places, ⟨r_Span_From, r_Span_Until⟩⟩ ⟨⟨f_Thing_Id, f_Thing_Kind, f_Thing_Colour, f_Thing_Size, f_Thing_Worth⟩, f_Place, f_At, f_Finder⟩, (fun (r : TReport) (f : TFind) => []) ⟨r_Id, r_Kind, r_Colours, r_SizeLow, r_SizeHigh, r_Places, ⟨r_Span_From, r_Span_Until⟩⟩ ⟨⟨f_Thing_Id, f_Thing_Kind, f_Thing_Colour, f_Thing_Size, f_Thing_Worth⟩, f_Place, f_At, f_Finder⟩) :=
  mkCon_fn (fun x y h _ => c137_inj x y h) ((⟨r_Id, r_Kind, r_Colours, r_SizeLow, r_SizeHigh, r_Places, ⟨r_Span_From, r_Span_Until⟩⟩, ⟨⟨f_Thing_Id, f_Thing_Kind, f_Thing_Colour, f_Thing_Size, f_Thing_Worth⟩, f_Place, f_At, f_Finder⟩) : TReport × TFind) (by simp [nz, nz1, ML_nil, encLI, encTFind, encTReport, encTSpan, encTThing]) rfl
theorem c137_pc (r : TReport) (f : TFind) (hpre : smR r) : PCo Try.prog 137 [encTReport r, encTFind f] (Tab.of []) (dB (decide (r.Span.From ≤ f.At))) (Tab.of []) := by
  obtain ⟨r_Id, r_Kind, r_Colours, r_SizeLow, r_SizeHigh, r_Places, ⟨r_Span_From, r_Span_Until⟩⟩ := r
  obtain ⟨⟨f_Thing_Id, f_Thing_Kind, f_Thing_Colour, f_Thing_Size, f_Thing_Worth⟩, f_Place, f_At, f_Finder⟩ := f
  refine pco_of_run [] (E := ⟨[], [], []⟩) (m := false) (base := 0) Env.ok_nil G_ok mix 300 6 Try.func137 (by kernel_rfl) rfl (by kernel_rfl) (by kernel_rfl) rfl ?_
  simp [Try.f137]
  first | done | rfl
theorem c137_ok : c137.ok Try.prog := mkCon_ok fun ⟨r, f⟩ hpre => c137_pc r f hpre
def wInvalid : ByteArray := ⟨#[105, 110, 118, 97, 108, 105, 100]⟩
/-- loop.example/g03007/impl.matchChecks -/
noncomputable def c105 : Con := mkCon 105 false (α := Unit) (fun _ => []) (fun _ => []) (fun _ => True) (fun _ => (.sl false 2 .any [.agg [.lit (.string ⟨#[105, 110, 118, 97, 108, 105, 100]⟩), .fn (.func 131) [] []], .agg [.lit (.string ⟨#[107, 105, 110, 100]⟩), .fn (.func 133) [] []], .agg [.lit (.string ⟨#[99, 111, 108, 111, 117, 114]⟩), .fn (.func 134) [] []], .agg [.lit (.string ⟨#[115, 105, 122, 101]⟩), .fn (.func 135) [] []], .agg [.lit (.string ⟨#[112, 108, 97, 99, 101]⟩), .fn (.func 136) [] []], .agg [.lit (.string ⟨#[116, 105, 109, 101]⟩), .fn (.func 137) [] []]] : D)) (fun _ => [])
@[simp] theorem c105_f : c105.f = 105 := rfl
@[simp] theorem c105_own : c105.own = false := rfl
theorem c105_inj : ∀ x y : Unit, ((fun _ => []) x).map nz = ((fun _ => []) y).map nz → x = y := fun _ _ _ => rfl
@[simp] theorem c105_fn : c105.fn [] [] = some (True, (.sl false 2 .any [.agg [.lit (.string ⟨#[105, 110, 118, 97, 108, 105, 100]⟩), .fn (.func 131) [] []], .agg [.lit (.string ⟨#[107, 105, 110, 100]⟩), .fn (.func 133) [] []], .agg [.lit (.string ⟨#[99, 111, 108, 111, 117, 114]⟩), .fn (.func 134) [] []], .agg [.lit (.string ⟨#[115, 105, 122, 101]⟩), .fn (.func 135) [] []], .agg [.lit (.string ⟨#[112, 108, 97, 99, 101]⟩), .fn (.func 136) [] []], .agg [.lit (.string ⟨#[116, 105, 109, 101]⟩), .fn (.func 137) [] []]] : D), []) :=
  mkCon_fn (fun x y h _ => c105_inj x y h) (() : Unit) (by simp [nz, nz1, ML_nil]) rfl
theorem c105_pc  : PCo Try.prog 105 [] (Tab.of []) (.sl false 2 .any [.agg [.lit (.string ⟨#[105, 110, 118, 97, 108, 105, 100]⟩), .fn (.func 131) [] []], .agg [.lit (.string ⟨#[107, 105, 110, 100]⟩), .fn (.func 133) [] []], .agg [.lit (.string ⟨#[99, 111, 108, 111, 117, 114]⟩), .fn (.func 134) [] []], .agg [.lit (.string ⟨#[115, 105, 122, 101]⟩), .fn (.func 135) [] []], .agg [.lit (.string ⟨#[112, 108, 97, 99, 101]⟩), .fn (.func 136) [] []], .agg [.lit (.string ⟨#[116, 105, 109, 101]⟩), .fn (.func 137) [] []]]) (Tab.of []) := by
  refine pco_of_run [] (E := ⟨[c131, c133, c134, c135, c136, c137], [], []⟩) (m := false) (base := 0) (Env.ok_cons c131_ok (Env.ok_cons c133_ok (Env.ok_cons c134_ok (Env.ok_cons c135_ok (Env.ok_cons c136_ok (Env.ok_cons c137_ok Env.ok_nil)))))) G_ok mix 300 6 Try.func105 (by kernel_rfl) rfl (by kernel_rfl) (by kernel_rfl) rfl ?_
  simp [Try.f105]
  all_goals first | omega | (rw [Bool.eq_iff_iff]; simp; omega) | grind
theorem c105_ok : c105.ok Try.prog := mkCon_ok fun _ hpre => c105_pc 
def mWhyNot (r : TReport) (f : TFind) : ByteArray := if (mIsReport r && mIsFind f) = false then ⟨#[105, 110, 118, 97, 108, 105, 100]⟩ else if r.Kind ≠ f.Thing.Kind then ⟨#[107, 105, 110, 100]⟩ else if mAllows r.Colours f.Thing.Colour = false then ⟨#[99, 111, 108, 111, 117, 114]⟩ else if mIn f.Thing.Size r.SizeLow r.SizeHigh = false then ⟨#[115, 105, 122, 101]⟩ else if mAllows r.Places f.Place = false then ⟨#[112, 108, 97, 99, 101]⟩ else if f.At < r.Span.From then ⟨#[116, 105, 109, 101]⟩ else ⟨#[]⟩
/-- loop.example/g03007/impl.WhyNot -/
noncomputable def c75 : Con := mkCon 75 false (α := TReport × TFind) (fun x => (fun (r : TReport) (f : TFind) => [encTReport r, encTFind f]) x.1 x.2) (fun _ => []) (fun x => (fun (r : TReport) (f : TFind) => smR r) x.1 x.2) (fun x => (fun (r : TReport) (f : TFind) => (dS (mWhyNot r f) : D)) x.1 x.2) (fun x => (fun (r : TReport) (f : TFind) => []) x.1 x.2)
@[simp] theorem c75_f : c75.f = 75 := rfl
@[simp] theorem c75_own : c75.own = false := rfl
theorem c75_inj : ∀ u_ v_ : TReport × TFind, ((fun x => (fun (r : TReport) (f : TFind) => [encTReport r, encTFind f]) x.1 x.2) u_).map nz = ((fun x => (fun (r : TReport) (f : TFind) => [encTReport r, encTFind f]) x.1 x.2) v_).map nz → u_ = v_ := by
  intro u_ v_ h
  obtain ⟨⟨r_Id, r_Kind, r_Colours, r_SizeLow, r_SizeHigh, r_Places, ⟨r_Span_From, r_Span_Until⟩⟩, ⟨⟨f_Thing_Id, f_Thing_Kind, f_Thing_Colour, f_Thing_Size, f_Thing_Worth⟩, f_Place, f_At, f_Finder⟩⟩ := u_
  obtain ⟨⟨r_Id', r_Kind', r_Colours', r_SizeLow', r_SizeHigh', r_Places', ⟨r_Span_From', r_Span_Until'⟩⟩, ⟨⟨f_Thing_Id', f_Thing_Kind', f_Thing_Colour', f_Thing_Size', f_Thing_Worth'⟩, f_Place', f_At', f_Finder'⟩⟩ := v_
  simp [nz_lit, nz1_lit, nz_agg, nz_sl, nz1_sl, encLI, encTFind, encTReport, encTSpan, encTThing] at h
  first | (simp [h]; done) | (obtain ⟨⟩ := h; simp_all; done) | simp_all
@[simp] theorem c75_fn (r_Id : Int) (r_Kind : Int) (r_Colours : List Int) (r_SizeLow : Int) (r_SizeHigh : Int) (r_Places : List Int) (r_Span_From : Int) (r_Span_Until : Int) (f_Thing_Id : Int) (f_Thing_Kind : Int) (f_Thing_Colour : Int) (f_Thing_Size : Int) (f_Thing_Worth : Int) (f_Place : Int) (f_At : Int) (f_Finder : Int) : c75.fn [.agg [.lit (.int .i64 r_Id), .lit (.int .i64 r_Kind), .sl false 1 (.lit (.int .i64 0)) (ML dI r_Colours), .lit (.int .i64 r_SizeLow), .lit (.int .i64 r_SizeHigh), .sl false 1 (.lit (.int .i64 0)) (ML dI r_Places), .lit (.int .i64 r_Span_From), .lit (.int .i64 r_Span_Until)], .agg [.lit (.int .i64 f_Thing_Id), .lit (.int .i64 f_Thing_Kind), .lit (.int .i64 f_Thing_Colour), .lit (.int .i64 f_Thing_Size), .lit (.int .i64 f_Thing_Worth), .lit (.int .i64 f_Place), .lit (.int .i64 f_At), .lit (.int .i64 f_Finder)]] [] = some ((fun (r : TReport) (f : TFind) => smR r) ⟨r_Id, r_Kind, r_Colours, r_SizeLow, r_SizeHigh, r_Places, ⟨r_Span_From, r_Span_Until⟩⟩ ⟨⟨f_Thing_Id, f_Thing_Kind, f_Thing_Colour, f_Thing_Size, f_Thing_Worth⟩, f_Place, f_At, f_Finder⟩, (fun (r : TReport) (f : TFind) => (dS (mWhyNot r f) : D)) ⟨r_Id, r_Kind, r_Colours, r_SizeLow, r_SizeHigh, r_Places, ⟨r_Span_From, r_Span_Until⟩⟩ ⟨⟨f_Thing_Id, f_Thing_Kind, f_Thing_Colour, f_Thing_Size, f_Thing_Worth⟩, f_Place, f_At, f_Finder⟩, (fun (r : TReport) (f : TFind) => []) ⟨r_Id, r_Kind, r_Colours, r_SizeLow, r_SizeHigh, r_Places, ⟨r_Span_From, r_Span_Until⟩⟩ ⟨⟨f_Thing_Id, f_Thing_Kind, f_Thing_Colour, f_Thing_Size, f_Thing_Worth⟩, f_Place, f_At, f_Finder⟩) :=
  mkCon_fn (fun x y h _ => c75_inj x y h) ((⟨r_Id, r_Kind, r_Colours, r_SizeLow, r_SizeHigh, r_Places, ⟨r_Span_From, r_Span_Until⟩⟩, ⟨⟨f_Thing_Id, f_Thing_Kind, f_Thing_Colour, f_Thing_Size, f_Thing_Worth⟩, f_Place, f_At, f_Finder⟩) : TReport × TFind) (by simp [nz, nz1, ML_nil, encLI, encTFind, encTReport, encTSpan, encTThing]) rfl
theorem c75_pc (r : TReport) (f : TFind) (hpre : smR r) : PCo Try.prog 75 [encTReport r, encTFind f] (Tab.of []) (dS (mWhyNot r f)) (Tab.of []) := by
  refine pco_of_run [] (E := ⟨[c105, c131, c133, c134, c135, c136, c137], [], []⟩) (m := false) (base := 0) (Env.ok_cons c105_ok (Env.ok_cons c131_ok (Env.ok_cons c133_ok (Env.ok_cons c134_ok (Env.ok_cons c135_ok (Env.ok_cons c136_ok (Env.ok_cons c137_ok Env.ok_nil))))))) G_ok mix 300 6 Try.func75 (by kernel_rfl) rfl (by kernel_rfl) (by kernel_rfl) rfl ?_
  simp at hpre
  simp [Try.f75, hpre]
  refine loop_unroll 600 ?_
  simp [hpre]
  grind [mWhyNot]
theorem c75_ok : c75.ok Try.prog := mkCon_ok fun ⟨r, f⟩ hpre => c75_pc r f hpre
/-- loop.example/g03007/spec.WhyNot -/
noncomputable def c71 : Con := mkCon 71 false (α := TReport × TFind) (fun x => (fun (r : TReport) (f : TFind) => [encTReport r, encTFind f]) x.1 x.2) (fun _ => []) (fun x => (fun (r : TReport) (f : TFind) => smR r) x.1 x.2) (fun x => (fun (r : TReport) (f : TFind) => (dS (mWhyNot r f) : D)) x.1 x.2) (fun x => (fun (r : TReport) (f : TFind) => []) x.1 x.2)
@[simp] theorem c71_f : c71.f = 71 := rfl
@[simp] theorem c71_own : c71.own = false := rfl
theorem c71_inj : ∀ u_ v_ : TReport × TFind, ((fun x => (fun (r : TReport) (f : TFind) => [encTReport r, encTFind f]) x.1 x.2) u_).map nz = ((fun x => (fun (r : TReport) (f : TFind) => [encTReport r, encTFind f]) x.1 x.2) v_).map nz → u_ = v_ := by
  intro u_ v_ h
  obtain ⟨⟨r_Id, r_Kind, r_Colours, r_SizeLow, r_SizeHigh, r_Places, ⟨r_Span_From, r_Span_Until⟩⟩, ⟨⟨f_Thing_Id, f_Thing_Kind, f_Thing_Colour, f_Thing_Size, f_Thing_Worth⟩, f_Place, f_At, f_Finder⟩⟩ := u_
  obtain ⟨⟨r_Id', r_Kind', r_Colours', r_SizeLow', r_SizeHigh', r_Places', ⟨r_Span_From', r_Span_Until'⟩⟩, ⟨⟨f_Thing_Id', f_Thing_Kind', f_Thing_Colour', f_Thing_Size', f_Thing_Worth'⟩, f_Place', f_At', f_Finder'⟩⟩ := v_
  simp [nz_lit, nz1_lit, nz_agg, nz_sl, nz1_sl, encLI, encTFind, encTReport, encTSpan, encTThing] at h
  first | (simp [h]; done) | (obtain ⟨⟩ := h; simp_all; done) | simp_all
@[simp] theorem c71_fn (r_Id : Int) (r_Kind : Int) (r_Colours : List Int) (r_SizeLow : Int) (r_SizeHigh : Int) (r_Places : List Int) (r_Span_From : Int) (r_Span_Until : Int) (f_Thing_Id : Int) (f_Thing_Kind : Int) (f_Thing_Colour : Int) (f_Thing_Size : Int) (f_Thing_Worth : Int) (f_Place : Int) (f_At : Int) (f_Finder : Int) : c71.fn [.agg [.lit (.int .i64 r_Id), .lit (.int .i64 r_Kind), .sl false 1 (.lit (.int .i64 0)) (ML dI r_Colours), .lit (.int .i64 r_SizeLow), .lit (.int .i64 r_SizeHigh), .sl false 1 (.lit (.int .i64 0)) (ML dI r_Places), .lit (.int .i64 r_Span_From), .lit (.int .i64 r_Span_Until)], .agg [.lit (.int .i64 f_Thing_Id), .lit (.int .i64 f_Thing_Kind), .lit (.int .i64 f_Thing_Colour), .lit (.int .i64 f_Thing_Size), .lit (.int .i64 f_Thing_Worth), .lit (.int .i64 f_Place), .lit (.int .i64 f_At), .lit (.int .i64 f_Finder)]] [] = some ((fun (r : TReport) (f : TFind) => smR r) ⟨r_Id, r_Kind, r_Colours, r_SizeLow, r_SizeHigh, r_Places, ⟨r_Span_From, r_Span_Until⟩⟩ ⟨⟨f_Thing_Id, f_Thing_Kind, f_Thing_Colour, f_Thing_Size, f_Thing_Worth⟩, f_Place, f_At, f_Finder⟩, (fun (r : TReport) (f : TFind) => (dS (mWhyNot r f) : D)) ⟨r_Id, r_Kind, r_Colours, r_SizeLow, r_SizeHigh, r_Places, ⟨r_Span_From, r_Span_Until⟩⟩ ⟨⟨f_Thing_Id, f_Thing_Kind, f_Thing_Colour, f_Thing_Size, f_Thing_Worth⟩, f_Place, f_At, f_Finder⟩, (fun (r : TReport) (f : TFind) => []) ⟨r_Id, r_Kind, r_Colours, r_SizeLow, r_SizeHigh, r_Places, ⟨r_Span_From, r_Span_Until⟩⟩ ⟨⟨f_Thing_Id, f_Thing_Kind, f_Thing_Colour, f_Thing_Size, f_Thing_Worth⟩, f_Place, f_At, f_Finder⟩) :=
  mkCon_fn (fun x y h _ => c71_inj x y h) ((⟨r_Id, r_Kind, r_Colours, r_SizeLow, r_SizeHigh, r_Places, ⟨r_Span_From, r_Span_Until⟩⟩, ⟨⟨f_Thing_Id, f_Thing_Kind, f_Thing_Colour, f_Thing_Size, f_Thing_Worth⟩, f_Place, f_At, f_Finder⟩) : TReport × TFind) (by simp [nz, nz1, ML_nil, encLI, encTFind, encTReport, encTSpan, encTThing]) rfl
theorem c71_pc (r : TReport) (f : TFind) (hpre : smR r) : PCo Try.prog 71 [encTReport r, encTFind f] (Tab.of []) (dS (mWhyNot r f)) (Tab.of []) := by
  refine pco_of_run [] (E := ⟨[c70, c87, c99, c101], [], []⟩) (m := false) (base := 0) (Env.ok_cons c70_ok (Env.ok_cons c87_ok (Env.ok_cons c99_ok (Env.ok_cons c101_ok Env.ok_nil)))) G_ok mix 300 6 Try.func71 (by kernel_rfl) rfl (by kernel_rfl) (by kernel_rfl) rfl ?_
  simp [Try.f71]
  simp at hpre
  simp [hpre]
  grind [mWhyNot, mAllows]
theorem c71_ok : c71.ok Try.prog := mkCon_ok fun ⟨r, f⟩ hpre => c71_pc r f hpre
def mCanBe (r : TReport) (f : TFind) : Bool := mIsReport r && mIsFind f && decide (r.Kind = f.Thing.Kind) && mAllows r.Colours f.Thing.Colour && mIn f.Thing.Size r.SizeLow r.SizeHigh && mAllows r.Places f.Place && decide (r.Span.From ≤ f.At)
theorem canBe_why (r : TReport) (f : TFind) : decide (mWhyNot r f = ⟨#[]⟩) = mCanBe r f := by
  have e1 : ((⟨#[105, 110, 118, 97, 108, 105, 100]⟩ : ByteArray) = ⟨#[]⟩) = False := by simp
  have e2 : ((⟨#[107, 105, 110, 100]⟩ : ByteArray) = ⟨#[]⟩) = False := by simp
  have e3 : ((⟨#[99, 111, 108, 111, 117, 114]⟩ : ByteArray) = ⟨#[]⟩) = False := by simp
  have e4 : ((⟨#[115, 105, 122, 101]⟩ : ByteArray) = ⟨#[]⟩) = False := by simp
  have e5 : ((⟨#[112, 108, 97, 99, 101]⟩ : ByteArray) = ⟨#[]⟩) = False := by simp
  have e6 : ((⟨#[116, 105, 109, 101]⟩ : ByteArray) = ⟨#[]⟩) = False := by simp
  rw [Bool.eq_iff_iff]
  simp only [mWhyNot, mCanBe, decide_eq_true_eq, Bool.and_eq_true]
  (repeat' split) <;> simp_all
  all_goals trace_state
/-- loop.example/g03007/impl.CanBe -/
noncomputable def c50 : Con := mkCon 50 false (α := TReport × TFind) (fun x => (fun (r : TReport) (f : TFind) => [encTReport r, encTFind f]) x.1 x.2) (fun _ => []) (fun x => (fun (r : TReport) (f : TFind) => smR r) x.1 x.2) (fun x => (fun (r : TReport) (f : TFind) => (dB (mCanBe r f) : D)) x.1 x.2) (fun x => (fun (r : TReport) (f : TFind) => []) x.1 x.2)
@[simp] theorem c50_f : c50.f = 50 := rfl
@[simp] theorem c50_own : c50.own = false := rfl
theorem c50_inj : ∀ u_ v_ : TReport × TFind, ((fun x => (fun (r : TReport) (f : TFind) => [encTReport r, encTFind f]) x.1 x.2) u_).map nz = ((fun x => (fun (r : TReport) (f : TFind) => [encTReport r, encTFind f]) x.1 x.2) v_).map nz → u_ = v_ := by
  intro u_ v_ h
  obtain ⟨⟨r_Id, r_Kind, r_Colours, r_SizeLow, r_SizeHigh, r_Places, ⟨r_Span_From, r_Span_Until⟩⟩, ⟨⟨f_Thing_Id, f_Thing_Kind, f_Thing_Colour, f_Thing_Size, f_Thing_Worth⟩, f_Place, f_At, f_Finder⟩⟩ := u_
  obtain ⟨⟨r_Id', r_Kind', r_Colours', r_SizeLow', r_SizeHigh', r_Places', ⟨r_Span_From', r_Span_Until'⟩⟩, ⟨⟨f_Thing_Id', f_Thing_Kind', f_Thing_Colour', f_Thing_Size', f_Thing_Worth'⟩, f_Place', f_At', f_Finder'⟩⟩ := v_
  simp [nz_lit, nz1_lit, nz_agg, nz_sl, nz1_sl, encLI, encTFind, encTReport, encTSpan, encTThing] at h
  first | (simp [h]; done) | (obtain ⟨⟩ := h; simp_all; done) | simp_all
@[simp] theorem c50_fn (r_Id : Int) (r_Kind : Int) (r_Colours : List Int) (r_SizeLow : Int) (r_SizeHigh : Int) (r_Places : List Int) (r_Span_From : Int) (r_Span_Until : Int) (f_Thing_Id : Int) (f_Thing_Kind : Int) (f_Thing_Colour : Int) (f_Thing_Size : Int) (f_Thing_Worth : Int) (f_Place : Int) (f_At : Int) (f_Finder : Int) : c50.fn [.agg [.lit (.int .i64 r_Id), .lit (.int .i64 r_Kind), .sl false 1 (.lit (.int .i64 0)) (ML dI r_Colours), .lit (.int .i64 r_SizeLow), .lit (.int .i64 r_SizeHigh), .sl false 1 (.lit (.int .i64 0)) (ML dI r_Places), .lit (.int .i64 r_Span_From), .lit (.int .i64 r_Span_Until)], .agg [.lit (.int .i64 f_Thing_Id), .lit (.int .i64 f_Thing_Kind), .lit (.int .i64 f_Thing_Colour), .lit (.int .i64 f_Thing_Size), .lit (.int .i64 f_Thing_Worth), .lit (.int .i64 f_Place), .lit (.int .i64 f_At), .lit (.int .i64 f_Finder)]] [] = some ((fun (r : TReport) (f : TFind) => smR r) ⟨r_Id, r_Kind, r_Colours, r_SizeLow, r_SizeHigh, r_Places, ⟨r_Span_From, r_Span_Until⟩⟩ ⟨⟨f_Thing_Id, f_Thing_Kind, f_Thing_Colour, f_Thing_Size, f_Thing_Worth⟩, f_Place, f_At, f_Finder⟩, (fun (r : TReport) (f : TFind) => (dB (mCanBe r f) : D)) ⟨r_Id, r_Kind, r_Colours, r_SizeLow, r_SizeHigh, r_Places, ⟨r_Span_From, r_Span_Until⟩⟩ ⟨⟨f_Thing_Id, f_Thing_Kind, f_Thing_Colour, f_Thing_Size, f_Thing_Worth⟩, f_Place, f_At, f_Finder⟩, (fun (r : TReport) (f : TFind) => []) ⟨r_Id, r_Kind, r_Colours, r_SizeLow, r_SizeHigh, r_Places, ⟨r_Span_From, r_Span_Until⟩⟩ ⟨⟨f_Thing_Id, f_Thing_Kind, f_Thing_Colour, f_Thing_Size, f_Thing_Worth⟩, f_Place, f_At, f_Finder⟩) :=
  mkCon_fn (fun x y h _ => c50_inj x y h) ((⟨r_Id, r_Kind, r_Colours, r_SizeLow, r_SizeHigh, r_Places, ⟨r_Span_From, r_Span_Until⟩⟩, ⟨⟨f_Thing_Id, f_Thing_Kind, f_Thing_Colour, f_Thing_Size, f_Thing_Worth⟩, f_Place, f_At, f_Finder⟩) : TReport × TFind) (by simp [nz, nz1, ML_nil, encLI, encTFind, encTReport, encTSpan, encTThing]) rfl
theorem c50_pc (r : TReport) (f : TFind) (hpre : smR r) : PCo Try.prog 50 [encTReport r, encTFind f] (Tab.of []) (dB (mCanBe r f)) (Tab.of []) := by
  refine pco_of_run [] (E := ⟨[c75], [], []⟩) (m := false) (base := 0) (Env.ok_cons c75_ok Env.ok_nil) G_ok mix 300 6 Try.func50 (by kernel_rfl) rfl (by kernel_rfl) (by kernel_rfl) rfl ?_
  simp [Try.f50]
  simp at hpre
  simp [hpre, ← canBe_why]
theorem c50_ok : c50.ok Try.prog := mkCon_ok fun ⟨r, f⟩ hpre => c50_pc r f hpre
/-- loop.example/g03007/spec.CanBe -/
noncomputable def c44 : Con := mkCon 44 false (α := TReport × TFind) (fun x => (fun (r : TReport) (f : TFind) => [encTReport r, encTFind f]) x.1 x.2) (fun _ => []) (fun x => (fun (r : TReport) (f : TFind) => smR r) x.1 x.2) (fun x => (fun (r : TReport) (f : TFind) => (dB (mCanBe r f) : D)) x.1 x.2) (fun x => (fun (r : TReport) (f : TFind) => []) x.1 x.2)
@[simp] theorem c44_f : c44.f = 44 := rfl
@[simp] theorem c44_own : c44.own = false := rfl
theorem c44_inj : ∀ u_ v_ : TReport × TFind, ((fun x => (fun (r : TReport) (f : TFind) => [encTReport r, encTFind f]) x.1 x.2) u_).map nz = ((fun x => (fun (r : TReport) (f : TFind) => [encTReport r, encTFind f]) x.1 x.2) v_).map nz → u_ = v_ := by
  intro u_ v_ h
  obtain ⟨⟨r_Id, r_Kind, r_Colours, r_SizeLow, r_SizeHigh, r_Places, ⟨r_Span_From, r_Span_Until⟩⟩, ⟨⟨f_Thing_Id, f_Thing_Kind, f_Thing_Colour, f_Thing_Size, f_Thing_Worth⟩, f_Place, f_At, f_Finder⟩⟩ := u_
  obtain ⟨⟨r_Id', r_Kind', r_Colours', r_SizeLow', r_SizeHigh', r_Places', ⟨r_Span_From', r_Span_Until'⟩⟩, ⟨⟨f_Thing_Id', f_Thing_Kind', f_Thing_Colour', f_Thing_Size', f_Thing_Worth'⟩, f_Place', f_At', f_Finder'⟩⟩ := v_
  simp [nz_lit, nz1_lit, nz_agg, nz_sl, nz1_sl, encLI, encTFind, encTReport, encTSpan, encTThing] at h
  first | (simp [h]; done) | (obtain ⟨⟩ := h; simp_all; done) | simp_all
@[simp] theorem c44_fn (r_Id : Int) (r_Kind : Int) (r_Colours : List Int) (r_SizeLow : Int) (r_SizeHigh : Int) (r_Places : List Int) (r_Span_From : Int) (r_Span_Until : Int) (f_Thing_Id : Int) (f_Thing_Kind : Int) (f_Thing_Colour : Int) (f_Thing_Size : Int) (f_Thing_Worth : Int) (f_Place : Int) (f_At : Int) (f_Finder : Int) : c44.fn [.agg [.lit (.int .i64 r_Id), .lit (.int .i64 r_Kind), .sl false 1 (.lit (.int .i64 0)) (ML dI r_Colours), .lit (.int .i64 r_SizeLow), .lit (.int .i64 r_SizeHigh), .sl false 1 (.lit (.int .i64 0)) (ML dI r_Places), .lit (.int .i64 r_Span_From), .lit (.int .i64 r_Span_Until)], .agg [.lit (.int .i64 f_Thing_Id), .lit (.int .i64 f_Thing_Kind), .lit (.int .i64 f_Thing_Colour), .lit (.int .i64 f_Thing_Size), .lit (.int .i64 f_Thing_Worth), .lit (.int .i64 f_Place), .lit (.int .i64 f_At), .lit (.int .i64 f_Finder)]] [] = some ((fun (r : TReport) (f : TFind) => smR r) ⟨r_Id, r_Kind, r_Colours, r_SizeLow, r_SizeHigh, r_Places, ⟨r_Span_From, r_Span_Until⟩⟩ ⟨⟨f_Thing_Id, f_Thing_Kind, f_Thing_Colour, f_Thing_Size, f_Thing_Worth⟩, f_Place, f_At, f_Finder⟩, (fun (r : TReport) (f : TFind) => (dB (mCanBe r f) : D)) ⟨r_Id, r_Kind, r_Colours, r_SizeLow, r_SizeHigh, r_Places, ⟨r_Span_From, r_Span_Until⟩⟩ ⟨⟨f_Thing_Id, f_Thing_Kind, f_Thing_Colour, f_Thing_Size, f_Thing_Worth⟩, f_Place, f_At, f_Finder⟩, (fun (r : TReport) (f : TFind) => []) ⟨r_Id, r_Kind, r_Colours, r_SizeLow, r_SizeHigh, r_Places, ⟨r_Span_From, r_Span_Until⟩⟩ ⟨⟨f_Thing_Id, f_Thing_Kind, f_Thing_Colour, f_Thing_Size, f_Thing_Worth⟩, f_Place, f_At, f_Finder⟩) :=
  mkCon_fn (fun x y h _ => c44_inj x y h) ((⟨r_Id, r_Kind, r_Colours, r_SizeLow, r_SizeHigh, r_Places, ⟨r_Span_From, r_Span_Until⟩⟩, ⟨⟨f_Thing_Id, f_Thing_Kind, f_Thing_Colour, f_Thing_Size, f_Thing_Worth⟩, f_Place, f_At, f_Finder⟩) : TReport × TFind) (by simp [nz, nz1, ML_nil, encLI, encTFind, encTReport, encTSpan, encTThing]) rfl
theorem c44_pc (r : TReport) (f : TFind) (hpre : smR r) : PCo Try.prog 44 [encTReport r, encTFind f] (Tab.of []) (dB (mCanBe r f)) (Tab.of []) := by
  refine pco_of_run [] (E := ⟨[c71], [], []⟩) (m := false) (base := 0) (Env.ok_cons c71_ok Env.ok_nil) G_ok mix 300 6 Try.func44 (by kernel_rfl) rfl (by kernel_rfl) (by kernel_rfl) rfl ?_
  simp [Try.f44]
  simp at hpre
  simp [hpre, ← canBe_why]
theorem c44_ok : c44.ok Try.prog := mkCon_ok fun ⟨r, f⟩ hpre => c44_pc r f hpre
def b2i (b : Bool) : Int := if b then 1 else 0
theorem b2i_bd (b : Bool) : 0 ≤ b2i b ∧ b2i b ≤ 1 := by cases b <;> simp [b2i]
def mScore (r : TReport) (f : TFind) : Int := if mCanBe r f then 1 + b2i (mIn r.Colours.length 1 2) + b2i (decide (r.SizeHigh - r.SizeLow ≤ 5)) + b2i (mIn r.Places.length 1 2) + b2i (decide (f.At ≤ r.Span.Until + 24)) else 0
theorem canBe_bd {r : TReport} {f : TFind} (h : mCanBe r f = true) : (1 ≤ r.SizeLow ∧ r.SizeLow ≤ r.SizeHigh ∧ r.SizeHigh ≤ 50) ∧ (0 ≤ r.Span.From ∧ r.Span.From ≤ r.Span.Until ∧ r.Span.Until ≤ 100000) ∧ 0 ≤ f.At ∧ f.At ≤ 100000 := by
  simp [mCanBe, mIsReport, mIsFind, mIsSpan, mIn] at h; omega
end Go.Proofs.Ytnghehfdclhfdaa
