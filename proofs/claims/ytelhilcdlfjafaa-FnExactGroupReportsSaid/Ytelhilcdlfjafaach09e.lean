/- Contracts of the functions that the laws run. -/
import Derived.Test.Ytelhilcdlfjafaach09c
import Derived.Test.Ytelhilcdlfjafaach07p
import Derived.Test.YtelhilcdlfjafaaEngB
namespace Go.Proofs.Ytelhilcdlfjafaa
open Go Go.Eng
set_option linter.unusedSimpArgs false
set_option linter.unusedVariables false
set_option maxRecDepth 10000
set_option maxHeartbeats 1000000
theorem ascW_mono {hi : Int} : ∀ {l : List Int} {lo lo' : Int}, lo ≤ lo' → ascW hi lo' l = true → ascW hi lo l = true
  | [], _, _, _, _ => rfl
  | x :: r, lo, lo', h, ha => by
    simp only [ascW, Bool.and_eq_true] at ha ⊢
    exact ⟨mIn_iff.2 (by have := mIn_iff.1 ha.1; omega), ha.2⟩
theorem ascW_filter {hi : Int} {w : Int → Bool} : ∀ {l : List Int} {lo : Int}, ascW hi lo l = true → ascW hi lo (l.filter w) = true
  | [], _, _ => rfl
  | x :: r, lo, ha => by
    simp only [ascW, Bool.and_eq_true] at ha
    have h1 := mIn_iff.1 ha.1
    have ih := ascW_filter (w := w) ha.2
    by_cases hw : w x = true
    · rw [List.filter_cons_of_pos hw]
      simp only [ascW, Bool.and_eq_true]
      exact ⟨ha.1, ih⟩
    · rw [List.filter_cons_of_neg hw]
      exact ascW_mono (by omega) ih
def bothL (a b : List Int) : List Int := if a = [] then b else if b = [] then a else pick (fun n => decide (n ∈ b)) (fun n => n) a
def bothK (a b : List Int) : Bool := decide (a = []) || decide (b = []) || decide (0 < (pick (fun n => decide (n ∈ b)) (fun n => n) a).length)
theorem pick_all {l : List Int} {w : Int → Bool} (h : ∀ n ∈ l, w n = true) : pick w (fun n => n) l = l := by
  simp only [pick, List.map_id']
  exact List.filter_eq_self.2 h
theorem bothO_chOf (a b : List Int) : bothO (chOf a) (chOf b) = bothL a b := by
  by_cases ha : a = [] <;> by_cases hb : b = []
  · simp [chOf, ha, hb, bothO, bothL]
  · simp only [chOf, ha, hb, bothO, bothL, if_true, if_false, bothF]
    exact pick_all fun n hn => by simp [hasC_some, hn]
  · simp only [chOf, ha, hb, bothO, bothL, if_true, if_false, bothF]
    exact pick_all fun n hn => by simp [hasC_some, hn]
  · simp only [chOf, ha, hb, bothO, bothL, if_false, bothF]
    simp only [pick, List.map_id']
    refine List.filter_congr fun n hn => ?_
    simp [hasC_some, hn]
theorem bothS_chOf (a b : List Int) : bothS (chOf a) (chOf b) = bothK a b := by
  have h := bothO_chOf a b
  by_cases ha : a = [] <;> by_cases hb : b = []
  · simp [chOf, ha, hb, bothS, bothK]
  · have e : bothS (chOf a) (chOf b) = decide (0 < (bothO (chOf a) (chOf b)).length) := by simp [chOf, ha, hb, bothS]
    rw [e, h]
    simp [bothL, bothK, ha]; exact List.length_pos_iff.2 hb
  · have e : bothS (chOf a) (chOf b) = decide (0 < (bothO (chOf a) (chOf b)).length) := by simp [chOf, ha, hb, bothS]
    rw [e, h]
    simp [bothL, bothK, ha, hb]; exact List.length_pos_iff.2 ha
  · have e : bothS (chOf a) (chOf b) = decide (0 < (bothO (chOf a) (chOf b)).length) := by simp [chOf, ha, hb, bothS]
    rw [e, h]
    simp [bothL, bothK, ha, hb]
theorem bothL_len (a b : List Int) : (bothL a b).length ≤ a.length + b.length := by
  simp only [bothL]
  split
  · omega
  · split
    · omega
    · have := pick_len (want := fun n => decide (n ∈ b)) (f := fun n : Int => n) a; omega
theorem bothL_cap {a b : List Int} {n : Nat} (ha : a.length ≤ n) (hb : b.length ≤ n) : (bothL a b).length ≤ n := by
  simp only [bothL]
  split
  · exact hb
  · split
    · exact ha
    · have := pick_len (want := fun n => decide (n ∈ b)) (f := fun n : Int => n) a; omega
theorem bothL_asc {hi lo : Int} {a b : List Int} (ha : ascW hi lo a = true) (hb : ascW hi lo b = true) : ascW hi lo (bothL a b) = true := by
  simp only [bothL]
  split
  · exact hb
  · split
    · exact ha
    · simp only [pick, List.map_id']; exact ascW_filter ha
/-- loop.example/g03007/spec.l9Both -/
noncomputable def c29 : Con := mkCon 29 false (α := (List Int) × (List Int)) (fun x => (fun (a : List Int) (b : List Int) => [encLI a, encLI b]) x.1 x.2) (fun _ => []) (fun x => (fun (a : List Int) (b : List Int) => a.length ≤ 1073741824 ∧ b.length ≤ 1073741824) x.1 x.2) (fun x => (fun (a : List Int) (b : List Int) => (.tup [.own (0, 1) 1 0 (bothL a b).length, dB (bothK a b)] : D)) x.1 x.2) (fun x => (fun (a : List Int) (b : List Int) => [((0, 1), .arr false 1 (dI 0) (ML dI (bothL a b)))]) x.1 x.2)
@[simp] theorem c29_f : c29.f = 29 := rfl
@[simp] theorem c29_own : c29.own = false := rfl
theorem c29_inj : ∀ u_ v_ : (List Int) × (List Int), ((fun x => (fun (a : List Int) (b : List Int) => [encLI a, encLI b]) x.1 x.2) u_).map nz = ((fun x => (fun (a : List Int) (b : List Int) => [encLI a, encLI b]) x.1 x.2) v_).map nz → u_ = v_ := by
  intro u_ v_ h
  obtain ⟨a, b⟩ := u_
  obtain ⟨a', b'⟩ := v_
  simp [nz_lit, nz1_lit, nz_agg, nz_sl, nz1_sl, encLI] at h
  first | (simp [h]; done) | (obtain ⟨⟩ := h; simp_all; done) | simp_all
@[simp] theorem c29_fn (a : List Int) (b : List Int) : c29.fn [.sl false 1 (.lit (.int .i64 0)) (ML dI a), .sl false 1 (.lit (.int .i64 0)) (ML dI b)] [] = some ((fun (a : List Int) (b : List Int) => a.length ≤ 1073741824 ∧ b.length ≤ 1073741824) a b, (fun (a : List Int) (b : List Int) => (.tup [.own (0, 1) 1 0 (bothL a b).length, dB (bothK a b)] : D)) a b, (fun (a : List Int) (b : List Int) => [((0, 1), .arr false 1 (dI 0) (ML dI (bothL a b)))]) a b) :=
  mkCon_fn (fun x y h _ => c29_inj x y h) ((a, b) : (List Int) × (List Int)) (by simp [nz, nz1, ML_nil, encLI]) rfl
@[simp] theorem c29_fn1 (s_a : Nat) (z_a : D) (b : List Int) : c29.fn [.sl false s_a z_a [], .sl false 1 (.lit (.int .i64 0)) (ML dI b)] [] = some ((fun (a : List Int) (b : List Int) => a.length ≤ 1073741824 ∧ b.length ≤ 1073741824) [] b, (fun (a : List Int) (b : List Int) => (.tup [.own (0, 1) 1 0 (bothL a b).length, dB (bothK a b)] : D)) [] b, (fun (a : List Int) (b : List Int) => [((0, 1), .arr false 1 (dI 0) (ML dI (bothL a b)))]) [] b) :=
  mkCon_fn (fun x y h _ => c29_inj x y h) (([], b) : (List Int) × (List Int)) (by simp [nz, nz1, ML_nil, encLI]) rfl
@[simp] theorem c29_fn2 (a : List Int) (s_b : Nat) (z_b : D) : c29.fn [.sl false 1 (.lit (.int .i64 0)) (ML dI a), .sl false s_b z_b []] [] = some ((fun (a : List Int) (b : List Int) => a.length ≤ 1073741824 ∧ b.length ≤ 1073741824) a [], (fun (a : List Int) (b : List Int) => (.tup [.own (0, 1) 1 0 (bothL a b).length, dB (bothK a b)] : D)) a [], (fun (a : List Int) (b : List Int) => [((0, 1), .arr false 1 (dI 0) (ML dI (bothL a b)))]) a []) :=
  mkCon_fn (fun x y h _ => c29_inj x y h) ((a, []) : (List Int) × (List Int)) (by simp [nz, nz1, ML_nil, encLI]) rfl
@[simp] theorem c29_fn3 (s_a : Nat) (z_a : D) (s_b : Nat) (z_b : D) : c29.fn [.sl false s_a z_a [], .sl false s_b z_b []] [] = some ((fun (a : List Int) (b : List Int) => a.length ≤ 1073741824 ∧ b.length ≤ 1073741824) [] [], (fun (a : List Int) (b : List Int) => (.tup [.own (0, 1) 1 0 (bothL a b).length, dB (bothK a b)] : D)) [] [], (fun (a : List Int) (b : List Int) => [((0, 1), .arr false 1 (dI 0) (ML dI (bothL a b)))]) [] []) :=
  mkCon_fn (fun x y h _ => c29_inj x y h) (([], []) : (List Int) × (List Int)) (by simp [nz, nz1, ML_nil, encLI]) rfl
theorem c29_pc (a : List Int) (b : List Int) (hpre : a.length ≤ 1073741824 ∧ b.length ≤ 1073741824) : PCo Try.prog 29 [encLI a, encLI b] (Tab.of []) (.tup [.own (0, 1) 1 0 (bothL a b).length, dB (bothK a b)]) (Tab.of [((0, 1), .arr false 1 (dI 0) (ML dI (bothL a b)))]) := by
  refine pco_of_run [] (E := ⟨[c40], [], []⟩) (m := false) (base := 0) (Env.ok_cons c40_ok Env.ok_nil) G_ok mix 300 6 Try.func29 (by kernel_rfl) rfl (by kernel_rfl) (by kernel_rfl) rfl ?_
  obtain ⟨hp1, hp2⟩ := hpre
  by_cases ha : a = []
  · subst ha
    simp [Try.f29, bothL, bothK]
    first | done | omega
  · by_cases hb : b = []
    · subst hb
      simp [Try.f29, bothL, bothK, ha]
      first | done | omega
    · simp [Try.f29, bothL, bothK, ha, hb]
      refine loop_inv (fun p : Nat => p ≤ a.length) (fun p => [(0, encLI a), (1, encLI b), (6, .own (0, 1) 1 0 (pick (fun n => decide (n ∈ b)) (fun n => n) (a.take p)).length), (7, dI p)]) (fun p => [((0, 1), .arr false 1 (dI 0) (ML dI (pick (fun n => decide (n ∈ b)) (fun n => n) (a.take p))))]) 2 (fun p => a.length - p) 0 400 (by simp) (by simp) (by simp) ?_
      intro p hp
      simp
      refine ⟨fun hlt => ?_, fun hge => ?_⟩
      · have hs := pick_at (want := fun n => decide (n ∈ b)) (f := fun n => n) (d := 0) hlt
        have hk := pick_take_len (want := fun n => decide (n ∈ b)) (f := fun n : Int => n) a p
        have hsT : a[p]?.getD 0 ∈ b → pick (fun n => decide (n ∈ b)) (fun n => n) (a.take (p + 1)) = pick (fun n => decide (n ∈ b)) (fun n => n) (a.take p) ++ [a[p]?.getD 0] := fun h => by rw [hs, if_pos (by simp [h])]
        have hsF : ¬ a[p]?.getD 0 ∈ b → pick (fun n => decide (n ∈ b)) (fun n => n) (a.take (p + 1)) = pick (fun n => decide (n ∈ b)) (fun n => n) (a.take p) := fun h => by rw [hs, if_neg (by simp [h]), List.append_nil]
        repeat' (first | omega | refine And.intro ?_ ?_ | intro _)
        all_goals first | (have hw := hsT (by assumption); exact Again.mk (p + 1) (by omega) (by simp [hw]) (by first | omega | (simp; omega))) | (have hw := hsF (by assumption); exact Again.mk (p + 1) (by omega) (by simp [hw]) (by first | omega | (simp; omega))) | trace_state
      · rw [List.take_of_length_le hge]; simp; first | done | exact decide_eq_decide.2 Iff.rfl
theorem c29_ok : c29.ok Try.prog := mkCon_ok fun ⟨a, b⟩ hpre => c29_pc a b hpre
@[simp] theorem ib_EE : c57.fn [.iface 95 (.agg []), .iface 95 (.agg [])] [] = some (0 ≤ 1099511627776 ∧ 0 ≤ 1099511627776, .tup [.sl false 1 (.lit (.int .i64 0)) (ML dI (bothO none none)), dB (bothS none none)], []) := c57_fn none none
@[simp] theorem ib_EO {b : List Int} : c57.fn [.iface 95 (.agg []), .iface 91 (.sl false 1 (.lit (.int .i64 0)) (ML dI b))] [] = some (0 ≤ 1099511627776 ∧ b.length ≤ 1099511627776, .tup [.sl false 1 (.lit (.int .i64 0)) (ML dI (bothO none (some b))), dB (bothS none (some b))], []) := c57_fn none (some b)
@[simp] theorem ib_OE {a : List Int} : c57.fn [.iface 91 (.sl false 1 (.lit (.int .i64 0)) (ML dI a)), .iface 95 (.agg [])] [] = some (a.length ≤ 1099511627776 ∧ 0 ≤ 1099511627776, .tup [.sl false 1 (.lit (.int .i64 0)) (ML dI (bothO (some a) none)), dB (bothS (some a) none)], []) := c57_fn (some a) none
@[simp] theorem ib_OO {a : List Int} {b : List Int} : c57.fn [.iface 91 (.sl false 1 (.lit (.int .i64 0)) (ML dI a)), .iface 91 (.sl false 1 (.lit (.int .i64 0)) (ML dI b))] [] = some (a.length ≤ 1099511627776 ∧ b.length ≤ 1099511627776, .tup [.sl false 1 (.lit (.int .i64 0)) (ML dI (bothO (some a) (some b))), dB (bothS (some a) (some b))], []) := c57_fn (some a) (some b)
theorem chOf_or (l : List Int) : chOf l = none ∨ chOf l = some l := by
  by_cases h : l = []
  · exact Or.inl (by simp [chOf, h])
  · exact Or.inr (by simp [chOf, h])
/-- loop.example/g03007/impl.sharpenColours -/
noncomputable def c48 : Con := mkCon 48 false (α := TReport × TReport) (fun x => (fun (a : TReport) (b : TReport) => [encTReport a, encTReport b]) x.1 x.2) (fun _ => []) (fun x => (fun (a : TReport) (b : TReport) => smR a ∧ smR b) x.1 x.2) (fun x => (fun (a : TReport) (b : TReport) => (.tup [.fn (.func 54) [] [.el (encLI (bothL a.Colours b.Colours))], dB (bothK a.Colours b.Colours)] : D)) x.1 x.2) (fun x => (fun (a : TReport) (b : TReport) => []) x.1 x.2)
@[simp] theorem c48_f : c48.f = 48 := rfl
@[simp] theorem c48_own : c48.own = false := rfl
theorem c48_inj : ∀ u_ v_ : TReport × TReport, ((fun x => (fun (a : TReport) (b : TReport) => [encTReport a, encTReport b]) x.1 x.2) u_).map nz = ((fun x => (fun (a : TReport) (b : TReport) => [encTReport a, encTReport b]) x.1 x.2) v_).map nz → u_ = v_ := by
  intro u_ v_ h
  obtain ⟨⟨a_Id, a_Kind, a_Colours, a_SizeLow, a_SizeHigh, a_Places, ⟨a_Span_From, a_Span_Until⟩⟩, ⟨b_Id, b_Kind, b_Colours, b_SizeLow, b_SizeHigh, b_Places, ⟨b_Span_From, b_Span_Until⟩⟩⟩ := u_
  obtain ⟨⟨a_Id', a_Kind', a_Colours', a_SizeLow', a_SizeHigh', a_Places', ⟨a_Span_From', a_Span_Until'⟩⟩, ⟨b_Id', b_Kind', b_Colours', b_SizeLow', b_SizeHigh', b_Places', ⟨b_Span_From', b_Span_Until'⟩⟩⟩ := v_
  simp [nz_lit, nz1_lit, nz_agg, nz_sl, nz1_sl, encLI, encTReport, encTSpan] at h
  first | (simp [h]; done) | (obtain ⟨⟩ := h; simp_all; done) | simp_all
@[simp] theorem c48_fn (a_Id : Int) (a_Kind : Int) (a_Colours : List Int) (a_SizeLow : Int) (a_SizeHigh : Int) (a_Places : List Int) (a_Span_From : Int) (a_Span_Until : Int) (b_Id : Int) (b_Kind : Int) (b_Colours : List Int) (b_SizeLow : Int) (b_SizeHigh : Int) (b_Places : List Int) (b_Span_From : Int) (b_Span_Until : Int) : c48.fn [.agg [.lit (.int .i64 a_Id), .lit (.int .i64 a_Kind), .sl false 1 (.lit (.int .i64 0)) (ML dI a_Colours), .lit (.int .i64 a_SizeLow), .lit (.int .i64 a_SizeHigh), .sl false 1 (.lit (.int .i64 0)) (ML dI a_Places), .lit (.int .i64 a_Span_From), .lit (.int .i64 a_Span_Until)], .agg [.lit (.int .i64 b_Id), .lit (.int .i64 b_Kind), .sl false 1 (.lit (.int .i64 0)) (ML dI b_Colours), .lit (.int .i64 b_SizeLow), .lit (.int .i64 b_SizeHigh), .sl false 1 (.lit (.int .i64 0)) (ML dI b_Places), .lit (.int .i64 b_Span_From), .lit (.int .i64 b_Span_Until)]] [] = some ((fun (a : TReport) (b : TReport) => smR a ∧ smR b) ⟨a_Id, a_Kind, a_Colours, a_SizeLow, a_SizeHigh, a_Places, ⟨a_Span_From, a_Span_Until⟩⟩ ⟨b_Id, b_Kind, b_Colours, b_SizeLow, b_SizeHigh, b_Places, ⟨b_Span_From, b_Span_Until⟩⟩, (fun (a : TReport) (b : TReport) => (.tup [.fn (.func 54) [] [.el (encLI (bothL a.Colours b.Colours))], dB (bothK a.Colours b.Colours)] : D)) ⟨a_Id, a_Kind, a_Colours, a_SizeLow, a_SizeHigh, a_Places, ⟨a_Span_From, a_Span_Until⟩⟩ ⟨b_Id, b_Kind, b_Colours, b_SizeLow, b_SizeHigh, b_Places, ⟨b_Span_From, b_Span_Until⟩⟩, (fun (a : TReport) (b : TReport) => []) ⟨a_Id, a_Kind, a_Colours, a_SizeLow, a_SizeHigh, a_Places, ⟨a_Span_From, a_Span_Until⟩⟩ ⟨b_Id, b_Kind, b_Colours, b_SizeLow, b_SizeHigh, b_Places, ⟨b_Span_From, b_Span_Until⟩⟩) :=
  mkCon_fn (fun x y h _ => c48_inj x y h) ((⟨a_Id, a_Kind, a_Colours, a_SizeLow, a_SizeHigh, a_Places, ⟨a_Span_From, a_Span_Until⟩⟩, ⟨b_Id, b_Kind, b_Colours, b_SizeLow, b_SizeHigh, b_Places, ⟨b_Span_From, b_Span_Until⟩⟩) : TReport × TReport) (by simp [nz, nz1, ML_nil, encLI, encTReport, encTSpan]) rfl
theorem c48_pc (a : TReport) (b : TReport) (hpre : smR a ∧ smR b) : PCo Try.prog 48 [encTReport a, encTReport b] (Tab.of []) (.tup [.fn (.func 54) [] [.el (encLI (bothL a.Colours b.Colours))], dB (bothK a.Colours b.Colours)]) (Tab.of []) := by
  refine pco_of_run [1] (E := ⟨[c46, c57, c58], [], []⟩) (m := false) (base := 0) (Env.ok_cons c46_ok (Env.ok_cons c57_ok (Env.ok_cons c58_ok Env.ok_nil))) G_ok mix 300 6 Try.func48 (by kernel_rfl) rfl (by kernel_rfl) (by kernel_rfl) rfl ?_
  simp at hpre
  have w1 := bothO_chOf a.Colours b.Colours
  have w2 := bothS_chOf a.Colours b.Colours
  obtain h1 | h1 := chOf_or a.Colours
  all_goals obtain h2 | h2 := chOf_or b.Colours
  all_goals rw [h1, h2] at w1 w2
  all_goals simp [Try.f48, hpre, h1, h2, tyO_none, inO_none, tyO_some, inO_some, w1, w2]
theorem c48_ok : c48.ok Try.prog := mkCon_ok fun ⟨a, b⟩ hpre => c48_pc a b hpre
/-- loop.example/g03007/impl.sharpenPlaces -/
noncomputable def c50 : Con := mkCon 50 false (α := TReport × TReport) (fun x => (fun (a : TReport) (b : TReport) => [encTReport a, encTReport b]) x.1 x.2) (fun _ => []) (fun x => (fun (a : TReport) (b : TReport) => smR a ∧ smR b) x.1 x.2) (fun x => (fun (a : TReport) (b : TReport) => (.tup [.fn (.func 56) [] [.el (encLI (bothL a.Places b.Places))], dB (bothK a.Places b.Places)] : D)) x.1 x.2) (fun x => (fun (a : TReport) (b : TReport) => []) x.1 x.2)
@[simp] theorem c50_f : c50.f = 50 := rfl
@[simp] theorem c50_own : c50.own = false := rfl
theorem c50_inj : ∀ u_ v_ : TReport × TReport, ((fun x => (fun (a : TReport) (b : TReport) => [encTReport a, encTReport b]) x.1 x.2) u_).map nz = ((fun x => (fun (a : TReport) (b : TReport) => [encTReport a, encTReport b]) x.1 x.2) v_).map nz → u_ = v_ := by
  intro u_ v_ h
  obtain ⟨⟨a_Id, a_Kind, a_Colours, a_SizeLow, a_SizeHigh, a_Places, ⟨a_Span_From, a_Span_Until⟩⟩, ⟨b_Id, b_Kind, b_Colours, b_SizeLow, b_SizeHigh, b_Places, ⟨b_Span_From, b_Span_Until⟩⟩⟩ := u_
  obtain ⟨⟨a_Id', a_Kind', a_Colours', a_SizeLow', a_SizeHigh', a_Places', ⟨a_Span_From', a_Span_Until'⟩⟩, ⟨b_Id', b_Kind', b_Colours', b_SizeLow', b_SizeHigh', b_Places', ⟨b_Span_From', b_Span_Until'⟩⟩⟩ := v_
  simp [nz_lit, nz1_lit, nz_agg, nz_sl, nz1_sl, encLI, encTReport, encTSpan] at h
  first | (simp [h]; done) | (obtain ⟨⟩ := h; simp_all; done) | simp_all
@[simp] theorem c50_fn (a_Id : Int) (a_Kind : Int) (a_Colours : List Int) (a_SizeLow : Int) (a_SizeHigh : Int) (a_Places : List Int) (a_Span_From : Int) (a_Span_Until : Int) (b_Id : Int) (b_Kind : Int) (b_Colours : List Int) (b_SizeLow : Int) (b_SizeHigh : Int) (b_Places : List Int) (b_Span_From : Int) (b_Span_Until : Int) : c50.fn [.agg [.lit (.int .i64 a_Id), .lit (.int .i64 a_Kind), .sl false 1 (.lit (.int .i64 0)) (ML dI a_Colours), .lit (.int .i64 a_SizeLow), .lit (.int .i64 a_SizeHigh), .sl false 1 (.lit (.int .i64 0)) (ML dI a_Places), .lit (.int .i64 a_Span_From), .lit (.int .i64 a_Span_Until)], .agg [.lit (.int .i64 b_Id), .lit (.int .i64 b_Kind), .sl false 1 (.lit (.int .i64 0)) (ML dI b_Colours), .lit (.int .i64 b_SizeLow), .lit (.int .i64 b_SizeHigh), .sl false 1 (.lit (.int .i64 0)) (ML dI b_Places), .lit (.int .i64 b_Span_From), .lit (.int .i64 b_Span_Until)]] [] = some ((fun (a : TReport) (b : TReport) => smR a ∧ smR b) ⟨a_Id, a_Kind, a_Colours, a_SizeLow, a_SizeHigh, a_Places, ⟨a_Span_From, a_Span_Until⟩⟩ ⟨b_Id, b_Kind, b_Colours, b_SizeLow, b_SizeHigh, b_Places, ⟨b_Span_From, b_Span_Until⟩⟩, (fun (a : TReport) (b : TReport) => (.tup [.fn (.func 56) [] [.el (encLI (bothL a.Places b.Places))], dB (bothK a.Places b.Places)] : D)) ⟨a_Id, a_Kind, a_Colours, a_SizeLow, a_SizeHigh, a_Places, ⟨a_Span_From, a_Span_Until⟩⟩ ⟨b_Id, b_Kind, b_Colours, b_SizeLow, b_SizeHigh, b_Places, ⟨b_Span_From, b_Span_Until⟩⟩, (fun (a : TReport) (b : TReport) => []) ⟨a_Id, a_Kind, a_Colours, a_SizeLow, a_SizeHigh, a_Places, ⟨a_Span_From, a_Span_Until⟩⟩ ⟨b_Id, b_Kind, b_Colours, b_SizeLow, b_SizeHigh, b_Places, ⟨b_Span_From, b_Span_Until⟩⟩) :=
  mkCon_fn (fun x y h _ => c50_inj x y h) ((⟨a_Id, a_Kind, a_Colours, a_SizeLow, a_SizeHigh, a_Places, ⟨a_Span_From, a_Span_Until⟩⟩, ⟨b_Id, b_Kind, b_Colours, b_SizeLow, b_SizeHigh, b_Places, ⟨b_Span_From, b_Span_Until⟩⟩) : TReport × TReport) (by simp [nz, nz1, ML_nil, encLI, encTReport, encTSpan]) rfl
theorem c50_pc (a : TReport) (b : TReport) (hpre : smR a ∧ smR b) : PCo Try.prog 50 [encTReport a, encTReport b] (Tab.of []) (.tup [.fn (.func 56) [] [.el (encLI (bothL a.Places b.Places))], dB (bothK a.Places b.Places)]) (Tab.of []) := by
  refine pco_of_run [1] (E := ⟨[c47, c57, c58], [], []⟩) (m := false) (base := 0) (Env.ok_cons c47_ok (Env.ok_cons c57_ok (Env.ok_cons c58_ok Env.ok_nil))) G_ok mix 300 6 Try.func50 (by kernel_rfl) rfl (by kernel_rfl) (by kernel_rfl) rfl ?_
  simp at hpre
  have w1 := bothO_chOf a.Places b.Places
  have w2 := bothS_chOf a.Places b.Places
  obtain h1 | h1 := chOf_or a.Places
  all_goals obtain h2 | h2 := chOf_or b.Places
  all_goals rw [h1, h2] at w1 w2
  all_goals simp [Try.f50, hpre, h1, h2, tyO_none, inO_none, tyO_some, inO_some, w1, w2]
theorem c50_ok : c50.ok Try.prog := mkCon_ok fun ⟨a, b⟩ hpre => c50_pc a b hpre
/-- loop.example/g03007/impl.sharpenSizes -/
noncomputable def c49 : Con := mkCon 49 false (α := TReport × TReport) (fun x => (fun (a : TReport) (b : TReport) => [encTReport a, encTReport b]) x.1 x.2) (fun _ => []) (fun x => (fun (a : TReport) (b : TReport) => True) x.1 x.2) (fun x => (fun (a : TReport) (b : TReport) => (.tup [.fn (.func 66) [] [.el (dI (max a.SizeLow b.SizeLow)), .el (dI (min a.SizeHigh b.SizeHigh))], dB (decide (max a.SizeLow b.SizeLow ≤ min a.SizeHigh b.SizeHigh))] : D)) x.1 x.2) (fun x => (fun (a : TReport) (b : TReport) => []) x.1 x.2)
@[simp] theorem c49_f : c49.f = 49 := rfl
@[simp] theorem c49_own : c49.own = false := rfl
theorem c49_inj : ∀ u_ v_ : TReport × TReport, ((fun x => (fun (a : TReport) (b : TReport) => [encTReport a, encTReport b]) x.1 x.2) u_).map nz = ((fun x => (fun (a : TReport) (b : TReport) => [encTReport a, encTReport b]) x.1 x.2) v_).map nz → u_ = v_ := by
  intro u_ v_ h
  obtain ⟨⟨a_Id, a_Kind, a_Colours, a_SizeLow, a_SizeHigh, a_Places, ⟨a_Span_From, a_Span_Until⟩⟩, ⟨b_Id, b_Kind, b_Colours, b_SizeLow, b_SizeHigh, b_Places, ⟨b_Span_From, b_Span_Until⟩⟩⟩ := u_
  obtain ⟨⟨a_Id', a_Kind', a_Colours', a_SizeLow', a_SizeHigh', a_Places', ⟨a_Span_From', a_Span_Until'⟩⟩, ⟨b_Id', b_Kind', b_Colours', b_SizeLow', b_SizeHigh', b_Places', ⟨b_Span_From', b_Span_Until'⟩⟩⟩ := v_
  simp [nz_lit, nz1_lit, nz_agg, nz_sl, nz1_sl, encLI, encTReport, encTSpan] at h
  first | (simp [h]; done) | (obtain ⟨⟩ := h; simp_all; done) | simp_all
@[simp] theorem c49_fn (a_Id : Int) (a_Kind : Int) (a_Colours : List Int) (a_SizeLow : Int) (a_SizeHigh : Int) (a_Places : List Int) (a_Span_From : Int) (a_Span_Until : Int) (b_Id : Int) (b_Kind : Int) (b_Colours : List Int) (b_SizeLow : Int) (b_SizeHigh : Int) (b_Places : List Int) (b_Span_From : Int) (b_Span_Until : Int) : c49.fn [.agg [.lit (.int .i64 a_Id), .lit (.int .i64 a_Kind), .sl false 1 (.lit (.int .i64 0)) (ML dI a_Colours), .lit (.int .i64 a_SizeLow), .lit (.int .i64 a_SizeHigh), .sl false 1 (.lit (.int .i64 0)) (ML dI a_Places), .lit (.int .i64 a_Span_From), .lit (.int .i64 a_Span_Until)], .agg [.lit (.int .i64 b_Id), .lit (.int .i64 b_Kind), .sl false 1 (.lit (.int .i64 0)) (ML dI b_Colours), .lit (.int .i64 b_SizeLow), .lit (.int .i64 b_SizeHigh), .sl false 1 (.lit (.int .i64 0)) (ML dI b_Places), .lit (.int .i64 b_Span_From), .lit (.int .i64 b_Span_Until)]] [] = some ((fun (a : TReport) (b : TReport) => True) ⟨a_Id, a_Kind, a_Colours, a_SizeLow, a_SizeHigh, a_Places, ⟨a_Span_From, a_Span_Until⟩⟩ ⟨b_Id, b_Kind, b_Colours, b_SizeLow, b_SizeHigh, b_Places, ⟨b_Span_From, b_Span_Until⟩⟩, (fun (a : TReport) (b : TReport) => (.tup [.fn (.func 66) [] [.el (dI (max a.SizeLow b.SizeLow)), .el (dI (min a.SizeHigh b.SizeHigh))], dB (decide (max a.SizeLow b.SizeLow ≤ min a.SizeHigh b.SizeHigh))] : D)) ⟨a_Id, a_Kind, a_Colours, a_SizeLow, a_SizeHigh, a_Places, ⟨a_Span_From, a_Span_Until⟩⟩ ⟨b_Id, b_Kind, b_Colours, b_SizeLow, b_SizeHigh, b_Places, ⟨b_Span_From, b_Span_Until⟩⟩, (fun (a : TReport) (b : TReport) => []) ⟨a_Id, a_Kind, a_Colours, a_SizeLow, a_SizeHigh, a_Places, ⟨a_Span_From, a_Span_Until⟩⟩ ⟨b_Id, b_Kind, b_Colours, b_SizeLow, b_SizeHigh, b_Places, ⟨b_Span_From, b_Span_Until⟩⟩) :=
  mkCon_fn (fun x y h _ => c49_inj x y h) ((⟨a_Id, a_Kind, a_Colours, a_SizeLow, a_SizeHigh, a_Places, ⟨a_Span_From, a_Span_Until⟩⟩, ⟨b_Id, b_Kind, b_Colours, b_SizeLow, b_SizeHigh, b_Places, ⟨b_Span_From, b_Span_Until⟩⟩) : TReport × TReport) (by simp [nz, nz1, ML_nil, encLI, encTReport, encTSpan]) rfl
theorem c49_pc (a : TReport) (b : TReport) : PCo Try.prog 49 [encTReport a, encTReport b] (Tab.of []) (.tup [.fn (.func 66) [] [.el (dI (max a.SizeLow b.SizeLow)), .el (dI (min a.SizeHigh b.SizeHigh))], dB (decide (max a.SizeLow b.SizeLow ≤ min a.SizeHigh b.SizeHigh))]) (Tab.of []) := by
  refine pco_of_run [1] (E := ⟨[c59, c60, c61], [], []⟩) (m := false) (base := 0) (Env.ok_cons c59_ok (Env.ok_cons c60_ok (Env.ok_cons c61_ok Env.ok_nil))) G_ok mix 300 6 Try.func49 (by kernel_rfl) rfl (by kernel_rfl) (by kernel_rfl) rfl ?_
  simp [Try.f49]
  all_goals first | done | rfl
theorem c49_ok : c49.ok Try.prog := mkCon_ok fun ⟨a, b⟩ hpre => c49_pc a b
/-- loop.example/g03007/impl.sharpenSpan -/
noncomputable def c51 : Con := mkCon 51 false (α := TReport × TReport) (fun x => (fun (a : TReport) (b : TReport) => [encTReport a, encTReport b]) x.1 x.2) (fun _ => []) (fun x => (fun (a : TReport) (b : TReport) => True) x.1 x.2) (fun x => (fun (a : TReport) (b : TReport) => (.tup [.fn (.func 67) [] [.el (encTSpan ⟨max a.Span.From b.Span.From, max (max a.Span.From b.Span.From) (min a.Span.Until b.Span.Until)⟩)], dB true] : D)) x.1 x.2) (fun x => (fun (a : TReport) (b : TReport) => []) x.1 x.2)
@[simp] theorem c51_f : c51.f = 51 := rfl
@[simp] theorem c51_own : c51.own = false := rfl
theorem c51_inj : ∀ u_ v_ : TReport × TReport, ((fun x => (fun (a : TReport) (b : TReport) => [encTReport a, encTReport b]) x.1 x.2) u_).map nz = ((fun x => (fun (a : TReport) (b : TReport) => [encTReport a, encTReport b]) x.1 x.2) v_).map nz → u_ = v_ := by
  intro u_ v_ h
  obtain ⟨⟨a_Id, a_Kind, a_Colours, a_SizeLow, a_SizeHigh, a_Places, ⟨a_Span_From, a_Span_Until⟩⟩, ⟨b_Id, b_Kind, b_Colours, b_SizeLow, b_SizeHigh, b_Places, ⟨b_Span_From, b_Span_Until⟩⟩⟩ := u_
  obtain ⟨⟨a_Id', a_Kind', a_Colours', a_SizeLow', a_SizeHigh', a_Places', ⟨a_Span_From', a_Span_Until'⟩⟩, ⟨b_Id', b_Kind', b_Colours', b_SizeLow', b_SizeHigh', b_Places', ⟨b_Span_From', b_Span_Until'⟩⟩⟩ := v_
  simp [nz_lit, nz1_lit, nz_agg, nz_sl, nz1_sl, encLI, encTReport, encTSpan] at h
  first | (simp [h]; done) | (obtain ⟨⟩ := h; simp_all; done) | simp_all
@[simp] theorem c51_fn (a_Id : Int) (a_Kind : Int) (a_Colours : List Int) (a_SizeLow : Int) (a_SizeHigh : Int) (a_Places : List Int) (a_Span_From : Int) (a_Span_Until : Int) (b_Id : Int) (b_Kind : Int) (b_Colours : List Int) (b_SizeLow : Int) (b_SizeHigh : Int) (b_Places : List Int) (b_Span_From : Int) (b_Span_Until : Int) : c51.fn [.agg [.lit (.int .i64 a_Id), .lit (.int .i64 a_Kind), .sl false 1 (.lit (.int .i64 0)) (ML dI a_Colours), .lit (.int .i64 a_SizeLow), .lit (.int .i64 a_SizeHigh), .sl false 1 (.lit (.int .i64 0)) (ML dI a_Places), .lit (.int .i64 a_Span_From), .lit (.int .i64 a_Span_Until)], .agg [.lit (.int .i64 b_Id), .lit (.int .i64 b_Kind), .sl false 1 (.lit (.int .i64 0)) (ML dI b_Colours), .lit (.int .i64 b_SizeLow), .lit (.int .i64 b_SizeHigh), .sl false 1 (.lit (.int .i64 0)) (ML dI b_Places), .lit (.int .i64 b_Span_From), .lit (.int .i64 b_Span_Until)]] [] = some ((fun (a : TReport) (b : TReport) => True) ⟨a_Id, a_Kind, a_Colours, a_SizeLow, a_SizeHigh, a_Places, ⟨a_Span_From, a_Span_Until⟩⟩ ⟨b_Id, b_Kind, b_Colours, b_SizeLow, b_SizeHigh, b_Places, ⟨b_Span_From, b_Span_Until⟩⟩, (fun (a : TReport) (b : TReport) => (.tup [.fn (.func 67) [] [.el (encTSpan ⟨max a.Span.From b.Span.From, max (max a.Span.From b.Span.From) (min a.Span.Until b.Span.Until)⟩)], dB true] : D)) ⟨a_Id, a_Kind, a_Colours, a_SizeLow, a_SizeHigh, a_Places, ⟨a_Span_From, a_Span_Until⟩⟩ ⟨b_Id, b_Kind, b_Colours, b_SizeLow, b_SizeHigh, b_Places, ⟨b_Span_From, b_Span_Until⟩⟩, (fun (a : TReport) (b : TReport) => []) ⟨a_Id, a_Kind, a_Colours, a_SizeLow, a_SizeHigh, a_Places, ⟨a_Span_From, a_Span_Until⟩⟩ ⟨b_Id, b_Kind, b_Colours, b_SizeLow, b_SizeHigh, b_Places, ⟨b_Span_From, b_Span_Until⟩⟩) :=
  mkCon_fn (fun x y h _ => c51_inj x y h) ((⟨a_Id, a_Kind, a_Colours, a_SizeLow, a_SizeHigh, a_Places, ⟨a_Span_From, a_Span_Until⟩⟩, ⟨b_Id, b_Kind, b_Colours, b_SizeLow, b_SizeHigh, b_Places, ⟨b_Span_From, b_Span_Until⟩⟩) : TReport × TReport) (by simp [nz, nz1, ML_nil, encLI, encTReport, encTSpan]) rfl
theorem c51_pc (a : TReport) (b : TReport) : PCo Try.prog 51 [encTReport a, encTReport b] (Tab.of []) (.tup [.fn (.func 67) [] [.el (encTSpan ⟨max a.Span.From b.Span.From, max (max a.Span.From b.Span.From) (min a.Span.Until b.Span.Until)⟩)], dB true]) (Tab.of []) := by
  refine pco_of_run [] (E := ⟨[c59, c60, c62], [], []⟩) (m := false) (base := 0) (Env.ok_cons c59_ok (Env.ok_cons c60_ok (Env.ok_cons c62_ok Env.ok_nil))) G_ok mix 300 6 Try.func51 (by kernel_rfl) rfl (by kernel_rfl) (by kernel_rfl) rfl ?_
  simp [Try.f51]
  all_goals first | done | rfl
theorem c51_ok : c51.ok Try.prog := mkCon_ok fun ⟨a, b⟩ hpre => c51_pc a b
/-- loop.example/g03007/impl.sharpenerOf -/
noncomputable def c36 : Con := mkCon 36 false (α := Int) (fun x => (fun (k : Int) => [(fun n => .lit (.int .i32 n)) k]) x) (fun _ => []) (fun x => (fun (k : Int) => True) x) (fun x => (fun (k : Int) => (if k = 99 then .fn (.func 48) [] [] else if k = 115 then .fn (.func 49) [] [] else if k = 112 then .fn (.func 50) [] [] else .fn (.func 51) [] [] : D)) x) (fun x => (fun (k : Int) => []) x)
@[simp] theorem c36_f : c36.f = 36 := rfl
@[simp] theorem c36_own : c36.own = false := rfl
theorem c36_inj : ∀ u_ v_ : Int, ((fun x => (fun (k : Int) => [(fun n => .lit (.int .i32 n)) k]) x) u_).map nz = ((fun x => (fun (k : Int) => [(fun n => .lit (.int .i32 n)) k]) x) v_).map nz → u_ = v_ := by
  intro u_ v_ h
  obtain k := u_
  obtain k' := v_
  simp [nz_lit, nz1_lit, nz_agg, nz_sl, nz1_sl] at h
  first | (simp [h]; done) | (obtain ⟨⟩ := h; simp_all; done) | simp_all
@[simp] theorem c36_fn (k : Int) : c36.fn [.lit (.int .i32 k)] [] = some ((fun (k : Int) => True) k, (fun (k : Int) => (if k = 99 then .fn (.func 48) [] [] else if k = 115 then .fn (.func 49) [] [] else if k = 112 then .fn (.func 50) [] [] else .fn (.func 51) [] [] : D)) k, (fun (k : Int) => []) k) :=
  mkCon_fn (fun x y h _ => c36_inj x y h) (k : Int) (by simp [nz, nz1, ML_nil]) rfl
theorem c36_pc (k : Int) : PCo Try.prog 36 [(fun n => .lit (.int .i32 n)) k] (Tab.of []) (if k = 99 then .fn (.func 48) [] [] else if k = 115 then .fn (.func 49) [] [] else if k = 112 then .fn (.func 50) [] [] else .fn (.func 51) [] []) (Tab.of []) := by
  refine pco_of_run [] (E := ⟨[c48, c49, c50, c51], [], []⟩) (m := false) (base := 0) (Env.ok_cons c48_ok (Env.ok_cons c49_ok (Env.ok_cons c50_ok (Env.ok_cons c51_ok Env.ok_nil)))) G_ok mix 300 6 Try.func36 (by kernel_rfl) rfl (by kernel_rfl) (by kernel_rfl) rfl ?_
  by_cases h1 : k = 99
  · simp [Try.f36, h1]
  · by_cases h2 : k = 115
    · simp [Try.f36, h2]
    · by_cases h3 : k = 112
      · simp [Try.f36, h3]
      · simp [Try.f36, h1, h2, h3]
theorem c36_ok : c36.ok Try.prog := mkCon_ok fun k hpre => c36_pc k

end Go.Proofs.Ytelhilcdlfjafaa
