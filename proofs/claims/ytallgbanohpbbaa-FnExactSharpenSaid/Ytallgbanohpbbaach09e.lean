/- Contracts of the functions that the laws run. -/
import Derived.Test.Ytallgbanohpbbaach09c
import Derived.Test.Ytallgbanohpbbaach07p
import Derived.Test.YtallgbanohpbbaaEngB
namespace Go.Proofs.Ytallgbanohpbbaa
open Go Go.Eng
set_option linter.unusedSimpArgs false
set_option linter.unusedVariables false
set_option maxRecDepth 10000
set_option maxHeartbeats 1000000
theorem ascW_mono {hi : Int} : ∀ {l : List Int} {lo lo' : Int}, lo ≤ lo' → ascW hi lo' l = true → ascW hi lo l = true
  | [], _, _, _, _ => rfl
  | x :: r, lo, lo', h, ha => by
    simp only [ascW, Bool.and_eq_true] at ha ⊢
    exact ⟨mIn_iff.2 (by have := mIn_iff.1 ha.1; omega), ha.2⟩
theorem ascW_filter {hi : Int} {w : Int → Bool} : ∀ {l : List Int} {lo : Int}, ascW hi lo l = true → ascW hi lo (l.filter w) = true
  | [], _, _ => rfl
  | x :: r, lo, ha => by
    simp only [ascW, Bool.and_eq_true] at ha
    have h1 := mIn_iff.1 ha.1
    have ih := ascW_filter (w := w) ha.2
    by_cases hw : w x = true
    · rw [List.filter_cons_of_pos hw]
      simp only [ascW, Bool.and_eq_true]
      exact ⟨ha.1, ih⟩
    · rw [List.filter_cons_of_neg hw]
      exact ascW_mono (by omega) ih
def bothL (a b : List Int) : List Int := if a = [] then b else if b = [] then a else pick (fun n => decide (n ∈ b)) (fun n => n) a
def bothK (a b : List Int) : Bool := decide (a = []) || decide (b = []) || decide (0 < (pick (fun n => decide (n ∈ b)) (fun n => n) a).length)
theorem pick_all {l : List Int} {w : Int → Bool} (h : ∀ n ∈ l, w n = true) : pick w (fun n => n) l = l := by
  simp only [pick, List.map_id']
  exact List.filter_eq_self.2 h
theorem bothO_chOf (a b : List Int) : bothO (chOf a) (chOf b) = bothL a b := by
  by_cases ha : a = [] <;> by_cases hb : b = []
  · simp [chOf, ha, hb, bothO, bothL]
  · simp only [chOf, ha, hb, bothO, bothL, if_true, if_false, bothF]
    exact pick_all fun n hn => by simp [hasC_some, hn]
  · simp only [chOf, ha, hb, bothO, bothL, if_true, if_false, bothF]
    exact pick_all fun n hn => by simp [hasC_some, hn]
  · simp only [chOf, ha, hb, bothO, bothL, if_false, bothF]
    simp only [pick, List.map_id']
    refine List.filter_congr fun n hn => ?_
    simp [hasC_some, hn]
theorem bothS_chOf (a b : List Int) : bothS (chOf a) (chOf b) = bothK a b := by
  have h := bothO_chOf a b
  by_cases ha : a = [] <;> by_cases hb : b = []
  · simp [chOf, ha, hb, bothS, bothK]
  · have e : bothS (chOf a) (chOf b) = decide (0 < (bothO (chOf a) (chOf b)).length) := by simp [chOf, ha, hb, bothS]
    rw [e, h]
    simp [bothL, bothK, ha]; exact List.length_pos_iff.2 hb
  · have e : bothS (chOf a) (chOf b) = decide (0 < (bothO (chOf a) (chOf b)).length) := by simp [chOf, ha, hb, bothS]
    rw [e, h]
    simp [bothL, bothK, ha, hb]; exact List.length_pos_iff.2 ha
  · have e : bothS (chOf a) (chOf b) = decide (0 < (bothO (chOf a) (chOf b)).length) := by simp [chOf, ha, hb, bothS]
    rw [e, h]
    simp [bothL, bothK, ha, hb]
theorem bothL_len (a b : List Int) : (bothL a b).length ≤ a.length + b.length := by
  simp only [bothL]
  split
  · omega
  · split
    · omega
    · have := pick_len (want := fun n => decide (n ∈ b)) (f := fun n : Int => n) a; omega
theorem bothL_cap {a b : List Int} {n : Nat} (ha : a.length ≤ n) (hb : b.length ≤ n) : (bothL a b).length ≤ n := by
  simp only [bothL]
  split
  · exact hb
  · split
    · exact ha
    · have := pick_len (want := fun n => decide (n ∈ b)) (f := fun n : Int => n) a; omega
theorem bothL_asc {hi lo : Int} {a b : List Int} (ha : ascW hi lo a = true) (hb : ascW hi lo b = true) : ascW hi lo (bothL a b) = true := by
  simp only [bothL]
  split
  · exact hb
  · split
    · exact ha
    · simp only [pick, List.map_id']; exact ascW_filter ha
/-- loop.example/g03007/spec.l9Both -/
noncomputable def c43 : Con := mkCon 43 false (α := (List Int) × (List Int)) (fun x => (fun (a : List Int) (b : List Int) => [encLI a, encLI b]) x.1 x.2) (fun _ => []) (fun x => (fun (a : List Int) (b : List Int) => a.length ≤ 1073741824 ∧ b.length ≤ 1073741824) x.1 x.2) (fun x => (fun (a : List Int) (b : List Int) => (.tup [.own (0, 1) 1 0 (bothL a b).length, dB (bothK a b)] : D)) x.1 x.2) (fun x => (fun (a : List Int) (b : List Int) => [((0, 1), .arr false 1 (dI 0) (ML dI (bothL a b)))]) x.1 x.2)
@[simp] theorem c43_f : c43.f = 43 := rfl
@[simp] theorem c43_own : c43.own = false := rfl
theorem c43_inj : ∀ u_ v_ : (List Int) × (List Int), ((fun x => (fun (a : List Int) (b : List Int) => [encLI a, encLI b]) x.1 x.2) u_).map nz = ((fun x => (fun (a : List Int) (b : List Int) => [encLI a, encLI b]) x.1 x.2) v_).map nz → u_ = v_ := by
  intro u_ v_ h
  obtain ⟨a, b⟩ := u_
  obtain ⟨a', b'⟩ := v_
  simp [nz_lit, nz1_lit, nz_agg, nz_sl, nz1_sl, encLI] at h
  first | (simp [h]; done) | (obtain ⟨⟩ := h; simp_all; done) | simp_all
@[simp] theorem c43_fn (a : List Int) (b : List Int) : c43.fn [.sl false 1 (.lit (.int .i64 0)) (ML dI a), .sl false 1 (.lit (.int .i64 0)) (ML dI b)] [] = some ((fun (a : List Int) (b : List Int) => a.length ≤ 1073741824 ∧ b.length ≤ 1073741824) a b, (fun (a : List Int) (b : List Int) => (.tup [.own (0, 1) 1 0 (bothL a b).length, dB (bothK a b)] : D)) a b, (fun (a : List Int) (b : List Int) => [((0, 1), .arr false 1 (dI 0) (ML dI (bothL a b)))]) a b) :=
  mkCon_fn (fun x y h _ => c43_inj x y h) ((a, b) : (List Int) × (List Int)) (by simp [nz, nz1, ML_nil, encLI]) rfl
@[simp] theorem c43_fn1 (s_a : Nat) (z_a : D) (b : List Int) : c43.fn [.sl false s_a z_a [], .sl false 1 (.lit (.int .i64 0)) (ML dI b)] [] = some ((fun (a : List Int) (b : List Int) => a.length ≤ 1073741824 ∧ b.length ≤ 1073741824) [] b, (fun (a : List Int) (b : List Int) => (.tup [.own (0, 1) 1 0 (bothL a b).length, dB (bothK a b)] : D)) [] b, (fun (a : List Int) (b : List Int) => [((0, 1), .arr false 1 (dI 0) (ML dI (bothL a b)))]) [] b) :=
  mkCon_fn (fun x y h _ => c43_inj x y h) (([], b) : (List Int) × (List Int)) (by simp [nz, nz1, ML_nil, encLI]) rfl
@[simp] theorem c43_fn2 (a : List Int) (s_b : Nat) (z_b : D) : c43.fn [.sl false 1 (.lit (.int .i64 0)) (ML dI a), .sl false s_b z_b []] [] = some ((fun (a : List Int) (b : List Int) => a.length ≤ 1073741824 ∧ b.length ≤ 1073741824) a [], (fun (a : List Int) (b : List Int) => (.tup [.own (0, 1) 1 0 (bothL a b).length, dB (bothK a b)] : D)) a [], (fun (a : List Int) (b : List Int) => [((0, 1), .arr false 1 (dI 0) (ML dI (bothL a b)))]) a []) :=
  mkCon_fn (fun x y h _ => c43_inj x y h) ((a, []) : (List Int) × (List Int)) (by simp [nz, nz1, ML_nil, encLI]) rfl
@[simp] theorem c43_fn3 (s_a : Nat) (z_a : D) (s_b : Nat) (z_b : D) : c43.fn [.sl false s_a z_a [], .sl false s_b z_b []] [] = some ((fun (a : List Int) (b : List Int) => a.length ≤ 1073741824 ∧ b.length ≤ 1073741824) [] [], (fun (a : List Int) (b : List Int) => (.tup [.own (0, 1) 1 0 (bothL a b).length, dB (bothK a b)] : D)) [] [], (fun (a : List Int) (b : List Int) => [((0, 1), .arr false 1 (dI 0) (ML dI (bothL a b)))]) [] []) :=
  mkCon_fn (fun x y h _ => c43_inj x y h) (([], []) : (List Int) × (List Int)) (by simp [nz, nz1, ML_nil, encLI]) rfl
theorem c43_pc (a : List Int) (b : List Int) (hpre : a.length ≤ 1073741824 ∧ b.length ≤ 1073741824) : PCo Try.prog 43 [encLI a, encLI b] (Tab.of []) (.tup [.own (0, 1) 1 0 (bothL a b).length, dB (bothK a b)]) (Tab.of [((0, 1), .arr false 1 (dI 0) (ML dI (bothL a b)))]) := by
  refine pco_of_run [] (E := ⟨[c65], [], []⟩) (m := false) (base := 0) (Env.ok_cons c65_ok Env.ok_nil) G_ok mix 300 6 Try.func43 (by kernel_rfl) rfl (by kernel_rfl) (by kernel_rfl) rfl ?_
  obtain ⟨hp1, hp2⟩ := hpre
  by_cases ha : a = []
  · subst ha
    simp [Try.f43, bothL, bothK]
    first | done | omega
  · by_cases hb : b = []
    · subst hb
      simp [Try.f43, bothL, bothK, ha]
      first | done | omega
    · simp [Try.f43, bothL, bothK, ha, hb]
      refine loop_inv (fun p : Nat => p ≤ a.length) (fun p => [(0, encLI a), (1, encLI b), (6, .own (0, 1) 1 0 (pick (fun n => decide (n ∈ b)) (fun n => n) (a.take p)).length), (7, dI p)]) (fun p => [((0, 1), .arr false 1 (dI 0) (ML dI (pick (fun n => decide (n ∈ b)) (fun n => n) (a.take p))))]) 2 (fun p => a.length - p) 0 400 (by simp) (by simp) (by simp) ?_
      intro p hp
      simp
      refine ⟨fun hlt => ?_, fun hge => ?_⟩
      · have hs := pick_at (want := fun n => decide (n ∈ b)) (f := fun n => n) (d := 0) hlt
        have hk := pick_take_len (want := fun n => decide (n ∈ b)) (f := fun n : Int => n) a p
        have hsT : a[p]?.getD 0 ∈ b → pick (fun n => decide (n ∈ b)) (fun n => n) (a.take (p + 1)) = pick (fun n => decide (n ∈ b)) (fun n => n) (a.take p) ++ [a[p]?.getD 0] := fun h => by rw [hs, if_pos (by simp [h])]
        have hsF : ¬ a[p]?.getD 0 ∈ b → pick (fun n => decide (n ∈ b)) (fun n => n) (a.take (p + 1)) = pick (fun n => decide (n ∈ b)) (fun n => n) (a.take p) := fun h => by rw [hs, if_neg (by simp [h]), List.append_nil]
        repeat' (first | omega | refine And.intro ?_ ?_ | intro _)
        all_goals first | (have hw := hsT (by assumption); exact Again.mk (p + 1) (by omega) (by simp [hw]) (by first | omega | (simp; omega))) | (have hw := hsF (by assumption); exact Again.mk (p + 1) (by omega) (by simp [hw]) (by first | omega | (simp; omega))) | trace_state
      · rw [List.take_of_length_le hge]; simp; first | done | exact decide_eq_decide.2 Iff.rfl
theorem c43_ok : c43.ok Try.prog := mkCon_ok fun ⟨a, b⟩ hpre => c43_pc a b hpre
@[simp] theorem ib_EE : c79.fn [.iface 115 (.agg []), .iface 115 (.agg [])] [] = some (0 ≤ 1099511627776 ∧ 0 ≤ 1099511627776, .tup [.sl false 1 (.lit (.int .i64 0)) (ML dI (bothO none none)), dB (bothS none none)], []) := c79_fn none none
@[simp] theorem ib_EO {b : List Int} : c79.fn [.iface 115 (.agg []), .iface 112 (.sl false 1 (.lit (.int .i64 0)) (ML dI b))] [] = some (0 ≤ 1099511627776 ∧ b.length ≤ 1099511627776, .tup [.sl false 1 (.lit (.int .i64 0)) (ML dI (bothO none (some b))), dB (bothS none (some b))], []) := c79_fn none (some b)
@[simp] theorem ib_OE {a : List Int} : c79.fn [.iface 112 (.sl false 1 (.lit (.int .i64 0)) (ML dI a)), .iface 115 (.agg [])] [] = some (a.length ≤ 1099511627776 ∧ 0 ≤ 1099511627776, .tup [.sl false 1 (.lit (.int .i64 0)) (ML dI (bothO (some a) none)), dB (bothS (some a) none)], []) := c79_fn (some a) none
@[simp] theorem ib_OO {a : List Int} {b : List Int} : c79.fn [.iface 112 (.sl false 1 (.lit (.int .i64 0)) (ML dI a)), .iface 112 (.sl false 1 (.lit (.int .i64 0)) (ML dI b))] [] = some (a.length ≤ 1099511627776 ∧ b.length ≤ 1099511627776, .tup [.sl false 1 (.lit (.int .i64 0)) (ML dI (bothO (some a) (some b))), dB (bothS (some a) (some b))], []) := c79_fn (some a) (some b)
theorem chOf_or (l : List Int) : chOf l = none ∨ chOf l = some l := by
  by_cases h : l = []
  · exact Or.inl (by simp [chOf, h])
  · exact Or.inr (by simp [chOf, h])
/-- loop.example/g03007/impl.sharpenColours -/
noncomputable def c66 : Con := mkCon 66 false (α := TReport × TReport) (fun x => (fun (a : TReport) (b : TReport) => [encTReport a, encTReport b]) x.1 x.2) (fun _ => []) (fun x => (fun (a : TReport) (b : TReport) => smR a ∧ smR b) x.1 x.2) (fun x => (fun (a : TReport) (b : TReport) => (.tup [.fn (.func 53) [] [.el (encLI (bothL a.Colours b.Colours))], dB (bothK a.Colours b.Colours)] : D)) x.1 x.2) (fun x => (fun (a : TReport) (b : TReport) => []) x.1 x.2)
@[simp] theorem c66_f : c66.f = 66 := rfl
@[simp] theorem c66_own : c66.own = false := rfl
theorem c66_inj : ∀ u_ v_ : TReport × TReport, ((fun x => (fun (a : TReport) (b : TReport) => [encTReport a, encTReport b]) x.1 x.2) u_).map nz = ((fun x => (fun (a : TReport) (b : TReport) => [encTReport a, encTReport b]) x.1 x.2) v_).map nz → u_ = v_ := by
  intro u_ v_ h
  obtain ⟨⟨a_Id, a_Kind, a_Colours, a_SizeLow, a_SizeHigh, a_Places, ⟨a_Span_From, a_Span_Until⟩⟩, ⟨b_Id, b_Kind, b_Colours, b_SizeLow, b_SizeHigh, b_Places, ⟨b_Span_From, b_Span_Until⟩⟩⟩ := u_
  obtain ⟨⟨a_Id', a_Kind', a_Colours', a_SizeLow', a_SizeHigh', a_Places', ⟨a_Span_From', a_Span_Until'⟩⟩, ⟨b_Id', b_Kind', b_Colours', b_SizeLow', b_SizeHigh', b_Places', ⟨b_Span_From', b_Span_Until'⟩⟩⟩ := v_
  simp [nz_lit, nz1_lit, nz_agg, nz_sl, nz1_sl, encLI, encTReport, encTSpan] at h
  first | (simp [h]; done) | (obtain ⟨⟩ := h; simp_all; done) | simp_all
@[simp] theorem c66_fn (a_Id : Int) (a_Kind : Int) (a_Colours : List Int) (a_SizeLow : Int) (a_SizeHigh : Int) (a_Places : List Int) (a_Span_From : Int) (a_Span_Until : Int) (b_Id : Int) (b_Kind : Int) (b_Colours : List Int) (b_SizeLow : Int) (b_SizeHigh : Int) (b_Places : List Int) (b_Span_From : Int) (b_Span_Until : Int) : c66.fn [.agg [.lit (.int .i64 a_Id), .lit (.int .i64 a_Kind), .sl false 1 (.lit (.int .i64 0)) (ML dI a_Colours), .lit (.int .i64 a_SizeLow), .lit (.int .i64 a_SizeHigh), .sl false 1 (.lit (.int .i64 0)) (ML dI a_Places), .lit (.int .i64 a_Span_From), .lit (.int .i64 a_Span_Until)], .agg [.lit (.int .i64 b_Id), .lit (.int .i64 b_Kind), .sl false 1 (.lit (.int .i64 0)) (ML dI b_Colours), .lit (.int .i64 b_SizeLow), .lit (.int .i64 b_SizeHigh), .sl false 1 (.lit (.int .i64 0)) (ML dI b_Places), .lit (.int .i64 b_Span_From), .lit (.int .i64 b_Span_Until)]] [] = some ((fun (a : TReport) (b : TReport) => smR a ∧ smR b) ⟨a_Id, a_Kind, a_Colours, a_SizeLow, a_SizeHigh, a_Places, ⟨a_Span_From, a_Span_Until⟩⟩ ⟨b_Id, b_Kind, b_Colours, b_SizeLow, b_SizeHigh, b_Places, ⟨b_Span_From, b_Span_Until⟩⟩, (fun (a : TReport) (b : TReport) => (.tup [.fn (.func 53) [] [.el (encLI (bothL a.Colours b.Colours))], dB (bothK a.Colours b.Colours)] : D)) ⟨a_Id, a_Kind, a_Colours, a_SizeLow, a_SizeHigh, a_Places, ⟨a_Span_From, a_Span_Until⟩⟩ ⟨b_Id, b_Kind, b_Colours, b_SizeLow, b_SizeHigh, b_Places, ⟨b_Span_From, b_Span_Until⟩⟩, (fun (a : TReport) (b : TReport) => []) ⟨a_Id, a_Kind, a_Colours, a_SizeLow, a_SizeHigh, a_Places, ⟨a_Span_From, a_Span_Until⟩⟩ ⟨b_Id, b_Kind, b_Colours, b_SizeLow, b_SizeHigh, b_Places, ⟨b_Span_From, b_Span_Until⟩⟩) :=
  mkCon_fn (fun x y h _ => c66_inj x y h) ((⟨a_Id, a_Kind, a_Colours, a_SizeLow, a_SizeHigh, a_Places, ⟨a_Span_From, a_Span_Until⟩⟩, ⟨b_Id, b_Kind, b_Colours, b_SizeLow, b_SizeHigh, b_Places, ⟨b_Span_From, b_Span_Until⟩⟩) : TReport × TReport) (by simp [nz, nz1, ML_nil, encLI, encTReport, encTSpan]) rfl
theorem c66_pc (a : TReport) (b : TReport) (hpre : smR a ∧ smR b) : PCo Try.prog 66 [encTReport a, encTReport b] (Tab.of []) (.tup [.fn (.func 53) [] [.el (encLI (bothL a.Colours b.Colours))], dB (bothK a.Colours b.Colours)]) (Tab.of []) := by
  refine pco_of_run [1] (E := ⟨[c31, c79, c80], [], []⟩) (m := false) (base := 0) (Env.ok_cons c31_ok (Env.ok_cons c79_ok (Env.ok_cons c80_ok Env.ok_nil))) G_ok mix 300 6 Try.func66 (by kernel_rfl) rfl (by kernel_rfl) (by kernel_rfl) rfl ?_
  simp at hpre
  have w1 := bothO_chOf a.Colours b.Colours
  have w2 := bothS_chOf a.Colours b.Colours
  obtain h1 | h1 := chOf_or a.Colours
  all_goals obtain h2 | h2 := chOf_or b.Colours
  all_goals rw [h1, h2] at w1 w2
  all_goals simp [Try.f66, hpre, h1, h2, tyO_none, inO_none, tyO_some, inO_some, w1, w2]
theorem c66_ok : c66.ok Try.prog := mkCon_ok fun ⟨a, b⟩ hpre => c66_pc a b hpre
/-- loop.example/g03007/impl.sharpenPlaces -/
noncomputable def c68 : Con := mkCon 68 false (α := TReport × TReport) (fun x => (fun (a : TReport) (b : TReport) => [encTReport a, encTReport b]) x.1 x.2) (fun _ => []) (fun x => (fun (a : TReport) (b : TReport) => smR a ∧ smR b) x.1 x.2) (fun x => (fun (a : TReport) (b : TReport) => (.tup [.fn (.func 62) [] [.el (encLI (bothL a.Places b.Places))], dB (bothK a.Places b.Places)] : D)) x.1 x.2) (fun x => (fun (a : TReport) (b : TReport) => []) x.1 x.2)
@[simp] theorem c68_f : c68.f = 68 := rfl
@[simp] theorem c68_own : c68.own = false := rfl
theorem c68_inj : ∀ u_ v_ : TReport × TReport, ((fun x => (fun (a : TReport) (b : TReport) => [encTReport a, encTReport b]) x.1 x.2) u_).map nz = ((fun x => (fun (a : TReport) (b : TReport) => [encTReport a, encTReport b]) x.1 x.2) v_).map nz → u_ = v_ := by
  intro u_ v_ h
  obtain ⟨⟨a_Id, a_Kind, a_Colours, a_SizeLow, a_SizeHigh, a_Places, ⟨a_Span_From, a_Span_Until⟩⟩, ⟨b_Id, b_Kind, b_Colours, b_SizeLow, b_SizeHigh, b_Places, ⟨b_Span_From, b_Span_Until⟩⟩⟩ := u_
  obtain ⟨⟨a_Id', a_Kind', a_Colours', a_SizeLow', a_SizeHigh', a_Places', ⟨a_Span_From', a_Span_Until'⟩⟩, ⟨b_Id', b_Kind', b_Colours', b_SizeLow', b_SizeHigh', b_Places', ⟨b_Span_From', b_Span_Until'⟩⟩⟩ := v_
  simp [nz_lit, nz1_lit, nz_agg, nz_sl, nz1_sl, encLI, encTReport, encTSpan] at h
  first | (simp [h]; done) | (obtain ⟨⟩ := h; simp_all; done) | simp_all
@[simp] theorem c68_fn (a_Id : Int) (a_Kind : Int) (a_Colours : List Int) (a_SizeLow : Int) (a_SizeHigh : Int) (a_Places : List Int) (a_Span_From : Int) (a_Span_Until : Int) (b_Id : Int) (b_Kind : Int) (b_Colours : List Int) (b_SizeLow : Int) (b_SizeHigh : Int) (b_Places : List Int) (b_Span_From : Int) (b_Span_Until : Int) : c68.fn [.agg [.lit (.int .i64 a_Id), .lit (.int .i64 a_Kind), .sl false 1 (.lit (.int .i64 0)) (ML dI a_Colours), .lit (.int .i64 a_SizeLow), .lit (.int .i64 a_SizeHigh), .sl false 1 (.lit (.int .i64 0)) (ML dI a_Places), .lit (.int .i64 a_Span_From), .lit (.int .i64 a_Span_Until)], .agg [.lit (.int .i64 b_Id), .lit (.int .i64 b_Kind), .sl false 1 (.lit (.int .i64 0)) (ML dI b_Colours), .lit (.int .i64 b_SizeLow), .lit (.int .i64 b_SizeHigh), .sl false 1 (.lit (.int .i64 0)) (ML dI b_Places), .lit (.int .i64 b_Span_From), .lit (.int .i64 b_Span_Until)]] [] = some ((fun (a : TReport) (b : TReport) => smR a ∧ smR b) ⟨a_Id, a_Kind, a_Colours, a_SizeLow, a_SizeHigh, a_Places, ⟨a_Span_From, a_Span_Until⟩⟩ ⟨b_Id, b_Kind, b_Colours, b_SizeLow, b_SizeHigh, b_Places, ⟨b_Span_From, b_Span_Until⟩⟩, (fun (a : TReport) (b : TReport) => (.tup [.fn (.func 62) [] [.el (encLI (bothL a.Places b.Places))], dB (bothK a.Places b.Places)] : D)) ⟨a_Id, a_Kind, a_Colours, a_SizeLow, a_SizeHigh, a_Places, ⟨a_Span_From, a_Span_Until⟩⟩ ⟨b_Id, b_Kind, b_Colours, b_SizeLow, b_SizeHigh, b_Places, ⟨b_Span_From, b_Span_Until⟩⟩, (fun (a : TReport) (b : TReport) => []) ⟨a_Id, a_Kind, a_Colours, a_SizeLow, a_SizeHigh, a_Places, ⟨a_Span_From, a_Span_Until⟩⟩ ⟨b_Id, b_Kind, b_Colours, b_SizeLow, b_SizeHigh, b_Places, ⟨b_Span_From, b_Span_Until⟩⟩) :=
  mkCon_fn (fun x y h _ => c68_inj x y h) ((⟨a_Id, a_Kind, a_Colours, a_SizeLow, a_SizeHigh, a_Places, ⟨a_Span_From, a_Span_Until⟩⟩, ⟨b_Id, b_Kind, b_Colours, b_SizeLow, b_SizeHigh, b_Places, ⟨b_Span_From, b_Span_Until⟩⟩) : TReport × TReport) (by simp [nz, nz1, ML_nil, encLI, encTReport, encTSpan]) rfl
theorem c68_pc (a : TReport) (b : TReport) (hpre : smR a ∧ smR b) : PCo Try.prog 68 [encTReport a, encTReport b] (Tab.of []) (.tup [.fn (.func 62) [] [.el (encLI (bothL a.Places b.Places))], dB (bothK a.Places b.Places)]) (Tab.of []) := by
  refine pco_of_run [1] (E := ⟨[c36, c79, c80], [], []⟩) (m := false) (base := 0) (Env.ok_cons c36_ok (Env.ok_cons c79_ok (Env.ok_cons c80_ok Env.ok_nil))) G_ok mix 300 6 Try.func68 (by kernel_rfl) rfl (by kernel_rfl) (by kernel_rfl) rfl ?_
  simp at hpre
  have w1 := bothO_chOf a.Places b.Places
  have w2 := bothS_chOf a.Places b.Places
  obtain h1 | h1 := chOf_or a.Places
  all_goals obtain h2 | h2 := chOf_or b.Places
  all_goals rw [h1, h2] at w1 w2
  all_goals simp [Try.f68, hpre, h1, h2, tyO_none, inO_none, tyO_some, inO_some, w1, w2]
theorem c68_ok : c68.ok Try.prog := mkCon_ok fun ⟨a, b⟩ hpre => c68_pc a b hpre
/-- loop.example/g03007/impl.sharpenSizes -/
noncomputable def c67 : Con := mkCon 67 false (α := TReport × TReport) (fun x => (fun (a : TReport) (b : TReport) => [encTReport a, encTReport b]) x.1 x.2) (fun _ => []) (fun x => (fun (a : TReport) (b : TReport) => True) x.1 x.2) (fun x => (fun (a : TReport) (b : TReport) => (.tup [.fn (.func 58) [] [.el (dI (max a.SizeLow b.SizeLow)), .el (dI (min a.SizeHigh b.SizeHigh))], dB (decide (max a.SizeLow b.SizeLow ≤ min a.SizeHigh b.SizeHigh))] : D)) x.1 x.2) (fun x => (fun (a : TReport) (b : TReport) => []) x.1 x.2)
@[simp] theorem c67_f : c67.f = 67 := rfl
@[simp] theorem c67_own : c67.own = false := rfl
theorem c67_inj : ∀ u_ v_ : TReport × TReport, ((fun x => (fun (a : TReport) (b : TReport) => [encTReport a, encTReport b]) x.1 x.2) u_).map nz = ((fun x => (fun (a : TReport) (b : TReport) => [encTReport a, encTReport b]) x.1 x.2) v_).map nz → u_ = v_ := by
  intro u_ v_ h
  obtain ⟨⟨a_Id, a_Kind, a_Colours, a_SizeLow, a_SizeHigh, a_Places, ⟨a_Span_From, a_Span_Until⟩⟩, ⟨b_Id, b_Kind, b_Colours, b_SizeLow, b_SizeHigh, b_Places, ⟨b_Span_From, b_Span_Until⟩⟩⟩ := u_
  obtain ⟨⟨a_Id', a_Kind', a_Colours', a_SizeLow', a_SizeHigh', a_Places', ⟨a_Span_From', a_Span_Until'⟩⟩, ⟨b_Id', b_Kind', b_Colours', b_SizeLow', b_SizeHigh', b_Places', ⟨b_Span_From', b_Span_Until'⟩⟩⟩ := v_
  simp [nz_lit, nz1_lit, nz_agg, nz_sl, nz1_sl, encLI, encTReport, encTSpan] at h
  first | (simp [h]; done) | (obtain ⟨⟩ := h; simp_all; done) | simp_all
@[simp] theorem c67_fn (a_Id : Int) (a_Kind : Int) (a_Colours : List Int) (a_SizeLow : Int) (a_SizeHigh : Int) (a_Places : List Int) (a_Span_From : Int) (a_Span_Until : Int) (b_Id : Int) (b_Kind : Int) (b_Colours : List Int) (b_SizeLow : Int) (b_SizeHigh : Int) (b_Places : List Int) (b_Span_From : Int) (b_Span_Until : Int) : c67.fn [.agg [.lit (.int .i64 a_Id), .lit (.int .i64 a_Kind), .sl false 1 (.lit (.int .i64 0)) (ML dI a_Colours), .lit (.int .i64 a_SizeLow), .lit (.int .i64 a_SizeHigh), .sl false 1 (.lit (.int .i64 0)) (ML dI a_Places), .lit (.int .i64 a_Span_From), .lit (.int .i64 a_Span_Until)], .agg [.lit (.int .i64 b_Id), .lit (.int .i64 b_Kind), .sl false 1 (.lit (.int .i64 0)) (ML dI b_Colours), .lit (.int .i64 b_SizeLow), .lit (.int .i64 b_SizeHigh), .sl false 1 (.lit (.int .i64 0)) (ML dI b_Places), .lit (.int .i64 b_Span_From), .lit (.int .i64 b_Span_Until)]] [] = some ((fun (a : TReport) (b : TReport) => True) ⟨a_Id, a_Kind, a_Colours, a_SizeLow, a_SizeHigh, a_Places, ⟨a_Span_From, a_Span_Until⟩⟩ ⟨b_Id, b_Kind, b_Colours, b_SizeLow, b_SizeHigh, b_Places, ⟨b_Span_From, b_Span_Until⟩⟩, (fun (a : TReport) (b : TReport) => (.tup [.fn (.func 58) [] [.el (dI (max a.SizeLow b.SizeLow)), .el (dI (min a.SizeHigh b.SizeHigh))], dB (decide (max a.SizeLow b.SizeLow ≤ min a.SizeHigh b.SizeHigh))] : D)) ⟨a_Id, a_Kind, a_Colours, a_SizeLow, a_SizeHigh, a_Places, ⟨a_Span_From, a_Span_Until⟩⟩ ⟨b_Id, b_Kind, b_Colours, b_SizeLow, b_SizeHigh, b_Places, ⟨b_Span_From, b_Span_Until⟩⟩, (fun (a : TReport) (b : TReport) => []) ⟨a_Id, a_Kind, a_Colours, a_SizeLow, a_SizeHigh, a_Places, ⟨a_Span_From, a_Span_Until⟩⟩ ⟨b_Id, b_Kind, b_Colours, b_SizeLow, b_SizeHigh, b_Places, ⟨b_Span_From, b_Span_Until⟩⟩) :=
  mkCon_fn (fun x y h _ => c67_inj x y h) ((⟨a_Id, a_Kind, a_Colours, a_SizeLow, a_SizeHigh, a_Places, ⟨a_Span_From, a_Span_Until⟩⟩, ⟨b_Id, b_Kind, b_Colours, b_SizeLow, b_SizeHigh, b_Places, ⟨b_Span_From, b_Span_Until⟩⟩) : TReport × TReport) (by simp [nz, nz1, ML_nil, encLI, encTReport, encTSpan]) rfl
theorem c67_pc (a : TReport) (b : TReport) : PCo Try.prog 67 [encTReport a, encTReport b] (Tab.of []) (.tup [.fn (.func 58) [] [.el (dI (max a.SizeLow b.SizeLow)), .el (dI (min a.SizeHigh b.SizeHigh))], dB (decide (max a.SizeLow b.SizeLow ≤ min a.SizeHigh b.SizeHigh))]) (Tab.of []) := by
  refine pco_of_run [1] (E := ⟨[c33, c34, c35], [], []⟩) (m := false) (base := 0) (Env.ok_cons c33_ok (Env.ok_cons c34_ok (Env.ok_cons c35_ok Env.ok_nil))) G_ok mix 300 6 Try.func67 (by kernel_rfl) rfl (by kernel_rfl) (by kernel_rfl) rfl ?_
  simp [Try.f67]
  all_goals first | done | rfl
theorem c67_ok : c67.ok Try.prog := mkCon_ok fun ⟨a, b⟩ hpre => c67_pc a b
/-- loop.example/g03007/impl.sharpenSpan -/
noncomputable def c69 : Con := mkCon 69 false (α := TReport × TReport) (fun x => (fun (a : TReport) (b : TReport) => [encTReport a, encTReport b]) x.1 x.2) (fun _ => []) (fun x => (fun (a : TReport) (b : TReport) => True) x.1 x.2) (fun x => (fun (a : TReport) (b : TReport) => (.tup [.fn (.func 63) [] [.el (encTSpan ⟨max a.Span.From b.Span.From, max (max a.Span.From b.Span.From) (min a.Span.Until b.Span.Until)⟩)], dB true] : D)) x.1 x.2) (fun x => (fun (a : TReport) (b : TReport) => []) x.1 x.2)
@[simp] theorem c69_f : c69.f = 69 := rfl
@[simp] theorem c69_own : c69.own = false := rfl
theorem c69_inj : ∀ u_ v_ : TReport × TReport, ((fun x => (fun (a : TReport) (b : TReport) => [encTReport a, encTReport b]) x.1 x.2) u_).map nz = ((fun x => (fun (a : TReport) (b : TReport) => [encTReport a, encTReport b]) x.1 x.2) v_).map nz → u_ = v_ := by
  intro u_ v_ h
  obtain ⟨⟨a_Id, a_Kind, a_Colours, a_SizeLow, a_SizeHigh, a_Places, ⟨a_Span_From, a_Span_Until⟩⟩, ⟨b_Id, b_Kind, b_Colours, b_SizeLow, b_SizeHigh, b_Places, ⟨b_Span_From, b_Span_Until⟩⟩⟩ := u_
  obtain ⟨⟨a_Id', a_Kind', a_Colours', a_SizeLow', a_SizeHigh', a_Places', ⟨a_Span_From', a_Span_Until'⟩⟩, ⟨b_Id', b_Kind', b_Colours', b_SizeLow', b_SizeHigh', b_Places', ⟨b_Span_From', b_Span_Until'⟩⟩⟩ := v_
  simp [nz_lit, nz1_lit, nz_agg, nz_sl, nz1_sl, encLI, encTReport, encTSpan] at h
  first | (simp [h]; done) | (obtain ⟨⟩ := h; simp_all; done) | simp_all
@[simp] theorem c69_fn (a_Id : Int) (a_Kind : Int) (a_Colours : List Int) (a_SizeLow : Int) (a_SizeHigh : Int) (a_Places : List Int) (a_Span_From : Int) (a_Span_Until : Int) (b_Id : Int) (b_Kind : Int) (b_Colours : List Int) (b_SizeLow : Int) (b_SizeHigh : Int) (b_Places : List Int) (b_Span_From : Int) (b_Span_Until : Int) : c69.fn [.agg [.lit (.int .i64 a_Id), .lit (.int .i64 a_Kind), .sl false 1 (.lit (.int .i64 0)) (ML dI a_Colours), .lit (.int .i64 a_SizeLow), .lit (.int .i64 a_SizeHigh), .sl false 1 (.lit (.int .i64 0)) (ML dI a_Places), .lit (.int .i64 a_Span_From), .lit (.int .i64 a_Span_Until)], .agg [.lit (.int .i64 b_Id), .lit (.int .i64 b_Kind), .sl false 1 (.lit (.int .i64 0)) (ML dI b_Colours), .lit (.int .i64 b_SizeLow), .lit (.int .i64 b_SizeHigh), .sl false 1 (.lit (.int .i64 0)) (ML dI b_Places), .lit (.int .i64 b_Span_From), .lit (.int .i64 b_Span_Until)]] [] = some ((fun (a : TReport) (b : TReport) => True) ⟨a_Id, a_Kind, a_Colours, a_SizeLow, a_SizeHigh, a_Places, ⟨a_Span_From, a_Span_Until⟩⟩ ⟨b_Id, b_Kind, b_Colours, b_SizeLow, b_SizeHigh, b_Places, ⟨b_Span_From, b_Span_Until⟩⟩, (fun (a : TReport) (b : TReport) => (.tup [.fn (.func 63) [] [.el (encTSpan ⟨max a.Span.From b.Span.From, max (max a.Span.From b.Span.From) (min a.Span.Until b.Span.Until)⟩)], dB true] : D)) ⟨a_Id, a_Kind, a_Colours, a_SizeLow, a_SizeHigh, a_Places, ⟨a_Span_From, a_Span_Until⟩⟩ ⟨b_Id, b_Kind, b_Colours, b_SizeLow, b_SizeHigh, b_Places, ⟨b_Span_From, b_Span_Until⟩⟩, (fun (a : TReport) (b : TReport) => []) ⟨a_Id, a_Kind, a_Colours, a_SizeLow, a_SizeHigh, a_Places, ⟨a_Span_From, a_Span_Until⟩⟩ ⟨b_Id, b_Kind, b_Colours, b_SizeLow, b_SizeHigh, b_Places, ⟨b_Span_From, b_Span_Until⟩⟩) :=
  mkCon_fn (fun x y h _ => c69_inj x y h) ((⟨a_Id, a_Kind, a_Colours, a_SizeLow, a_SizeHigh, a_Places, ⟨a_Span_From, a_Span_Until⟩⟩, ⟨b_Id, b_Kind, b_Colours, b_SizeLow, b_SizeHigh, b_Places, ⟨b_Span_From, b_Span_Until⟩⟩) : TReport × TReport) (by simp [nz, nz1, ML_nil, encLI, encTReport, encTSpan]) rfl
theorem c69_pc (a : TReport) (b : TReport) : PCo Try.prog 69 [encTReport a, encTReport b] (Tab.of []) (.tup [.fn (.func 63) [] [.el (encTSpan ⟨max a.Span.From b.Span.From, max (max a.Span.From b.Span.From) (min a.Span.Until b.Span.Until)⟩)], dB true]) (Tab.of []) := by
  refine pco_of_run [] (E := ⟨[c34, c35, c37], [], []⟩) (m := false) (base := 0) (Env.ok_cons c34_ok (Env.ok_cons c35_ok (Env.ok_cons c37_ok Env.ok_nil))) G_ok mix 300 6 Try.func69 (by kernel_rfl) rfl (by kernel_rfl) (by kernel_rfl) rfl ?_
  simp [Try.f69]
  all_goals first | done | rfl
theorem c69_ok : c69.ok Try.prog := mkCon_ok fun ⟨a, b⟩ hpre => c69_pc a b
/-- loop.example/g03007/impl.sharpenerOf -/
noncomputable def c45 : Con := mkCon 45 false (α := Int) (fun x => (fun (k : Int) => [(fun n => .lit (.int .i32 n)) k]) x) (fun _ => []) (fun x => (fun (k : Int) => True) x) (fun x => (fun (k : Int) => (if k = 99 then .fn (.func 66) [] [] else if k = 115 then .fn (.func 67) [] [] else if k = 112 then .fn (.func 68) [] [] else .fn (.func 69) [] [] : D)) x) (fun x => (fun (k : Int) => []) x)
@[simp] theorem c45_f : c45.f = 45 := rfl
@[simp] theorem c45_own : c45.own = false := rfl
theorem c45_inj : ∀ u_ v_ : Int, ((fun x => (fun (k : Int) => [(fun n => .lit (.int .i32 n)) k]) x) u_).map nz = ((fun x => (fun (k : Int) => [(fun n => .lit (.int .i32 n)) k]) x) v_).map nz → u_ = v_ := by
  intro u_ v_ h
  obtain k := u_
  obtain k' := v_
  simp [nz_lit, nz1_lit, nz_agg, nz_sl, nz1_sl] at h
  first | (simp [h]; done) | (obtain ⟨⟩ := h; simp_all; done) | simp_all
@[simp] theorem c45_fn (k : Int) : c45.fn [.lit (.int .i32 k)] [] = some ((fun (k : Int) => True) k, (fun (k : Int) => (if k = 99 then .fn (.func 66) [] [] else if k = 115 then .fn (.func 67) [] [] else if k = 112 then .fn (.func 68) [] [] else .fn (.func 69) [] [] : D)) k, (fun (k : Int) => []) k) :=
  mkCon_fn (fun x y h _ => c45_inj x y h) (k : Int) (by simp [nz, nz1, ML_nil]) rfl
theorem c45_pc (k : Int) : PCo Try.prog 45 [(fun n => .lit (.int .i32 n)) k] (Tab.of []) (if k = 99 then .fn (.func 66) [] [] else if k = 115 then .fn (.func 67) [] [] else if k = 112 then .fn (.func 68) [] [] else .fn (.func 69) [] []) (Tab.of []) := by
  refine pco_of_run [] (E := ⟨[c66, c67, c68, c69], [], []⟩) (m := false) (base := 0) (Env.ok_cons c66_ok (Env.ok_cons c67_ok (Env.ok_cons c68_ok (Env.ok_cons c69_ok Env.ok_nil)))) G_ok mix 300 6 Try.func45 (by kernel_rfl) rfl (by kernel_rfl) (by kernel_rfl) rfl ?_
  by_cases h1 : k = 99
  · simp [Try.f45, h1]
  · by_cases h2 : k = 115
    · simp [Try.f45, h2]
    · by_cases h3 : k = 112
      · simp [Try.f45, h3]
      · simp [Try.f45, h1, h2, h3]
theorem c45_ok : c45.ok Try.prog := mkCon_ok fun k hpre => c45_pc k

end Go.Proofs.Ytallgbanohpbbaa
