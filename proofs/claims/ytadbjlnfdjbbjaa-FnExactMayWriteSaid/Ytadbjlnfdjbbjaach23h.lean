/- Contracts of the functions that the laws run. -/
import Derived.Test.Ytadbjlnfdjbbjaach23g
import Derived.Test.YtadbjlnfdjbbjaaEngB
namespace Go.Proofs.Ytadbjlnfdjbbjaa
open Go Go.Eng
set_option linter.unusedSimpArgs false
set_option linter.unusedVariables false
set_option maxRecDepth 10000
set_option maxHeartbeats 1000000
/-- slices.Clone[[]loop.example/g03007/impl.Lette -/
noncomputable def c129 : Con := mkCon 129 false (α := (List TLetter)) (fun x => (fun (l : List TLetter) => [encLTLetter l]) x) (fun _ => []) (fun x => (fun (l : List TLetter) => l.length ≤ 1073741824) x) (fun x => (fun (l : List TLetter) => (.own (0, 1) 3 0 l.length : D)) x) (fun x => (fun (l : List TLetter) => [((0, 1), .arr false 3 yTLetter (ML encTLetter l))]) x)
@[simp] theorem c129_f : c129.f = 129 := rfl
@[simp] theorem c129_own : c129.own = false := rfl
theorem c129_inj : ∀ u_ v_ : (List TLetter), ((fun x => (fun (l : List TLetter) => [encLTLetter l]) x) u_).map nz = ((fun x => (fun (l : List TLetter) => [encLTLetter l]) x) v_).map nz → u_ = v_ := by
  intro u_ v_ h
  obtain l := u_
  obtain l' := v_
  simp [nz_lit, nz1_lit, nz_agg, nz_sl, nz1_sl, encLTLetter] at h
  first | (simp [h]; done) | (obtain ⟨⟩ := h; simp_all; done) | simp_all
@[simp] theorem c129_fn (l : List TLetter) : c129.fn [.sl false 3 yTLetter (ML encTLetter l)] [] = some ((fun (l : List TLetter) => l.length ≤ 1073741824) l, (fun (l : List TLetter) => (.own (0, 1) 3 0 l.length : D)) l, (fun (l : List TLetter) => [((0, 1), .arr false 3 yTLetter (ML encTLetter l))]) l) :=
  mkCon_fn (fun x y h _ => c129_inj x y h) (l : (List TLetter)) (by simp [nz, nz1, ML_nil, encLTLetter]) rfl
@[simp] theorem c129_fn1 (s_l : Nat) (z_l : D) : c129.fn [.sl false s_l z_l []] [] = some ((fun (l : List TLetter) => l.length ≤ 1073741824) [], (fun (l : List TLetter) => (.own (0, 1) 3 0 l.length : D)) [], (fun (l : List TLetter) => [((0, 1), .arr false 3 yTLetter (ML encTLetter l))]) []) :=
  mkCon_fn (fun x y h _ => c129_inj x y h) ([] : (List TLetter)) (by simp [nz, nz1, ML_nil, encLTLetter]) rfl
theorem c129_pc (l : List TLetter) (hpre : l.length ≤ 1073741824) : PCo Try.prog 129 [encLTLetter l] (Tab.of []) (.own (0, 1) 3 0 l.length) (Tab.of [((0, 1), .arr false 3 yTLetter (ML encTLetter l))]) := by
  by_cases hl : l = []
  · subst hl
    show PCo Try.prog 129 [.sl false 3 yTLetter []] Tab.nil (.own (0, 1) 3 0 0) (Tab.of [((0, 1), .arr false 3 yTLetter [])])
    refine pco_slice fun a cap => ?_
    cases a with
    | none =>
      refine pc_ghost (s' := 0) (z' := .any) ?_
      refine pco_of_run [] (tin := []) (E := ⟨[], []⟩) (m := false) (base := 0) Env.ok_nil G_ok mix 300 6 Try.func129 (by kernel_rfl) rfl (by kernel_rfl) (by kernel_rfl) rfl ?_
      simp [Try.f129]
    | some q =>
      refine pco_of_run [] (tin := []) (E := ⟨[], []⟩) (m := false) (base := 0) Env.ok_nil G_ok mix 300 6 Try.func129 (by kernel_rfl) rfl (by kernel_rfl) (by kernel_rfl) rfl ?_
      simp [Try.f129]
  · refine pco_of_run [] (E := ⟨[], []⟩) (m := false) (base := 0) Env.ok_nil G_ok mix 300 6 Try.func129 (by kernel_rfl) rfl (by kernel_rfl) (by kernel_rfl) rfl ?_
    simp [Try.f129, -nilS, nilS_ML hl]
    omega
theorem c129_ok : c129.ok Try.prog := mkCon_ok fun l hpre => c129_pc l hpre
def mIsLetter (x : TLetter) : Bool := mIn x.Report 1 999 && mIn x.Thing 1 999 && mIn x.At 0 100000
/-- loop.example/g03007/impl.isLetter -/
noncomputable def c124 : Con := mkCon 124 false (α := TLetter) (fun x => (fun (x : TLetter) => [encTLetter x]) x) (fun _ => []) (fun x => (fun (x : TLetter) => True) x) (fun x => (fun (x : TLetter) => (dB (mIsLetter x) : D)) x) (fun x => (fun (x : TLetter) => []) x)
@[simp] theorem c124_f : c124.f = 124 := rfl
@[simp] theorem c124_own : c124.own = false := rfl
theorem c124_inj : ∀ u_ v_ : TLetter, ((fun x => (fun (x : TLetter) => [encTLetter x]) x) u_).map nz = ((fun x => (fun (x : TLetter) => [encTLetter x]) x) v_).map nz → u_ = v_ := by
  intro u_ v_ h
  obtain ⟨x_Report, x_Thing, x_At⟩ := u_
  obtain ⟨x_Report', x_Thing', x_At'⟩ := v_
  simp [nz_lit, nz1_lit, nz_agg, nz_sl, nz1_sl, encTLetter] at h
  first | (simp [h]; done) | (obtain ⟨⟩ := h; simp_all; done) | simp_all
@[simp] theorem c124_fn (x_Report : Int) (x_Thing : Int) (x_At : Int) : c124.fn [.agg [.lit (.int .i64 x_Report), .lit (.int .i64 x_Thing), .lit (.int .i64 x_At)]] [] = some ((fun (x : TLetter) => True) ⟨x_Report, x_Thing, x_At⟩, (fun (x : TLetter) => (dB (mIsLetter x) : D)) ⟨x_Report, x_Thing, x_At⟩, (fun (x : TLetter) => []) ⟨x_Report, x_Thing, x_At⟩) :=
  mkCon_fn (fun x y h _ => c124_inj x y h) (⟨x_Report, x_Thing, x_At⟩ : TLetter) (by simp [nz, nz1, ML_nil, encTLetter]) rfl
theorem c124_pc (x : TLetter) : PCo Try.prog 124 [encTLetter x] (Tab.of []) (dB (mIsLetter x)) (Tab.of []) := by
  obtain ⟨x_Report, x_Thing, x_At⟩ := x
  refine pco_of_run [] (E := ⟨[c147], []⟩) (m := false) (base := 0) (Env.ok_cons c147_ok Env.ok_nil) G_ok mix 300 6 Try.func124 (by kernel_rfl) rfl (by kernel_rfl) (by kernel_rfl) rfl ?_
  simp [Try.f124]
  simp [mIsLetter]; first | done | first | rfl | omega | (rw [Bool.eq_iff_iff]; simp; done) | (rw [Bool.eq_iff_iff]; simp; omega) | (rw [Bool.eq_iff_iff]; simp; grind) | grind
theorem c124_ok : c124.ok Try.prog := mkCon_ok fun x hpre => c124_pc x
/-- (loop.example/g03007/impl.Letter).topic -/
noncomputable def c161 : Con := mkCon 161 false (α := TLetter) (fun x => (fun (x : TLetter) => [encTLetter x]) x) (fun _ => []) (fun x => (fun (x : TLetter) => True) x) (fun x => (fun (x : TLetter) => (.agg [dI x.Report, dI x.Thing] : D)) x) (fun x => (fun (x : TLetter) => []) x)
@[simp] theorem c161_f : c161.f = 161 := rfl
@[simp] theorem c161_own : c161.own = false := rfl
theorem c161_inj : ∀ u_ v_ : TLetter, ((fun x => (fun (x : TLetter) => [encTLetter x]) x) u_).map nz = ((fun x => (fun (x : TLetter) => [encTLetter x]) x) v_).map nz → u_ = v_ := by
  intro u_ v_ h
  obtain ⟨x_Report, x_Thing, x_At⟩ := u_
  obtain ⟨x_Report', x_Thing', x_At'⟩ := v_
  simp [nz_lit, nz1_lit, nz_agg, nz_sl, nz1_sl, encTLetter] at h
  first | (simp [h]; done) | (obtain ⟨⟩ := h; simp_all; done) | simp_all
@[simp] theorem c161_fn (x_Report : Int) (x_Thing : Int) (x_At : Int) : c161.fn [.agg [.lit (.int .i64 x_Report), .lit (.int .i64 x_Thing), .lit (.int .i64 x_At)]] [] = some ((fun (x : TLetter) => True) ⟨x_Report, x_Thing, x_At⟩, (fun (x : TLetter) => (.agg [dI x.Report, dI x.Thing] : D)) ⟨x_Report, x_Thing, x_At⟩, (fun (x : TLetter) => []) ⟨x_Report, x_Thing, x_At⟩) :=
  mkCon_fn (fun x y h _ => c161_inj x y h) (⟨x_Report, x_Thing, x_At⟩ : TLetter) (by simp [nz, nz1, ML_nil, encTLetter]) rfl
theorem c161_pc (x : TLetter) : PCo Try.prog 161 [encTLetter x] (Tab.of []) (.agg [dI x.Report, dI x.Thing]) (Tab.of []) := by
  obtain ⟨x_Report, x_Thing, x_At⟩ := x
  refine pco_of_run [] (E := ⟨[], []⟩) (m := false) (base := 0) Env.ok_nil G_ok mix 300 6 Try.func161 (by kernel_rfl) rfl (by kernel_rfl) (by kernel_rfl) rfl ?_
  simp [Try.f161]
  first | done | rfl
theorem c161_ok : c161.ok Try.prog := mkCon_ok fun x hpre => c161_pc x
def nearL (x y : TLetter) : Bool := y.Report == x.Report && y.Thing == x.Thing || decide (x.At - y.At < 168)
def atOk (x : TLetter) : Prop := 0 ≤ x.At ∧ x.At ≤ 100000
/-- (loop.example/g03007/impl.lettersByReport).allow$1 -/
noncomputable def c160 : Con := mkCon 160 false (α := TLetter × TLetter) (fun x => (fun (x : TLetter) (y : TLetter) => ([encTLetter y, .el (encTLetter x)] : List D)) x.1 x.2) (fun x => (fun (x : TLetter) (y : TLetter) => ([] : List (Nm × OO))) x.1 x.2) (fun x => (fun (x : TLetter) (y : TLetter) => atOk x ∧ atOk y) x.1 x.2) (fun x => (fun (x : TLetter) (y : TLetter) => (dB (nearL x y) : D)) x.1 x.2) (fun x => (fun (x : TLetter) (y : TLetter) => ([] : List (Nm × OO))) x.1 x.2)
@[simp] theorem c160_f : c160.f = 160 := rfl
@[simp] theorem c160_own : c160.own = false := rfl
theorem c160_inj : ∀ u_ v_ : TLetter × TLetter, ((fun x => (fun (x : TLetter) (y : TLetter) => ([encTLetter y, .el (encTLetter x)] : List D)) x.1 x.2) u_).map nz = ((fun x => (fun (x : TLetter) (y : TLetter) => ([encTLetter y, .el (encTLetter x)] : List D)) x.1 x.2) v_).map nz → (fun x => (fun (x : TLetter) (y : TLetter) => ([] : List (Nm × OO))) x.1 x.2) u_ = (fun x => (fun (x : TLetter) (y : TLetter) => ([] : List (Nm × OO))) x.1 x.2) v_ → u_ = v_ := by
  intro u_ v_ h h2_
  obtain ⟨⟨x_Report, x_Thing, x_At⟩, ⟨y_Report, y_Thing, y_At⟩⟩ := u_
  obtain ⟨⟨x_Report', x_Thing', x_At'⟩, ⟨y_Report', y_Thing', y_At'⟩⟩ := v_
  simp [nz_lit, nz1_lit, nz_agg, nz_sl, nz1_sl, nz_sx, nz_el, nz1_el, nz_own, nz1_own, nz_ptr, nz_fn, nz_iface] at h h2_
  first | (simp [h, h2_]; done) | (obtain ⟨h3_, h4_⟩ := List.append_inj h2_ h.1; simp_all; done) | simp_all | grind
@[simp] theorem c160_fn (x_Report : Int) (x_Thing : Int) (x_At : Int) (y_Report : Int) (y_Thing : Int) (y_At : Int) : c160.fn ([.agg [.lit (.int .i64 y_Report), .lit (.int .i64 y_Thing), .lit (.int .i64 y_At)], .el (.agg [.lit (.int .i64 x_Report), .lit (.int .i64 x_Thing), .lit (.int .i64 x_At)])]) ([]) = some (atOk (⟨x_Report, x_Thing, x_At⟩ : TLetter) ∧ atOk (⟨y_Report, y_Thing, y_At⟩ : TLetter), dB (nearL (⟨x_Report, x_Thing, x_At⟩ : TLetter) (⟨y_Report, y_Thing, y_At⟩ : TLetter)), []) :=
  mkCon_fn c160_inj ((⟨x_Report, x_Thing, x_At⟩, ⟨y_Report, y_Thing, y_At⟩) : TLetter × TLetter) rfl rfl
theorem c160_pc (x : TLetter) (y : TLetter) (hpre : atOk x ∧ atOk y) : PCo Try.prog 160 ([encTLetter y, .el (encTLetter x)]) (Tab.of ([])) (dB (nearL x y)) (Tab.of ([])) := by
  refine pco_of_run [1001] (E := ⟨[c161], []⟩) (m := false) (base := 0) (Env.ok_cons c161_ok Env.ok_nil) G_ok mix 300 6 Try.func160 (by kernel_rfl) rfl (by kernel_rfl) (by kernel_rfl) rfl ?_
  simp [Try.f160]
  obtain ⟨⟨h1, h2⟩, h3, h4⟩ := hpre
  exact ⟨fun _ => by omega, rfl⟩
theorem c160_ok : c160.ok Try.prog := mkCon_ok fun ⟨x, y⟩ hpre => c160_pc x y hpre
/-- slices.IndexFunc[[]loop.example/g03007/impl.Lette -/
noncomputable def c180 : Con := mkCon 180 false (α := (List TLetter) × TLetter) (fun x => (fun (l : List TLetter) (x : TLetter) => ([encLTLetter l, .fn (.func 160) [] [.el (encTLetter x)]] : List D)) x.1 x.2) (fun x => (fun (l : List TLetter) (x : TLetter) => ([] : List (Nm × OO))) x.1 x.2) (fun x => (fun (l : List TLetter) (x : TLetter) => l.length ≤ 1099511627776 ∧ atOk x ∧ ∀ y ∈ l, atOk y) x.1 x.2) (fun x => (fun (l : List TLetter) (x : TLetter) => (dI (indexBy (nearL x) 0 l) : D)) x.1 x.2) (fun x => (fun (l : List TLetter) (x : TLetter) => ([] : List (Nm × OO))) x.1 x.2)
@[simp] theorem c180_f : c180.f = 180 := rfl
@[simp] theorem c180_own : c180.own = false := rfl
theorem c180_inj : ∀ u_ v_ : (List TLetter) × TLetter, ((fun x => (fun (l : List TLetter) (x : TLetter) => ([encLTLetter l, .fn (.func 160) [] [.el (encTLetter x)]] : List D)) x.1 x.2) u_).map nz = ((fun x => (fun (l : List TLetter) (x : TLetter) => ([encLTLetter l, .fn (.func 160) [] [.el (encTLetter x)]] : List D)) x.1 x.2) v_).map nz → (fun x => (fun (l : List TLetter) (x : TLetter) => ([] : List (Nm × OO))) x.1 x.2) u_ = (fun x => (fun (l : List TLetter) (x : TLetter) => ([] : List (Nm × OO))) x.1 x.2) v_ → u_ = v_ := by
  intro u_ v_ h h2_
  obtain ⟨l, ⟨x_Report, x_Thing, x_At⟩⟩ := u_
  obtain ⟨l', ⟨x_Report', x_Thing', x_At'⟩⟩ := v_
  simp [nz_lit, nz1_lit, nz_agg, nz_sl, nz1_sl, nz_sx, nz_el, nz1_el, nz_own, nz1_own, nz_ptr, nz_fn, nz_iface] at h h2_
  first | (simp [h, h2_]; done) | (obtain ⟨h3_, h4_⟩ := List.append_inj h2_ h.1; simp_all; done) | simp_all | grind
@[simp] theorem c180_fn (l : List TLetter) (x_Report : Int) (x_Thing : Int) (x_At : Int) : c180.fn ([(.sl false 3 yTLetter (ML encTLetter l)), .fn (.func 160) [] [.el (.agg [.lit (.int .i64 x_Report), .lit (.int .i64 x_Thing), .lit (.int .i64 x_At)])]]) ([]) = some (l.length ≤ 1099511627776 ∧ atOk (⟨x_Report, x_Thing, x_At⟩ : TLetter) ∧ ∀ y ∈ l, atOk y, dI (indexBy (nearL (⟨x_Report, x_Thing, x_At⟩ : TLetter)) 0 l), []) :=
  mkCon_fn c180_inj ((l, ⟨x_Report, x_Thing, x_At⟩) : (List TLetter) × TLetter) rfl rfl
theorem c180_pc (l : List TLetter) (x : TLetter) (hpre : l.length ≤ 1099511627776 ∧ atOk x ∧ ∀ y ∈ l, atOk y) : PCo Try.prog 180 ([encLTLetter l, .fn (.func 160) [] [.el (encTLetter x)]]) (Tab.of ([])) (dI (indexBy (nearL x) 0 l)) (Tab.of ([])) := by
  refine pco_of_run [] (E := ⟨[c160], []⟩) (m := false) (base := 0) (Env.ok_cons c160_ok Env.ok_nil) G_ok mix 300 6 Try.func180 (by kernel_rfl) rfl (by kernel_rfl) (by kernel_rfl) rfl ?_
  simp [Try.f180]
  obtain ⟨hlen, hx, hpre⟩ := hpre
  refine loop_inv (fun p : Nat => p ≤ l.length ∧ indexBy (nearL x) 0 l = indexBy (nearL x) p (l.drop p)) (fun p => [(0, encLTLetter l), (1, .fn (.func 160) [] [.el (encTLetter x)]), (7, dI l.length), (8, dI p)]) (fun _ => []) 1 (fun p => l.length - p) 0 400 (by simp) (by simp) (by simp) ?_
  intro p ⟨hp, hi⟩
  simp
  refine ⟨fun hlt => ?_, fun hge => ?_⟩
  · have hm := hpre _ (getD_mem (d := default) hlt)
    rw [indexBy_at (d := default) hlt] at hi
    refine ⟨⟨hlt, hx, hm⟩, fun h => ?_, fun h => ?_⟩
    · rw [hi, if_pos h]
    · rw [if_neg (by rw [h]; simp)] at hi
      exact ⟨by omega, Again.mk (p + 1) ⟨by omega, by rw [hi]; first | done | rfl | grind⟩ (by simp) (by first | omega | (simp; omega))⟩
  · rw [hi, indexBy_end hge]
theorem c180_ok : c180.ok Try.prog := mkCon_ok fun ⟨l, x⟩ hpre => c180_pc l x hpre
theorem indexBy_any {α : Type} {w : α → Bool} : ∀ (l : List α) (i : Int), 0 ≤ i → (0 ≤ indexBy w i l ↔ l.any w = true)
  | [], i, _ => by simp [indexBy]
  | x :: r, i, hi => by
    have := indexBy_any (w := w) r (i + 1) (by omega)
    by_cases hx : w x = true
    · simp [indexBy, hx, hi]
    · simp [indexBy, hx, this]
/-- slices.ContainsFunc[[]loop.example/g03007/impl.Lette -/
noncomputable def c159 : Con := mkCon 159 false (α := (List TLetter) × TLetter) (fun x => (fun (l : List TLetter) (x : TLetter) => ([encLTLetter l, .fn (.func 160) [] [.el (encTLetter x)]] : List D)) x.1 x.2) (fun x => (fun (l : List TLetter) (x : TLetter) => ([] : List (Nm × OO))) x.1 x.2) (fun x => (fun (l : List TLetter) (x : TLetter) => l.length ≤ 1099511627776 ∧ atOk x ∧ ∀ y ∈ l, atOk y) x.1 x.2) (fun x => (fun (l : List TLetter) (x : TLetter) => (dB (l.any (nearL x)) : D)) x.1 x.2) (fun x => (fun (l : List TLetter) (x : TLetter) => ([] : List (Nm × OO))) x.1 x.2)
@[simp] theorem c159_f : c159.f = 159 := rfl
@[simp] theorem c159_own : c159.own = false := rfl
theorem c159_inj : ∀ u_ v_ : (List TLetter) × TLetter, ((fun x => (fun (l : List TLetter) (x : TLetter) => ([encLTLetter l, .fn (.func 160) [] [.el (encTLetter x)]] : List D)) x.1 x.2) u_).map nz = ((fun x => (fun (l : List TLetter) (x : TLetter) => ([encLTLetter l, .fn (.func 160) [] [.el (encTLetter x)]] : List D)) x.1 x.2) v_).map nz → (fun x => (fun (l : List TLetter) (x : TLetter) => ([] : List (Nm × OO))) x.1 x.2) u_ = (fun x => (fun (l : List TLetter) (x : TLetter) => ([] : List (Nm × OO))) x.1 x.2) v_ → u_ = v_ := by
  intro u_ v_ h h2_
  obtain ⟨l, ⟨x_Report, x_Thing, x_At⟩⟩ := u_
  obtain ⟨l', ⟨x_Report', x_Thing', x_At'⟩⟩ := v_
  simp [nz_lit, nz1_lit, nz_agg, nz_sl, nz1_sl, nz_sx, nz_el, nz1_el, nz_own, nz1_own, nz_ptr, nz_fn, nz_iface] at h h2_
  first | (simp [h, h2_]; done) | (obtain ⟨h3_, h4_⟩ := List.append_inj h2_ h.1; simp_all; done) | simp_all | grind
@[simp] theorem c159_fn (l : List TLetter) (x_Report : Int) (x_Thing : Int) (x_At : Int) : c159.fn ([(.sl false 3 yTLetter (ML encTLetter l)), .fn (.func 160) [] [.el (.agg [.lit (.int .i64 x_Report), .lit (.int .i64 x_Thing), .lit (.int .i64 x_At)])]]) ([]) = some (l.length ≤ 1099511627776 ∧ atOk (⟨x_Report, x_Thing, x_At⟩ : TLetter) ∧ ∀ y ∈ l, atOk y, dB (l.any (nearL (⟨x_Report, x_Thing, x_At⟩ : TLetter))), []) :=
  mkCon_fn c159_inj ((l, ⟨x_Report, x_Thing, x_At⟩) : (List TLetter) × TLetter) rfl rfl
theorem c159_pc (l : List TLetter) (x : TLetter) (hpre : l.length ≤ 1099511627776 ∧ atOk x ∧ ∀ y ∈ l, atOk y) : PCo Try.prog 159 ([encLTLetter l, .fn (.func 160) [] [.el (encTLetter x)]]) (Tab.of ([])) (dB (l.any (nearL x))) (Tab.of ([])) := by
  refine pco_of_run [] (E := ⟨[c180, c160], []⟩) (m := false) (base := 0) (Env.ok_cons c180_ok (Env.ok_cons c160_ok Env.ok_nil)) G_ok mix 300 6 Try.func159 (by kernel_rfl) rfl (by kernel_rfl) (by kernel_rfl) rfl ?_
  simp [Try.f159]
  refine ⟨hpre, ?_⟩
  have := indexBy_any (w := nearL x) l 0 (by omega)
  rw [Bool.eq_iff_iff, ← this]
  simp
theorem c159_ok : c159.ok Try.prog := mkCon_ok fun ⟨l, x⟩ hpre => c159_pc l x hpre
attribute [simp] nz_fm
/-- (loop.example/g03007/impl.lettersByReport).allow -/
noncomputable def c125 : Con := mkCon 125 false (α := Gl × TLetter) (fun x => (fun (g : Gl) (x : TLetter) => ([.fm 0 (keysG g) .any (rowsD 3 yTLetter (rowsG encTLetter g)), encTLetter x] : List D)) x.1 x.2) (fun x => (fun (g : Gl) (x : TLetter) => ([] : List (Nm × OO))) x.1 x.2) (fun x => (fun (g : Gl) (x : TLetter) => (getG g x.Report).length ≤ 1099511627776 ∧ atOk x ∧ ∀ y ∈ getG g x.Report, atOk y) x.1 x.2) (fun x => (fun (g : Gl) (x : TLetter) => (dB (!(getG g x.Report).any (nearL x)) : D)) x.1 x.2) (fun x => (fun (g : Gl) (x : TLetter) => ([] : List (Nm × OO))) x.1 x.2)
@[simp] theorem c125_f : c125.f = 125 := rfl
@[simp] theorem c125_own : c125.own = false := rfl
theorem c125_inj : ∀ u_ v_ : Gl × TLetter, ((fun x => (fun (g : Gl) (x : TLetter) => ([.fm 0 (keysG g) .any (rowsD 3 yTLetter (rowsG encTLetter g)), encTLetter x] : List D)) x.1 x.2) u_).map nz = ((fun x => (fun (g : Gl) (x : TLetter) => ([.fm 0 (keysG g) .any (rowsD 3 yTLetter (rowsG encTLetter g)), encTLetter x] : List D)) x.1 x.2) v_).map nz → (fun x => (fun (g : Gl) (x : TLetter) => ([] : List (Nm × OO))) x.1 x.2) u_ = (fun x => (fun (g : Gl) (x : TLetter) => ([] : List (Nm × OO))) x.1 x.2) v_ → u_ = v_ := by
  intro u_ v_ h h2_
  obtain ⟨g, ⟨x_Report, x_Thing, x_At⟩⟩ := u_
  obtain ⟨g', ⟨x_Report', x_Thing', x_At'⟩⟩ := v_
  simp [nz_lit, nz1_lit, nz_agg, nz_sl, nz1_sl, nz_sx, nz_el, nz1_el, nz_own, nz1_own, nz_ptr, nz_fn, nz_iface] at h h2_
  first | (simp [h, h2_]; done) | (obtain ⟨h3_, h4_⟩ := List.append_inj h2_ h.1; simp_all; done) | simp_all | grind
@[simp] theorem c125_fn (g : Gl) (x_Report : Int) (x_Thing : Int) (x_At : Int) : c125.fn ([.fm 0 (keysG g) .any (rowsD 3 yTLetter (rowsG encTLetter g)), .agg [.lit (.int .i64 x_Report), .lit (.int .i64 x_Thing), .lit (.int .i64 x_At)]]) ([]) = some ((getG g (⟨x_Report, x_Thing, x_At⟩ : TLetter).Report).length ≤ 1099511627776 ∧ atOk (⟨x_Report, x_Thing, x_At⟩ : TLetter) ∧ ∀ y ∈ getG g (⟨x_Report, x_Thing, x_At⟩ : TLetter).Report, atOk y, dB (!(getG g (⟨x_Report, x_Thing, x_At⟩ : TLetter).Report).any (nearL (⟨x_Report, x_Thing, x_At⟩ : TLetter))), []) :=
  mkCon_fn c125_inj ((g, ⟨x_Report, x_Thing, x_At⟩) : Gl × TLetter) rfl rfl
theorem c125_pc (g : Gl) (x : TLetter) (hpre : (getG g x.Report).length ≤ 1099511627776 ∧ atOk x ∧ ∀ y ∈ getG g x.Report, atOk y) : PCo Try.prog 125 ([.fm 0 (keysG g) .any (rowsD 3 yTLetter (rowsG encTLetter g)), encTLetter x]) (Tab.of ([])) (dB (!(getG g x.Report).any (nearL x))) (Tab.of ([])) := by
  refine pco_of_run [] (E := ⟨[c159, c160], []⟩) (m := false) (base := 0) (Env.ok_cons c159_ok (Env.ok_cons c160_ok Env.ok_nil)) G_ok mix 300 6 Try.func125 (by kernel_rfl) rfl (by kernel_rfl) (by kernel_rfl) rfl ?_
  simp [Try.f125]
  repeat' (first | omega | refine And.intro ?_ ?_ | intro _)
theorem c125_ok : c125.ok Try.prog := mkCon_ok fun ⟨g, x⟩ hpre => c125_pc g x hpre
def clash (x y : TLetter) : Bool := reIs x.Report y && (decide (y.Thing = x.Thing) || decide (x.At - y.At < 168))
theorem near_clash (x : TLetter) (l : List TLetter) : (mRow l x.Report).any (nearL x) = l.any (clash x) := by
  rw [mRow, List.any_filter]
  congr 1
  funext y
  by_cases h : y.Report = x.Report
  · by_cases h2 : y.Thing = x.Thing <;> simp [nearL, clash, reIs, h, h2]
  · simp [nearL, clash, reIs, h]
def lastAt (b : List TLetter) : Int := match b.getLast? with | none => 0 | some y => y.At
def letB : List TLetter → List TLetter → Bool
  | _, [] => true
  | b, x :: r => mIsLetter x && decide (lastAt b ≤ x.At) && !b.any (clash x) && letB (b ++ [x]) r
theorem letB_app : ∀ (b l r : List TLetter), letB b (l ++ r) = (letB b l && letB (b ++ l) r)
  | b, [], r => by simp [letB]
  | b, x :: l, r => by rw [List.cons_append, letB, letB, letB_app (b ++ [x]) l r]; simp [Bool.and_assoc]
def mAreLetters (l : List TLetter) : Bool := decide (l.length ≤ 60) && letB [] l
def goL (l : List TLetter) (p : Nat) : Bool := letB (l.take p) (l.drop p)
theorem goL_at {l : List TLetter} {p : Nat} (h : p < l.length) : goL l p = (mIsLetter (l[p]?.getD default) && decide (lastAt (l.take p) ≤ (l[p]?.getD default).At) && !(l.take p).any (clash (l[p]?.getD default)) && goL l (p + 1)) := by
  simp only [goL]
  rw [drop_at (d := default) h, letB, take_at (d := default) h]
theorem isL_at {x : TLetter} (h : mIsLetter x = true) : atOk x := by
  simp only [mIsLetter, Bool.and_eq_true, mIn, decide_eq_true_eq] at h
  exact h.2
theorem lastAt_take {l : List TLetter} {p : Nat} (h : p < l.length) : lastAt (l.take (p + 1)) = (l[p]?.getD default).At := by
  rw [take_at (d := default) h]; simp [lastAt]
theorem goL_end {l : List TLetter} {p : Nat} (h : l.length ≤ p) : goL l p = true := by rw [goL, List.drop_eq_nil_of_le h, letB]
theorem mAreL_goL (l : List TLetter) : mAreLetters l = (decide (l.length ≤ 60) && goL l 0) := by simp [mAreLetters, goL]
def okTill (l : List TLetter) (p : Nat) : Prop := p ≤ l.length ∧ goL l 0 = goL l p ∧ ∀ y ∈ l.take p, atOk y
theorem okTill_step {l : List TLetter} {p : Nat} (h : okTill l p) (hlt : p < l.length) (h1 : mIsLetter (l[p]?.getD default) = true) (h2 : lastAt (l.take p) ≤ (l[p]?.getD default).At) (h3 : (l.take p).any (clash (l[p]?.getD default)) = false) : okTill l (p + 1) := by
  refine ⟨by omega, ?_, fun y hy => ?_⟩
  · rw [h.2.1, goL_at hlt, h1, h3, decide_eq_true h2]; rfl
  · rw [take_at (d := default) hlt] at hy
    rcases List.mem_append.1 hy with hy | hy
    · exact h.2.2 y hy
    · simp at hy; subst hy; exact isL_at h1
theorem goL_bad {l : List TLetter} {p : Nat} (h : okTill l p) (hlt : p < l.length) (h1 : mIsLetter (l[p]?.getD default) = true → lastAt (l.take p) ≤ (l[p]?.getD default).At → (l.take p).any (clash (l[p]?.getD default)) = true) : mAreLetters l = false := by
  rw [mAreL_goL, h.2.1, goL_at hlt]
  cases e1 : mIsLetter (l[p]?.getD default) with
  | false => simp
  | true =>
    by_cases e2 : lastAt (l.take p) ≤ (l[p]?.getD default).At
    · rw [h1 e1 e2]; simp
    · simp [decide_eq_false e2]
/-- loop.example/g03007/impl.AreLetters -/
noncomputable def c68 : Con := mkCon 68 false (α := (List TLetter)) (fun x => (fun (l : List TLetter) => [encLTLetter l]) x) (fun _ => []) (fun x => (fun (l : List TLetter) => l.length ≤ 1073741823) x) (fun x => (fun (l : List TLetter) => (dB (mAreLetters l) : D)) x) (fun x => (fun (l : List TLetter) => []) x)
@[simp] theorem c68_f : c68.f = 68 := rfl
@[simp] theorem c68_own : c68.own = false := rfl
theorem c68_inj : ∀ u_ v_ : (List TLetter), ((fun x => (fun (l : List TLetter) => [encLTLetter l]) x) u_).map nz = ((fun x => (fun (l : List TLetter) => [encLTLetter l]) x) v_).map nz → u_ = v_ := by
  intro u_ v_ h
  obtain l := u_
  obtain l' := v_
  simp [nz_lit, nz1_lit, nz_agg, nz_sl, nz1_sl, encLTLetter] at h
  first | (simp [h]; done) | (obtain ⟨⟩ := h; simp_all; done) | simp_all
@[simp] theorem c68_fn (l : List TLetter) : c68.fn [.sl false 3 yTLetter (ML encTLetter l)] [] = some ((fun (l : List TLetter) => l.length ≤ 1073741823) l, (fun (l : List TLetter) => (dB (mAreLetters l) : D)) l, (fun (l : List TLetter) => []) l) :=
  mkCon_fn (fun x y h _ => c68_inj x y h) (l : (List TLetter)) (by simp [nz, nz1, ML_nil, encLTLetter]) rfl
@[simp] theorem c68_fn1 (s_l : Nat) (z_l : D) : c68.fn [.sl false s_l z_l []] [] = some ((fun (l : List TLetter) => l.length ≤ 1073741823) [], (fun (l : List TLetter) => (dB (mAreLetters l) : D)) [], (fun (l : List TLetter) => []) []) :=
  mkCon_fn (fun x y h _ => c68_inj x y h) ([] : (List TLetter)) (by simp [nz, nz1, ML_nil, encLTLetter]) rfl
theorem c68_pc (l : List TLetter) (hpre : l.length ≤ 1073741823) : PCo Try.prog 68 [encLTLetter l] (Tab.of []) (dB (mAreLetters l)) (Tab.of []) := by
  refine pco_of_run [] (E := ⟨[c124, c125, c126, c126, c125], []⟩) (m := false) (base := 0) (Env.ok_cons c124_ok (Env.ok_cons c125_ok (Env.ok_cons c126_ok (Env.ok_cons c126_ok (Env.ok_cons c125_ok Env.ok_nil))))) G_ok mix 300 6 Try.func68 (by kernel_rfl) rfl (by kernel_rfl) (by kernel_rfl) rfl ?_
  simp [Try.f68]
  refine ⟨fun h => by simp [mAreLetters]; omega, fun h60 => ?_⟩
  refine loop_inv (fun p : Nat => okTill l p) (fun p => [(3, .mp (0, 1)), (4, dI (lastAt (l.take p))), (11, encLTLetter l), (12, dI l.length), (13, dI p)]) (fun p => [((0, 1), .rmap 0 (keysG (bkL (l.take p))) 3 yTLetter (rowsG encTLetter (bkL (l.take p))) none)]) 2 (fun p => l.length - p) 0 400 (by simp) (by simp [okTill]) (by simp [lastAt]) ?_
  intro p hp
  simp
  have hpl := hp.1
  refine ⟨fun hlt => ?_, fun hge => ?_⟩
  · have hb := getL_len (l.take p) (l[p]?.getD default).Report
    have hb2 : (l.take p).length ≤ p := by simp; omega
    have hs := grpL_take (key := kRe) (d := default) hlt
    have hn : (getG (bkL (l.take p)) (l[p]?.getD default).Report).any (nearL (l[p]?.getD default)) = (l.take p).any (clash (l[p]?.getD default)) := by rw [bkL_get]; exact near_clash _ _
    have hat : ∀ y ∈ getG (bkL (l.take p)) (l[p]?.getD default).Report, atOk y := fun y hy => by
      rw [bkL_get] at hy
      exact hp.2.2 y (List.mem_filter.1 hy).1
    refine ⟨hlt, fun h1 _ => ⟨by omega, isL_at h1, hat⟩, fun h => ?_, fun h1 h2 h3 => ⟨by omega, by omega, Again.mk (p + 1) ?_ ?_ (by first | omega | (simp; omega))⟩⟩
    · refine goL_bad hp hlt fun e1 e2 => ?_
      rw [← hn]
      rcases h with (h | h) | ⟨y, h4, h5⟩
      · rw [h] at e1; cases e1
      · omega
      · exact List.any_eq_true.2 ⟨y, h4, h5⟩
    · refine okTill_step hp hlt h1 h2 ?_
      rw [← hn]
      exact List.any_eq_false.2 fun y hy => by simp [h3 y hy]
    · simp [hs, lastAt_take hlt]
  · rw [mAreL_goL, hp.2.1, goL_end hge]
    simp; omega
theorem c68_ok : c68.ok Try.prog := mkCon_ok fun l hpre => c68_pc l hpre
/-- loop.example/g03007/spec.AreLetters -/
noncomputable def c66 : Con := mkCon 66 false (α := (List TLetter)) (fun x => (fun (l : List TLetter) => [encLTLetter l]) x) (fun _ => []) (fun x => (fun (l : List TLetter) => l.length ≤ 1073741823) x) (fun x => (fun (l : List TLetter) => (dB (mAreLetters l) : D)) x) (fun x => (fun (l : List TLetter) => []) x)
@[simp] theorem c66_f : c66.f = 66 := rfl
@[simp] theorem c66_own : c66.own = false := rfl
theorem c66_inj : ∀ u_ v_ : (List TLetter), ((fun x => (fun (l : List TLetter) => [encLTLetter l]) x) u_).map nz = ((fun x => (fun (l : List TLetter) => [encLTLetter l]) x) v_).map nz → u_ = v_ := by
  intro u_ v_ h
  obtain l := u_
  obtain l' := v_
  simp [nz_lit, nz1_lit, nz_agg, nz_sl, nz1_sl, encLTLetter] at h
  first | (simp [h]; done) | (obtain ⟨⟩ := h; simp_all; done) | simp_all
@[simp] theorem c66_fn (l : List TLetter) : c66.fn [.sl false 3 yTLetter (ML encTLetter l)] [] = some ((fun (l : List TLetter) => l.length ≤ 1073741823) l, (fun (l : List TLetter) => (dB (mAreLetters l) : D)) l, (fun (l : List TLetter) => []) l) :=
  mkCon_fn (fun x y h _ => c66_inj x y h) (l : (List TLetter)) (by simp [nz, nz1, ML_nil, encLTLetter]) rfl
@[simp] theorem c66_fn1 (s_l : Nat) (z_l : D) : c66.fn [.sl false s_l z_l []] [] = some ((fun (l : List TLetter) => l.length ≤ 1073741823) [], (fun (l : List TLetter) => (dB (mAreLetters l) : D)) [], (fun (l : List TLetter) => []) []) :=
  mkCon_fn (fun x y h _ => c66_inj x y h) ([] : (List TLetter)) (by simp [nz, nz1, ML_nil, encLTLetter]) rfl
theorem c66_pc (l : List TLetter) (hpre : l.length ≤ 1073741823) : PCo Try.prog 66 [encLTLetter l] (Tab.of []) (dB (mAreLetters l)) (Tab.of []) := by
  refine pco_of_run [] (E := ⟨[c95], []⟩) (m := false) (base := 0) (Env.ok_cons c95_ok Env.ok_nil) G_ok mix 300 6 Try.func66 (by kernel_rfl) rfl (by kernel_rfl) (by kernel_rfl) rfl ?_
  simp [Try.f66]
  refine loop_inv (fun p : Nat => okTill l p) (fun p => [(0, encLTLetter l), (3, dI p)]) (fun _ => []) 1 (fun p => l.length - p) 0 400 (by simp) (by simp [okTill]) (by simp) ?_
  intro p hp
  simp
  have hpl := hp.1
  refine ⟨fun hlt => ?_, fun hge => ?_⟩
  · have hla : ∀ (h : 0 < p), lastAt (l.take p) = (l[p - 1]?.getD default).At := fun h => by
      have := lastAt_take (l := l) (p := p - 1) (by omega)
      rwa [show p - 1 + 1 = p by omega] at this
    have hl0 : p = 0 → lastAt (l.take p) = 0 := fun h => by subst h; simp [lastAt]
    refine ⟨hlt, ⟨fun _ _ _ _ => by omega, fun _ _ _ _ => by omega⟩, fun h => ?_, fun h1 h2 h3 h4 => ?_⟩
    · refine goL_bad hp hlt fun e1 e2 => ?_
      exfalso
      simp only [mIsLetter, Bool.and_eq_true] at e1
      obtain ⟨⟨e3, e4⟩, e5⟩ := e1
      rw [e3, e4, e5] at h
      simp at h
      rw [hla h.1] at e2
      omega
    · have e1 : mIsLetter (l[p]?.getD default) = true := by simp [mIsLetter, h1, h2, h3]
      have e2 : lastAt (l.take p) ≤ (l[p]?.getD default).At := by
        by_cases h0 : p = 0
        · rw [hl0 h0]; exact (isL_at e1).1
        · rw [hla (by omega)]; exact h4 (by omega)
      have e3 := isL_at e1
      refine loop_inv (fun k : Nat => k ≤ p ∧ (l.take p).any (clash (l[p]?.getD default)) = ((l.take p).drop k).any (clash (l[p]?.getD default))) (fun k => [(0, encLTLetter l), (3, dI p), (4, .ptr (0, 1) 0), (5, dI k)]) (fun _ => [((0, 1), .box (encTLetter (l[p]?.getD default)))]) 2 (fun k => p - k) 0 400 (by simp) (by simp) (by simp) ?_
      intro k ⟨hk, hj⟩
      simp
      refine ⟨fun hkp => ?_, fun hkp => ?_⟩
      · have hkl : k < (l.take p).length := by simp; omega
        rw [any_at (d := default) hkl, List.getElem?_take_of_lt hkp] at hj
        have hat : atOk (l[k]?.getD default) := by
          refine hp.2.2 _ ?_
          have := getD_mem (d := default) hkl
          rwa [List.getElem?_take_of_lt hkp] at this
        have hsv : clash (l[p]?.getD default) (l[k]?.getD default) = true ↔ (l[k]?.getD default).Report = (l[p]?.getD default).Report ∧ ((l[k]?.getD default).Thing = (l[p]?.getD default).Thing ∨ (l[p]?.getD default).At - (l[k]?.getD default).At < 168) := by
          simp only [clash, reIs, Bool.and_eq_true, Bool.or_eq_true]
          exact ⟨fun h => ⟨of_decide_eq_true h.1, h.2.imp of_decide_eq_true of_decide_eq_true⟩, fun h => ⟨decide_eq_true h.1, h.2.imp decide_eq_true decide_eq_true⟩⟩
        obtain ⟨b1, b2⟩ := e3
        obtain ⟨b3, b4⟩ := hat
        refine ⟨⟨by omega, fun _ => by omega, fun _ _ => by omega, fun _ _ => by omega⟩, fun a b => ?_, fun hno => ⟨by omega, Again.mk (k + 1) ⟨by omega, ?_⟩ (by simp) (by first | omega | (simp; omega))⟩⟩
        · refine goL_bad hp hlt fun _ _ => ?_
          rw [hj, hsv.2 ⟨a, b⟩]; rfl
        · cases hq : clash (l[p]?.getD default) (l[k]?.getD default) with
          | false => rw [hj, hq]; simp
          | true =>
            have := hno (hsv.1 hq).1
            exact absurd (hsv.1 hq).2 (by omega)
      · have hkl : (l.take p).length ≤ k := by simp; omega
        rw [any_end hkl] at hj
        refine ⟨by omega, Again.mk (p + 1) ?_ (by simp) (by first | omega | (simp; omega))⟩
        exact okTill_step hp hlt e1 e2 hj
  · rw [mAreL_goL, hp.2.1, goL_end (by omega)]
    rw [Bool.eq_iff_iff]; simp; omega
theorem c66_ok : c66.ok Try.prog := mkCon_ok fun l hpre => c66_pc l hpre
theorem mAreL_snoc (l : List TLetter) (x : TLetter) (h : mAreLetters (l ++ [x]) = true) : mAreLetters l = true := by
  simp only [mAreLetters, Bool.and_eq_true, decide_eq_true_eq, letB_app, List.length_append, List.length_singleton] at h ⊢
  exact ⟨by omega, h.2.1⟩
def mWrite (l : List TLetter) (x : TLetter) : List TLetter := if mAreLetters (l ++ [x]) then l ++ [x] else l
theorem mWrite_yes {l : List TLetter} {x : TLetter} (h : mAreLetters (l ++ [x]) = true) : mWrite l x = l ++ [x] := by simp [mWrite, h]
theorem mWrite_no {l : List TLetter} {x : TLetter} (h : mAreLetters (l ++ [x]) = false) : mWrite l x = l := by simp [mWrite, h]
theorem mWrite_len (l : List TLetter) (x : TLetter) : (mWrite l x).length ≤ l.length + 1 := by
  simp only [mWrite]; split <;> simp
/-- loop.example/g03007/laws.FnExactAreLetters -/
theorem law15 (l : List TLetter) (wl : wfLTLetter l) : PCo Try.prog 15 [encLTLetter l] (Tab.of []) (dB true) (Tab.of []) := by
  refine pco_of_run [] (E := ⟨[c65, c66, c67, c68, c69], []⟩) (m := false) (base := 0) (Env.ok_cons c65_ok (Env.ok_cons c66_ok (Env.ok_cons c67_ok (Env.ok_cons c68_ok (Env.ok_cons c69_ok Env.ok_nil))))) G_ok mix 400 6 Try.func15 (by kernel_rfl) rfl (by kernel_rfl) (by kernel_rfl) rfl ?_
  simp (config := {maxSteps := 3000000}) [Try.f15]
  have h_l : l.length ≤ maxLen := wl.1
  repeat' (first | omega | assumption | refine And.intro ?_ ?_ | intro _)
  all_goals first | omega | grind | (split at * <;> omega)
theorem law15_pc (D0 : D) (h0 : Sh G 9 68 D0) : PC Try.prog 15 [D0] (dB true) [] := by
  obtain ⟨l, rfl, wl⟩ := sh68 (n := 6) h0
  exact law15 l wl

end Go.Proofs.Ytadbjlnfdjbbjaa
