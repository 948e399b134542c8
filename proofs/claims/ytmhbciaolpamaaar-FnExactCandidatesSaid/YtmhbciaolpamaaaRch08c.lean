/- Contracts of the functions that the laws run. -/
import Derived.Test.YtmhbciaolpamaaaRch08
import Derived.Test.YtmhbciaolpamaaaRch06
import Derived.Test.YtmhbciaolpamaaaRhelpA
import Derived.Test.YtmhbciaolpamaaaREngB
namespace Go.Proofs.YtmhbciaolpamaaaR
open Go Go.Eng
set_option linter.unusedSimpArgs false
set_option linter.unusedVariables false
set_option maxRecDepth 10000
set_option maxHeartbeats 1000000
def mCand (r : TReport) (l : List TFind) : List Int := if mAreFinds l then pick (mCanBe r) nFind l else []
/-- loop.example/g03007/impl.Candidates$1 -/
noncomputable def c124 : Con := mkCon 124 false (α := TFind × TReport) (fun x => (fun (f : TFind) (r : TReport) => ([encTFind f, .el (encTReport r)] : List D)) x.1 x.2) (fun x => (fun (f : TFind) (r : TReport) => ([] : List (Nm × OO))) x.1 x.2) (fun x => (fun (f : TFind) (r : TReport) => smR r) x.1 x.2) (fun x => (fun (f : TFind) (r : TReport) => (dB (mCanBe r f) : D)) x.1 x.2) (fun x => (fun (f : TFind) (r : TReport) => ([] : List (Nm × OO))) x.1 x.2)
@[simp] theorem c124_f : c124.f = 124 := rfl
@[simp] theorem c124_own : c124.own = false := rfl
theorem c124_inj : ∀ u_ v_ : TFind × TReport, ((fun x => (fun (f : TFind) (r : TReport) => ([encTFind f, .el (encTReport r)] : List D)) x.1 x.2) u_).map nz = ((fun x => (fun (f : TFind) (r : TReport) => ([encTFind f, .el (encTReport r)] : List D)) x.1 x.2) v_).map nz → (fun x => (fun (f : TFind) (r : TReport) => ([] : List (Nm × OO))) x.1 x.2) u_ = (fun x => (fun (f : TFind) (r : TReport) => ([] : List (Nm × OO))) x.1 x.2) v_ → u_ = v_ := by
  intro u_ v_ h h2_
  obtain ⟨⟨⟨f_Thing_Id, f_Thing_Kind, f_Thing_Colour, f_Thing_Size, f_Thing_Worth⟩, f_Place, f_At, f_Finder⟩, ⟨r_Id, r_Kind, r_Colours, r_SizeLow, r_SizeHigh, r_Places, ⟨r_Span_From, r_Span_Until⟩⟩⟩ := u_
  obtain ⟨⟨⟨f_Thing_Id', f_Thing_Kind', f_Thing_Colour', f_Thing_Size', f_Thing_Worth'⟩, f_Place', f_At', f_Finder'⟩, ⟨r_Id', r_Kind', r_Colours', r_SizeLow', r_SizeHigh', r_Places', ⟨r_Span_From', r_Span_Until'⟩⟩⟩ := v_
  simp [nz_lit, nz1_lit, nz_agg, nz_sl, nz1_sl, nz_sx, nz_el, nz1_el, nz_own, nz1_own, nz_ptr, nz_fn, nz_iface] at h h2_
  first | (simp [h, h2_]; done) | (obtain ⟨h3_, h4_⟩ := List.append_inj h2_ h.1; simp_all; done) | simp_all | grind
@[simp] theorem c124_fn (f_Thing_Id : Int) (f_Thing_Kind : Int) (f_Thing_Colour : Int) (f_Thing_Size : Int) (f_Thing_Worth : Int) (f_Place : Int) (f_At : Int) (f_Finder : Int) (r_Id : Int) (r_Kind : Int) (r_Colours : List Int) (r_SizeLow : Int) (r_SizeHigh : Int) (r_Places : List Int) (r_Span_From : Int) (r_Span_Until : Int) : c124.fn ([.agg [.lit (.int .i64 f_Thing_Id), .lit (.int .i64 f_Thing_Kind), .lit (.int .i64 f_Thing_Colour), .lit (.int .i64 f_Thing_Size), .lit (.int .i64 f_Thing_Worth), .lit (.int .i64 f_Place), .lit (.int .i64 f_At), .lit (.int .i64 f_Finder)], .el (.agg [.lit (.int .i64 r_Id), .lit (.int .i64 r_Kind), .sl false 1 (.lit (.int .i64 0)) (ML dI r_Colours), .lit (.int .i64 r_SizeLow), .lit (.int .i64 r_SizeHigh), .sl false 1 (.lit (.int .i64 0)) (ML dI r_Places), .lit (.int .i64 r_Span_From), .lit (.int .i64 r_Span_Until)])]) ([]) = some (smR (⟨r_Id, r_Kind, r_Colours, r_SizeLow, r_SizeHigh, r_Places, ⟨r_Span_From, r_Span_Until⟩⟩ : TReport), dB (mCanBe (⟨r_Id, r_Kind, r_Colours, r_SizeLow, r_SizeHigh, r_Places, ⟨r_Span_From, r_Span_Until⟩⟩ : TReport) (⟨⟨f_Thing_Id, f_Thing_Kind, f_Thing_Colour, f_Thing_Size, f_Thing_Worth⟩, f_Place, f_At, f_Finder⟩ : TFind)), []) :=
  mkCon_fn c124_inj ((⟨⟨f_Thing_Id, f_Thing_Kind, f_Thing_Colour, f_Thing_Size, f_Thing_Worth⟩, f_Place, f_At, f_Finder⟩, ⟨r_Id, r_Kind, r_Colours, r_SizeLow, r_SizeHigh, r_Places, ⟨r_Span_From, r_Span_Until⟩⟩) : TFind × TReport) rfl rfl
theorem c124_pc (f : TFind) (r : TReport) (hpre : smR r) : PCo Try.prog 124 ([encTFind f, .el (encTReport r)]) (Tab.of ([])) (dB (mCanBe r f)) (Tab.of ([])) := by
  refine pco_of_run [] (E := ⟨[c125], []⟩) (m := false) (base := 0) (Env.ok_cons c125_ok Env.ok_nil) G_ok mix 300 6 Try.func124 (by kernel_rfl) rfl (by kernel_rfl) (by kernel_rfl) rfl ?_
  simp [Try.f124]
  simp at hpre
  exact hpre
theorem c124_ok : c124.ok Try.prog := mkCon_ok fun ⟨f, r⟩ hpre => c124_pc f r hpre
/-- (loop.example/g03007/impl.sortedList[loop.example/g03007/impl.Find]).numbersWhere -/
noncomputable def c123 : Con := mkCon 123 false (α := (List TFind) × TReport) (fun x => (fun (l : List TFind) (r : TReport) => ([.agg [encLTFind l, .fn (.func 198) [] []], .fn (.func 124) [] [.el (encTReport r)]] : List D)) x.1 x.2) (fun x => (fun (l : List TFind) (r : TReport) => ([] : List (Nm × OO))) x.1 x.2) (fun x => (fun (l : List TFind) (r : TReport) => l.length ≤ 1073741823 ∧ smR r) x.1 x.2) (fun x => (fun (l : List TFind) (r : TReport) => (.own (0, 1) 1 0 (pick (mCanBe r) nFind l).length : D)) x.1 x.2) (fun x => (fun (l : List TFind) (r : TReport) => ([((0, 1), .arr false 1 (dI 0) (ML dI (pick (mCanBe r) nFind l)))] : List (Nm × OO))) x.1 x.2)
@[simp] theorem c123_f : c123.f = 123 := rfl
@[simp] theorem c123_own : c123.own = false := rfl
theorem c123_inj : ∀ u_ v_ : (List TFind) × TReport, ((fun x => (fun (l : List TFind) (r : TReport) => ([.agg [encLTFind l, .fn (.func 198) [] []], .fn (.func 124) [] [.el (encTReport r)]] : List D)) x.1 x.2) u_).map nz = ((fun x => (fun (l : List TFind) (r : TReport) => ([.agg [encLTFind l, .fn (.func 198) [] []], .fn (.func 124) [] [.el (encTReport r)]] : List D)) x.1 x.2) v_).map nz → (fun x => (fun (l : List TFind) (r : TReport) => ([] : List (Nm × OO))) x.1 x.2) u_ = (fun x => (fun (l : List TFind) (r : TReport) => ([] : List (Nm × OO))) x.1 x.2) v_ → u_ = v_ := by
  intro u_ v_ h h2_
  obtain ⟨l, ⟨r_Id, r_Kind, r_Colours, r_SizeLow, r_SizeHigh, r_Places, ⟨r_Span_From, r_Span_Until⟩⟩⟩ := u_
  obtain ⟨l', ⟨r_Id', r_Kind', r_Colours', r_SizeLow', r_SizeHigh', r_Places', ⟨r_Span_From', r_Span_Until'⟩⟩⟩ := v_
  simp [nz_lit, nz1_lit, nz_agg, nz_sl, nz1_sl, nz_sx, nz_el, nz1_el, nz_own, nz1_own, nz_ptr, nz_fn, nz_iface] at h h2_
  first | (simp [h, h2_]; done) | (obtain ⟨h3_, h4_⟩ := List.append_inj h2_ h.1; simp_all; done) | simp_all | grind
@[simp] theorem c123_fn (l : List TFind) (r_Id : Int) (r_Kind : Int) (r_Colours : List Int) (r_SizeLow : Int) (r_SizeHigh : Int) (r_Places : List Int) (r_Span_From : Int) (r_Span_Until : Int) : c123.fn ([.agg [(.sl false 8 yTFind (ML encTFind l)), .fn (.func 198) [] []], .fn (.func 124) [] [.el (.agg [.lit (.int .i64 r_Id), .lit (.int .i64 r_Kind), .sl false 1 (.lit (.int .i64 0)) (ML dI r_Colours), .lit (.int .i64 r_SizeLow), .lit (.int .i64 r_SizeHigh), .sl false 1 (.lit (.int .i64 0)) (ML dI r_Places), .lit (.int .i64 r_Span_From), .lit (.int .i64 r_Span_Until)])]]) ([]) = some (l.length ≤ 1073741823 ∧ smR (⟨r_Id, r_Kind, r_Colours, r_SizeLow, r_SizeHigh, r_Places, ⟨r_Span_From, r_Span_Until⟩⟩ : TReport), .own (0, 1) 1 0 (pick (mCanBe (⟨r_Id, r_Kind, r_Colours, r_SizeLow, r_SizeHigh, r_Places, ⟨r_Span_From, r_Span_Until⟩⟩ : TReport)) nFind l).length, [((0, 1), .arr false 1 (dI 0) (ML dI (pick (mCanBe (⟨r_Id, r_Kind, r_Colours, r_SizeLow, r_SizeHigh, r_Places, ⟨r_Span_From, r_Span_Until⟩⟩ : TReport)) nFind l)))]) :=
  mkCon_fn c123_inj ((l, ⟨r_Id, r_Kind, r_Colours, r_SizeLow, r_SizeHigh, r_Places, ⟨r_Span_From, r_Span_Until⟩⟩) : (List TFind) × TReport) rfl rfl
theorem c123_pc (l : List TFind) (r : TReport) (hpre : l.length ≤ 1073741823 ∧ smR r) : PCo Try.prog 123 ([.agg [encLTFind l, .fn (.func 198) [] []], .fn (.func 124) [] [.el (encTReport r)]]) (Tab.of ([])) (.own (0, 1) 1 0 (pick (mCanBe r) nFind l).length) (Tab.of ([((0, 1), .arr false 1 (dI 0) (ML dI (pick (mCanBe r) nFind l)))])) := by
  refine pco_of_run [] (E := ⟨[c124, c198], []⟩) (m := false) (base := 0) (Env.ok_cons c124_ok (Env.ok_cons c198_ok Env.ok_nil)) G_ok mix 300 6 Try.func123 (by kernel_rfl) rfl (by kernel_rfl) (by kernel_rfl) rfl ?_
  simp [Try.f123]
  obtain ⟨hpl, hpr⟩ := hpre
  simp at hpr
  refine loop_inv (fun p : Nat => p ≤ l.length) (fun p => [(1, .fn (.func 124) [] [.el (encTReport r)]), (2, .ptr (0, 1) 0), (5, .own (1, 1) 1 0 (pick (mCanBe r) nFind (l.take p)).length), (10, encLTFind l), (11, dI l.length), (12, dI p)]) (fun p => [((0, 1), .box (.agg [encLTFind l, .fn (.func 198) [] []])), ((1, 1), .arr false 1 (dI 0) (ML dI (pick (mCanBe r) nFind (l.take p))))]) 2 (fun p => l.length - p) 0 400 (by simp) (by simp) (by simp) ?_
  intro p hp
  simp
  refine ⟨fun hlt => ?_, fun hge => ?_⟩
  · have hs := pick_at (want := mCanBe r) (f := nFind) (d := default) hlt
    have hb := pick_take_len (want := mCanBe r) (f := nFind) l p
    have hsT : mCanBe r (l[p]?.getD default) = true → pick (mCanBe r) nFind (l.take (p + 1)) = pick (mCanBe r) nFind (l.take p) ++ [nFind (l[p]?.getD default)] := fun h => by rw [hs, if_pos h]
    have hsF : mCanBe r (l[p]?.getD default) = false → pick (mCanBe r) nFind (l.take (p + 1)) = pick (mCanBe r) nFind (l.take p) := fun h => by rw [hs, if_neg (by simp [h]), List.append_nil]
    repeat' (first | omega | refine And.intro ?_ ?_ | intro _)
    all_goals first | (have hw := hsT (by assumption); exact Again.mk (p + 1) (by omega) (by simp [hw]) (by first | omega | (simp; omega))) | (have hw := hsF (by assumption); exact Again.mk (p + 1) (by omega) (by simp [hw]) (by first | omega | (simp; omega)))
  · rw [List.take_of_length_le hge]; simp
theorem c123_ok : c123.ok Try.prog := mkCon_ok fun ⟨l, r⟩ hpre => c123_pc l r hpre
/-- loop.example/g03007/impl.Candidates -/
noncomputable def c50 : Con := mkCon 50 false (α := TReport × (List TFind)) (fun x => (fun (r : TReport) (l : List TFind) => [encTReport r, encLTFind l]) x.1 x.2) (fun _ => []) (fun x => (fun (r : TReport) (l : List TFind) => l.length ≤ 1073741823 ∧ smR r) x.1 x.2) (fun x => (fun (r : TReport) (l : List TFind) => (.own (0, 1) 1 0 (mCand r l).length : D)) x.1 x.2) (fun x => (fun (r : TReport) (l : List TFind) => [((0, 1), .arr false 1 (dI 0) (ML dI (mCand r l)))]) x.1 x.2)
@[simp] theorem c50_f : c50.f = 50 := rfl
@[simp] theorem c50_own : c50.own = false := rfl
theorem c50_inj : ∀ u_ v_ : TReport × (List TFind), ((fun x => (fun (r : TReport) (l : List TFind) => [encTReport r, encLTFind l]) x.1 x.2) u_).map nz = ((fun x => (fun (r : TReport) (l : List TFind) => [encTReport r, encLTFind l]) x.1 x.2) v_).map nz → u_ = v_ := by
  intro u_ v_ h
  obtain ⟨⟨r_Id, r_Kind, r_Colours, r_SizeLow, r_SizeHigh, r_Places, ⟨r_Span_From, r_Span_Until⟩⟩, l⟩ := u_
  obtain ⟨⟨r_Id', r_Kind', r_Colours', r_SizeLow', r_SizeHigh', r_Places', ⟨r_Span_From', r_Span_Until'⟩⟩, l'⟩ := v_
  simp [nz_lit, nz1_lit, nz_agg, nz_sl, nz1_sl, encLI, encLTFind, encTReport, encTSpan] at h
  first | (simp [h]; done) | (obtain ⟨⟩ := h; simp_all; done) | simp_all
@[simp] theorem c50_fn (r_Id : Int) (r_Kind : Int) (r_Colours : List Int) (r_SizeLow : Int) (r_SizeHigh : Int) (r_Places : List Int) (r_Span_From : Int) (r_Span_Until : Int) (l : List TFind) : c50.fn [.agg [.lit (.int .i64 r_Id), .lit (.int .i64 r_Kind), .sl false 1 (.lit (.int .i64 0)) (ML dI r_Colours), .lit (.int .i64 r_SizeLow), .lit (.int .i64 r_SizeHigh), .sl false 1 (.lit (.int .i64 0)) (ML dI r_Places), .lit (.int .i64 r_Span_From), .lit (.int .i64 r_Span_Until)], .sl false 8 yTFind (ML encTFind l)] [] = some ((fun (r : TReport) (l : List TFind) => l.length ≤ 1073741823 ∧ smR r) ⟨r_Id, r_Kind, r_Colours, r_SizeLow, r_SizeHigh, r_Places, ⟨r_Span_From, r_Span_Until⟩⟩ l, (fun (r : TReport) (l : List TFind) => (.own (0, 1) 1 0 (mCand r l).length : D)) ⟨r_Id, r_Kind, r_Colours, r_SizeLow, r_SizeHigh, r_Places, ⟨r_Span_From, r_Span_Until⟩⟩ l, (fun (r : TReport) (l : List TFind) => [((0, 1), .arr false 1 (dI 0) (ML dI (mCand r l)))]) ⟨r_Id, r_Kind, r_Colours, r_SizeLow, r_SizeHigh, r_Places, ⟨r_Span_From, r_Span_Until⟩⟩ l) :=
  mkCon_fn (fun x y h _ => c50_inj x y h) ((⟨r_Id, r_Kind, r_Colours, r_SizeLow, r_SizeHigh, r_Places, ⟨r_Span_From, r_Span_Until⟩⟩, l) : TReport × (List TFind)) (by simp [nz, nz1, ML_nil, encLI, encLTFind, encTReport, encTSpan]) rfl
@[simp] theorem c50_fn1 (r_Id : Int) (r_Kind : Int) (r_Colours : List Int) (r_SizeLow : Int) (r_SizeHigh : Int) (r_Places : List Int) (r_Span_From : Int) (r_Span_Until : Int) (s_l : Nat) (z_l : D) : c50.fn [.agg [.lit (.int .i64 r_Id), .lit (.int .i64 r_Kind), .sl false 1 (.lit (.int .i64 0)) (ML dI r_Colours), .lit (.int .i64 r_SizeLow), .lit (.int .i64 r_SizeHigh), .sl false 1 (.lit (.int .i64 0)) (ML dI r_Places), .lit (.int .i64 r_Span_From), .lit (.int .i64 r_Span_Until)], .sl false s_l z_l []] [] = some ((fun (r : TReport) (l : List TFind) => l.length ≤ 1073741823 ∧ smR r) ⟨r_Id, r_Kind, r_Colours, r_SizeLow, r_SizeHigh, r_Places, ⟨r_Span_From, r_Span_Until⟩⟩ [], (fun (r : TReport) (l : List TFind) => (.own (0, 1) 1 0 (mCand r l).length : D)) ⟨r_Id, r_Kind, r_Colours, r_SizeLow, r_SizeHigh, r_Places, ⟨r_Span_From, r_Span_Until⟩⟩ [], (fun (r : TReport) (l : List TFind) => [((0, 1), .arr false 1 (dI 0) (ML dI (mCand r l)))]) ⟨r_Id, r_Kind, r_Colours, r_SizeLow, r_SizeHigh, r_Places, ⟨r_Span_From, r_Span_Until⟩⟩ []) :=
  mkCon_fn (fun x y h _ => c50_inj x y h) ((⟨r_Id, r_Kind, r_Colours, r_SizeLow, r_SizeHigh, r_Places, ⟨r_Span_From, r_Span_Until⟩⟩, []) : TReport × (List TFind)) (by simp [nz, nz1, ML_nil, encLI, encLTFind, encTReport, encTSpan]) rfl
theorem c50_pc (r : TReport) (l : List TFind) (hpre : l.length ≤ 1073741823 ∧ smR r) : PCo Try.prog 50 [encTReport r, encLTFind l] (Tab.of []) (.own (0, 1) 1 0 (mCand r l).length) (Tab.of [((0, 1), .arr false 1 (dI 0) (ML dI (mCand r l)))]) := by
  refine pco_of_run [] (E := ⟨[c121, c122, c123, c124], []⟩) (m := false) (base := 0) (Env.ok_cons c121_ok (Env.ok_cons c122_ok (Env.ok_cons c123_ok (Env.ok_cons c124_ok Env.ok_nil)))) G_ok mix 300 6 Try.func50 (by kernel_rfl) rfl (by kernel_rfl) (by kernel_rfl) rfl ?_
  simp [Try.f50]
  obtain ⟨hpl, hpr⟩ := hpre
  simp at hpr
  refine ⟨by omega, fun h => by simp [mCand, h], fun h => ⟨⟨hpl, hpr⟩, by simp [mCand, h]⟩⟩
theorem c50_ok : c50.ok Try.prog := mkCon_ok fun ⟨r, l⟩ hpre => c50_pc r l hpre
/-- loop.example/g03007/spec.Candidates -/
noncomputable def c48 : Con := mkCon 48 false (α := TReport × (List TFind)) (fun x => (fun (r : TReport) (l : List TFind) => [encTReport r, encLTFind l]) x.1 x.2) (fun _ => []) (fun x => (fun (r : TReport) (l : List TFind) => l.length ≤ 1073741823 ∧ smR r) x.1 x.2) (fun x => (fun (r : TReport) (l : List TFind) => (.own (0, 1) 1 0 (mCand r l).length : D)) x.1 x.2) (fun x => (fun (r : TReport) (l : List TFind) => [((0, 1), .arr false 1 (dI 0) (ML dI (mCand r l)))]) x.1 x.2)
@[simp] theorem c48_f : c48.f = 48 := rfl
@[simp] theorem c48_own : c48.own = false := rfl
theorem c48_inj : ∀ u_ v_ : TReport × (List TFind), ((fun x => (fun (r : TReport) (l : List TFind) => [encTReport r, encLTFind l]) x.1 x.2) u_).map nz = ((fun x => (fun (r : TReport) (l : List TFind) => [encTReport r, encLTFind l]) x.1 x.2) v_).map nz → u_ = v_ := by
  intro u_ v_ h
  obtain ⟨⟨r_Id, r_Kind, r_Colours, r_SizeLow, r_SizeHigh, r_Places, ⟨r_Span_From, r_Span_Until⟩⟩, l⟩ := u_
  obtain ⟨⟨r_Id', r_Kind', r_Colours', r_SizeLow', r_SizeHigh', r_Places', ⟨r_Span_From', r_Span_Until'⟩⟩, l'⟩ := v_
  simp [nz_lit, nz1_lit, nz_agg, nz_sl, nz1_sl, encLI, encLTFind, encTReport, encTSpan] at h
  first | (simp [h]; done) | (obtain ⟨⟩ := h; simp_all; done) | simp_all
@[simp] theorem c48_fn (r_Id : Int) (r_Kind : Int) (r_Colours : List Int) (r_SizeLow : Int) (r_SizeHigh : Int) (r_Places : List Int) (r_Span_From : Int) (r_Span_Until : Int) (l : List TFind) : c48.fn [.agg [.lit (.int .i64 r_Id), .lit (.int .i64 r_Kind), .sl false 1 (.lit (.int .i64 0)) (ML dI r_Colours), .lit (.int .i64 r_SizeLow), .lit (.int .i64 r_SizeHigh), .sl false 1 (.lit (.int .i64 0)) (ML dI r_Places), .lit (.int .i64 r_Span_From), .lit (.int .i64 r_Span_Until)], .sl false 8 yTFind (ML encTFind l)] [] = some ((fun (r : TReport) (l : List TFind) => l.length ≤ 1073741823 ∧ smR r) ⟨r_Id, r_Kind, r_Colours, r_SizeLow, r_SizeHigh, r_Places, ⟨r_Span_From, r_Span_Until⟩⟩ l, (fun (r : TReport) (l : List TFind) => (.own (0, 1) 1 0 (mCand r l).length : D)) ⟨r_Id, r_Kind, r_Colours, r_SizeLow, r_SizeHigh, r_Places, ⟨r_Span_From, r_Span_Until⟩⟩ l, (fun (r : TReport) (l : List TFind) => [((0, 1), .arr false 1 (dI 0) (ML dI (mCand r l)))]) ⟨r_Id, r_Kind, r_Colours, r_SizeLow, r_SizeHigh, r_Places, ⟨r_Span_From, r_Span_Until⟩⟩ l) :=
  mkCon_fn (fun x y h _ => c48_inj x y h) ((⟨r_Id, r_Kind, r_Colours, r_SizeLow, r_SizeHigh, r_Places, ⟨r_Span_From, r_Span_Until⟩⟩, l) : TReport × (List TFind)) (by simp [nz, nz1, ML_nil, encLI, encLTFind, encTReport, encTSpan]) rfl
@[simp] theorem c48_fn1 (r_Id : Int) (r_Kind : Int) (r_Colours : List Int) (r_SizeLow : Int) (r_SizeHigh : Int) (r_Places : List Int) (r_Span_From : Int) (r_Span_Until : Int) (s_l : Nat) (z_l : D) : c48.fn [.agg [.lit (.int .i64 r_Id), .lit (.int .i64 r_Kind), .sl false 1 (.lit (.int .i64 0)) (ML dI r_Colours), .lit (.int .i64 r_SizeLow), .lit (.int .i64 r_SizeHigh), .sl false 1 (.lit (.int .i64 0)) (ML dI r_Places), .lit (.int .i64 r_Span_From), .lit (.int .i64 r_Span_Until)], .sl false s_l z_l []] [] = some ((fun (r : TReport) (l : List TFind) => l.length ≤ 1073741823 ∧ smR r) ⟨r_Id, r_Kind, r_Colours, r_SizeLow, r_SizeHigh, r_Places, ⟨r_Span_From, r_Span_Until⟩⟩ [], (fun (r : TReport) (l : List TFind) => (.own (0, 1) 1 0 (mCand r l).length : D)) ⟨r_Id, r_Kind, r_Colours, r_SizeLow, r_SizeHigh, r_Places, ⟨r_Span_From, r_Span_Until⟩⟩ [], (fun (r : TReport) (l : List TFind) => [((0, 1), .arr false 1 (dI 0) (ML dI (mCand r l)))]) ⟨r_Id, r_Kind, r_Colours, r_SizeLow, r_SizeHigh, r_Places, ⟨r_Span_From, r_Span_Until⟩⟩ []) :=
  mkCon_fn (fun x y h _ => c48_inj x y h) ((⟨r_Id, r_Kind, r_Colours, r_SizeLow, r_SizeHigh, r_Places, ⟨r_Span_From, r_Span_Until⟩⟩, []) : TReport × (List TFind)) (by simp [nz, nz1, ML_nil, encLI, encLTFind, encTReport, encTSpan]) rfl
theorem c48_pc (r : TReport) (l : List TFind) (hpre : l.length ≤ 1073741823 ∧ smR r) : PCo Try.prog 48 [encTReport r, encLTFind l] (Tab.of []) (.own (0, 1) 1 0 (mCand r l).length) (Tab.of [((0, 1), .arr false 1 (dI 0) (ML dI (mCand r l)))]) := by
  refine pco_of_run [] (E := ⟨[c119, c120], []⟩) (m := false) (base := 0) (Env.ok_cons c119_ok (Env.ok_cons c120_ok Env.ok_nil)) G_ok mix 300 6 Try.func48 (by kernel_rfl) rfl (by kernel_rfl) (by kernel_rfl) rfl ?_
  simp [Try.f48]
  obtain ⟨hpl, hpr⟩ := hpre
  simp at hpr
  refine loop_inv (fun p : Nat => p ≤ l.length ∧ (0 < p → mAreFinds l = true)) (fun p => [(1, encLTFind l), (2, .ptr (0, 1) 0), (5, .own (1, 1) 1 0 (pick (mCanBe r) nFind (l.take p)).length), (6, dI p)]) (fun p => [((0, 1), .box (encTReport r)), ((1, 1), .arr false 1 (dI 0) (ML dI (pick (mCanBe r) nFind (l.take p))))]) 2 (fun p => l.length - p) 0 400 (by simp) (by simp) (by simp) ?_
  intro p ⟨hp, hi⟩
  simp
  refine ⟨fun _ => by omega, fun hlt ha => ⟨⟨hlt, hpr⟩, fun hc => ?_, fun hc => ?_⟩, fun hend => ?_⟩
  · have hs := pick_at (want := mCanBe r) (f := nFind) (d := default) hlt
    have hb := pick_take_len (want := mCanBe r) (f := nFind) l p
    have hw : pick (mCanBe r) nFind (l.take (p + 1)) = pick (mCanBe r) nFind (l.take p) ++ [nFind (l[p]?.getD default)] := by rw [hs, if_pos hc]
    refine ⟨⟨hlt, by omega⟩, by omega, ?_⟩
    exact Again.mk (p + 1) ⟨by omega, fun _ => ha⟩ (by simp [hw]) (by first | omega | (simp; omega))
  · have hs := pick_at (want := mCanBe r) (f := nFind) (d := default) hlt
    have hw : pick (mCanBe r) nFind (l.take (p + 1)) = pick (mCanBe r) nFind (l.take p) := by rw [hs, if_neg (by simp [hc]), List.append_nil]
    refine ⟨by omega, ?_⟩
    exact Again.mk (p + 1) ⟨by omega, fun _ => ha⟩ (by simp [hw]) (by first | omega | (simp; omega))
  · have e : pick (mCanBe r) nFind (l.take p) = mCand r l := by
      by_cases h0 : p = 0
      · subst h0
        by_cases hl : l = []
        · subst hl; simp [mCand, pick]
        · have := hend (List.length_pos_iff.2 hl)
          simp [mCand, this, pick]
      · have ha := hi (by omega)
        have hge : l.length ≤ p := by
          refine Nat.le_of_not_lt fun hlt => ?_
          rw [hend hlt] at ha
          cases ha
        rw [List.take_of_length_le hge]; simp [mCand, ha]
    rw [e]; simp
theorem c48_ok : c48.ok Try.prog := mkCon_ok fun ⟨r, l⟩ hpre => c48_pc r l hpre
/-- loop.example/g03007/laws.toReport -/
noncomputable def c41f : Con := mkCon 41 false (α := TReport) (fun x => (fun (r : TReport) => [encTReport r]) x) (fun _ => []) (fun x => (fun (r : TReport) => smR r) x) (fun x => (fun (r : TReport) => (.agg [dI r.Id, dI r.Kind, .own (0, 1) 1 0 r.Colours.length, dI r.SizeLow, dI r.SizeHigh, .own (1, 1) 1 0 r.Places.length, dI r.Span.From, dI r.Span.Until] : D)) x) (fun x => (fun (r : TReport) => [((0, 1), .arr false 1 (dI 0) (ML dI r.Colours)), ((1, 1), .arr false 1 (dI 0) (ML dI r.Places))]) x)
@[simp] theorem c41f_f : c41f.f = 41 := rfl
@[simp] theorem c41f_own : c41f.own = false := rfl
theorem c41f_inj : ∀ u_ v_ : TReport, ((fun x => (fun (r : TReport) => [encTReport r]) x) u_).map nz = ((fun x => (fun (r : TReport) => [encTReport r]) x) v_).map nz → u_ = v_ := by
  intro u_ v_ h
  obtain ⟨r_Id, r_Kind, r_Colours, r_SizeLow, r_SizeHigh, r_Places, ⟨r_Span_From, r_Span_Until⟩⟩ := u_
  obtain ⟨r_Id', r_Kind', r_Colours', r_SizeLow', r_SizeHigh', r_Places', ⟨r_Span_From', r_Span_Until'⟩⟩ := v_
  simp [nz_lit, nz1_lit, nz_agg, nz_sl, nz1_sl, encLI, encTReport, encTSpan] at h
  first | (simp [h]; done) | (obtain ⟨⟩ := h; simp_all; done) | simp_all
@[simp] theorem c41f_fn (r_Id : Int) (r_Kind : Int) (r_Colours : List Int) (r_SizeLow : Int) (r_SizeHigh : Int) (r_Places : List Int) (r_Span_From : Int) (r_Span_Until : Int) : c41f.fn [.agg [.lit (.int .i64 r_Id), .lit (.int .i64 r_Kind), .sl false 1 (.lit (.int .i64 0)) (ML dI r_Colours), .lit (.int .i64 r_SizeLow), .lit (.int .i64 r_SizeHigh), .sl false 1 (.lit (.int .i64 0)) (ML dI r_Places), .lit (.int .i64 r_Span_From), .lit (.int .i64 r_Span_Until)]] [] = some ((fun (r : TReport) => smR r) ⟨r_Id, r_Kind, r_Colours, r_SizeLow, r_SizeHigh, r_Places, ⟨r_Span_From, r_Span_Until⟩⟩, (fun (r : TReport) => (.agg [dI r.Id, dI r.Kind, .own (0, 1) 1 0 r.Colours.length, dI r.SizeLow, dI r.SizeHigh, .own (1, 1) 1 0 r.Places.length, dI r.Span.From, dI r.Span.Until] : D)) ⟨r_Id, r_Kind, r_Colours, r_SizeLow, r_SizeHigh, r_Places, ⟨r_Span_From, r_Span_Until⟩⟩, (fun (r : TReport) => [((0, 1), .arr false 1 (dI 0) (ML dI r.Colours)), ((1, 1), .arr false 1 (dI 0) (ML dI r.Places))]) ⟨r_Id, r_Kind, r_Colours, r_SizeLow, r_SizeHigh, r_Places, ⟨r_Span_From, r_Span_Until⟩⟩) :=
  mkCon_fn (fun x y h _ => c41f_inj x y h) (⟨r_Id, r_Kind, r_Colours, r_SizeLow, r_SizeHigh, r_Places, ⟨r_Span_From, r_Span_Until⟩⟩ : TReport) (by simp [nz, nz1, ML_nil, encLI, encTReport, encTSpan]) rfl
theorem c41f_pc (r : TReport) (hpre : smR r) : PCo Try.prog 41 [encTReport r] (Tab.of []) (.agg [dI r.Id, dI r.Kind, .own (0, 1) 1 0 r.Colours.length, dI r.SizeLow, dI r.SizeHigh, .own (1, 1) 1 0 r.Places.length, dI r.Span.From, dI r.Span.Until]) (Tab.of [((0, 1), .arr false 1 (dI 0) (ML dI r.Colours)), ((1, 1), .arr false 1 (dI 0) (ML dI r.Places))]) := by
  obtain ⟨r_Id, r_Kind, r_Colours, r_SizeLow, r_SizeHigh, r_Places, ⟨r_Span_From, r_Span_Until⟩⟩ := r
  refine pco_of_run [] (E := ⟨[c69, c115], []⟩) (m := false) (base := 0) (Env.ok_cons c69_ok (Env.ok_cons c115_ok Env.ok_nil)) G_ok mix 300 6 Try.func41 (by kernel_rfl) rfl (by kernel_rfl) (by kernel_rfl) rfl ?_
  simp [Try.f41]
  simp at hpre
  exact hpre
theorem c41f_ok : c41f.ok Try.prog := mkCon_ok fun r hpre => c41f_pc r hpre
/-- loop.example/g03007/laws.markReport -/
noncomputable def c45 : Con := mkCon 45 true (α := TReport × Int) (fun x => (fun (r : TReport) (k : Int) => ([.agg [dI r.Id, dI r.Kind, .own (0, 0) 1 0 r.Colours.length, dI r.SizeLow, dI r.SizeHigh, .own (1, 0) 1 0 r.Places.length, dI r.Span.From, dI r.Span.Until], dI k] : List D)) x.1 x.2) (fun x => (fun (r : TReport) (k : Int) => ([((0, 0), .arr false 1 (dI 0) (ML dI r.Colours)), ((1, 0), .arr false 1 (dI 0) (ML dI r.Places))] : List (Nm × OO))) x.1 x.2) (fun x => (fun (r : TReport) (k : Int) => r.Colours.length ≤ 1099511627776 ∧ r.Places.length ≤ 1099511627776 ∧ 0 ≤ k ∧ k ≤ 1099511627776) x.1 x.2) (fun x => (fun (r : TReport) (k : Int) => (dI (k + r.Colours.length + r.Places.length) : D)) x.1 x.2) (fun x => (fun (r : TReport) (k : Int) => ([((0, 0), .arr false 1 (dI 0) (ML dI (mkL mk_I 1 k r.Colours.length))), ((1, 0), .arr false 1 (dI 0) (ML dI (mkL mk_I 1 (k + r.Colours.length) r.Places.length)))] : List (Nm × OO))) x.1 x.2)
@[simp] theorem c45_f : c45.f = 45 := rfl
@[simp] theorem c45_own : c45.own = true := rfl
theorem c45_inj : ∀ u_ v_ : TReport × Int, ((fun x => (fun (r : TReport) (k : Int) => ([.agg [dI r.Id, dI r.Kind, .own (0, 0) 1 0 r.Colours.length, dI r.SizeLow, dI r.SizeHigh, .own (1, 0) 1 0 r.Places.length, dI r.Span.From, dI r.Span.Until], dI k] : List D)) x.1 x.2) u_).map nz = ((fun x => (fun (r : TReport) (k : Int) => ([.agg [dI r.Id, dI r.Kind, .own (0, 0) 1 0 r.Colours.length, dI r.SizeLow, dI r.SizeHigh, .own (1, 0) 1 0 r.Places.length, dI r.Span.From, dI r.Span.Until], dI k] : List D)) x.1 x.2) v_).map nz → (fun x => (fun (r : TReport) (k : Int) => ([((0, 0), .arr false 1 (dI 0) (ML dI r.Colours)), ((1, 0), .arr false 1 (dI 0) (ML dI r.Places))] : List (Nm × OO))) x.1 x.2) u_ = (fun x => (fun (r : TReport) (k : Int) => ([((0, 0), .arr false 1 (dI 0) (ML dI r.Colours)), ((1, 0), .arr false 1 (dI 0) (ML dI r.Places))] : List (Nm × OO))) x.1 x.2) v_ → u_ = v_ := by
  intro u_ v_ h h2_
  obtain ⟨⟨r_Id, r_Kind, r_Colours, r_SizeLow, r_SizeHigh, r_Places, ⟨r_Span_From, r_Span_Until⟩⟩, k⟩ := u_
  obtain ⟨⟨r_Id', r_Kind', r_Colours', r_SizeLow', r_SizeHigh', r_Places', ⟨r_Span_From', r_Span_Until'⟩⟩, k'⟩ := v_
  simp [nz_lit, nz1_lit, nz_agg, nz_sl, nz1_sl, nz_sx, nz_el, nz1_el, nz_own, nz1_own, nz_ptr, nz_fn, nz_iface] at h h2_
  first | (simp [h, h2_]; done) | (obtain ⟨h3_, h4_⟩ := List.append_inj h2_ h.1; simp_all; done) | simp_all | grind
@[simp] theorem c45_fn (r_Id : Int) (r_Kind : Int) (r_Colours : List Int) (r_SizeLow : Int) (r_SizeHigh : Int) (r_Places : List Int) (r_Span_From : Int) (r_Span_Until : Int) (k : Int) : c45.fn ([.agg [dI (⟨r_Id, r_Kind, r_Colours, r_SizeLow, r_SizeHigh, r_Places, ⟨r_Span_From, r_Span_Until⟩⟩ : TReport).Id, dI (⟨r_Id, r_Kind, r_Colours, r_SizeLow, r_SizeHigh, r_Places, ⟨r_Span_From, r_Span_Until⟩⟩ : TReport).Kind, .own (0, 0) 1 0 (⟨r_Id, r_Kind, r_Colours, r_SizeLow, r_SizeHigh, r_Places, ⟨r_Span_From, r_Span_Until⟩⟩ : TReport).Colours.length, dI (⟨r_Id, r_Kind, r_Colours, r_SizeLow, r_SizeHigh, r_Places, ⟨r_Span_From, r_Span_Until⟩⟩ : TReport).SizeLow, dI (⟨r_Id, r_Kind, r_Colours, r_SizeLow, r_SizeHigh, r_Places, ⟨r_Span_From, r_Span_Until⟩⟩ : TReport).SizeHigh, .own (1, 0) 1 0 (⟨r_Id, r_Kind, r_Colours, r_SizeLow, r_SizeHigh, r_Places, ⟨r_Span_From, r_Span_Until⟩⟩ : TReport).Places.length, dI (⟨r_Id, r_Kind, r_Colours, r_SizeLow, r_SizeHigh, r_Places, ⟨r_Span_From, r_Span_Until⟩⟩ : TReport).Span.From, dI (⟨r_Id, r_Kind, r_Colours, r_SizeLow, r_SizeHigh, r_Places, ⟨r_Span_From, r_Span_Until⟩⟩ : TReport).Span.Until], dI k]) ([((0, 0), .arr false 1 (dI 0) (ML dI (⟨r_Id, r_Kind, r_Colours, r_SizeLow, r_SizeHigh, r_Places, ⟨r_Span_From, r_Span_Until⟩⟩ : TReport).Colours)), ((1, 0), .arr false 1 (dI 0) (ML dI (⟨r_Id, r_Kind, r_Colours, r_SizeLow, r_SizeHigh, r_Places, ⟨r_Span_From, r_Span_Until⟩⟩ : TReport).Places))]) = some ((⟨r_Id, r_Kind, r_Colours, r_SizeLow, r_SizeHigh, r_Places, ⟨r_Span_From, r_Span_Until⟩⟩ : TReport).Colours.length ≤ 1099511627776 ∧ (⟨r_Id, r_Kind, r_Colours, r_SizeLow, r_SizeHigh, r_Places, ⟨r_Span_From, r_Span_Until⟩⟩ : TReport).Places.length ≤ 1099511627776 ∧ 0 ≤ k ∧ k ≤ 1099511627776, dI (k + (⟨r_Id, r_Kind, r_Colours, r_SizeLow, r_SizeHigh, r_Places, ⟨r_Span_From, r_Span_Until⟩⟩ : TReport).Colours.length + (⟨r_Id, r_Kind, r_Colours, r_SizeLow, r_SizeHigh, r_Places, ⟨r_Span_From, r_Span_Until⟩⟩ : TReport).Places.length), [((0, 0), .arr false 1 (dI 0) (ML dI (mkL mk_I 1 k (⟨r_Id, r_Kind, r_Colours, r_SizeLow, r_SizeHigh, r_Places, ⟨r_Span_From, r_Span_Until⟩⟩ : TReport).Colours.length))), ((1, 0), .arr false 1 (dI 0) (ML dI (mkL mk_I 1 (k + (⟨r_Id, r_Kind, r_Colours, r_SizeLow, r_SizeHigh, r_Places, ⟨r_Span_From, r_Span_Until⟩⟩ : TReport).Colours.length) (⟨r_Id, r_Kind, r_Colours, r_SizeLow, r_SizeHigh, r_Places, ⟨r_Span_From, r_Span_Until⟩⟩ : TReport).Places.length)))]) :=
  mkCon_fn c45_inj ((⟨r_Id, r_Kind, r_Colours, r_SizeLow, r_SizeHigh, r_Places, ⟨r_Span_From, r_Span_Until⟩⟩, k) : TReport × Int) rfl rfl
theorem c45_pc (r : TReport) (k : Int) (hpre : r.Colours.length ≤ 1099511627776 ∧ r.Places.length ≤ 1099511627776 ∧ 0 ≤ k ∧ k ≤ 1099511627776) : PCo Try.prog 45 ([.agg [dI r.Id, dI r.Kind, .own (0, 0) 1 0 r.Colours.length, dI r.SizeLow, dI r.SizeHigh, .own (1, 0) 1 0 r.Places.length, dI r.Span.From, dI r.Span.Until], dI k]) (Tab.of ([((0, 0), .arr false 1 (dI 0) (ML dI r.Colours)), ((1, 0), .arr false 1 (dI 0) (ML dI r.Places))])) (dI (k + r.Colours.length + r.Places.length)) (Tab.of ([((0, 0), .arr false 1 (dI 0) (ML dI (mkL mk_I 1 k r.Colours.length))), ((1, 0), .arr false 1 (dI 0) (ML dI (mkL mk_I 1 (k + r.Colours.length) r.Places.length)))])) := by
  refine pco_of_run [] (E := ⟨[c54], []⟩) (m := false) (base := 0) (Env.ok_cons c54_ok Env.ok_nil) G_ok mix 300 6 Try.func45 (by kernel_rfl) rfl (by kernel_rfl) (by kernel_rfl) rfl ?_
  simp [Try.f45]
  obtain ⟨h1, h2, h3, h4⟩ := hpre
  refine ⟨⟨by omega, by omega, by omega⟩, by omega, by omega, by omega⟩
theorem c45_ok : c45.ok Try.prog := mkCon_ok fun ⟨r, k⟩ hpre => c45_pc r k hpre
@[simp] theorem markR_fn {i kd lo hi fr un k : Int} {c p : List Int} : c45.fn [.agg [.lit (.int .i64 i), .lit (.int .i64 kd), .own (0, 0) 1 0 c.length, .lit (.int .i64 lo), .lit (.int .i64 hi), .own (1, 0) 1 0 p.length, .lit (.int .i64 fr), .lit (.int .i64 un)], .lit (.int .i64 k)] [((0, 0), .arr false 1 (.lit (.int .i64 0)) (ML dI c)), ((1, 0), .arr false 1 (.lit (.int .i64 0)) (ML dI p))] = some (c.length ≤ 1099511627776 ∧ p.length ≤ 1099511627776 ∧ 0 ≤ k ∧ k ≤ 1099511627776, dI (k + c.length + p.length), [((0, 0), .arr false 1 (dI 0) (ML dI (mkL mk_I 1 k c.length))), ((1, 0), .arr false 1 (dI 0) (ML dI (mkL mk_I 1 (k + c.length) p.length)))]) := c45_fn i kd c lo hi p fr un k
theorem mCand_len (r : TReport) (l : List TFind) : (mCand r l).length ≤ l.length := by
  rw [mCand]
  split
  · have h := pick_take_len (want := mCanBe r) (f := nFind) l l.length
    rw [List.take_length] at h
    exact h
  · simp
/-- loop.example/g03007/laws.FnExactCandidates -/
theorem law9 (r : TReport) (wr : wfTReport r) (l : List TFind) (wl : wfLTFind l) : PCo Try.prog 9 [encTReport r, encLTFind l] (Tab.of []) (dB true) (Tab.of []) := by
  obtain ⟨r_Id, r_Kind, r_Colours, r_SizeLow, r_SizeHigh, r_Places, ⟨r_Span_From, r_Span_Until⟩⟩ := r
  refine pco_of_run [1014, 2000043] (E := ⟨[c39, c41f, c43, c45, c47, c48, c49, c50, c51, c52, c53, c54, c55], []⟩) (m := false) (base := 0) (Env.ok_cons c39_ok (Env.ok_cons c41f_ok (Env.ok_cons c43_ok (Env.ok_cons c45_ok (Env.ok_cons c47_ok (Env.ok_cons c48_ok (Env.ok_cons c49_ok (Env.ok_cons c50_ok (Env.ok_cons c51_ok (Env.ok_cons c52_ok (Env.ok_cons c53_ok (Env.ok_cons c54_ok (Env.ok_cons c55_ok Env.ok_nil))))))))))))) G_ok mix 400 6 Try.func9 (by kernel_rfl) rfl (by kernel_rfl) (by kernel_rfl) rfl ?_
  simp (config := {maxSteps := 3000000}) [Try.f9]
  have h1 := wfR_len wr
  simp at h1
  refine ⟨h1, fun h => ?_⟩
  have hl := szR_len h
  simp at hl
  have hwl : l.length ≤ maxLen := wl.1
  have hc := mCand_len ⟨r_Id, r_Kind, r_Colours, r_SizeLow, r_SizeHigh, r_Places, ⟨r_Span_From, r_Span_Until⟩⟩ l
  refine ⟨⟨hwl, h, by omega⟩, fun h2 => ?_⟩
  have hm : (l.length : Int) ≤ 1048576 := by
    have h3 := h2
    split at h3 <;> omega
  repeat' (first | omega | assumption | refine And.intro ?_ ?_ | intro _)
theorem law9_pc (D0 : D) (h0 : Sh G 9 44 D0) (D1 : D) (h1 : Sh G 9 55 D1) : PC Try.prog 9 [D0, D1] (dB true) [] := by
  obtain ⟨r, rfl, wr⟩ := sh44 (n := 6) h0
  obtain ⟨l, rfl, wl⟩ := sh55 (n := 5) h1
  exact law9 r wr l wl

end Go.Proofs.YtmhbciaolpamaaaR
