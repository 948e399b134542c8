/- Contracts of the functions that the laws run. -/
import Derived.Test.Ytnghehfdclhfdaach07b
import Derived.Test.Ytnghehfdclhfdaach08
import Derived.Test.Ytnghehfdclhfdaach06
import Derived.Test.YtnghehfdclhfdaahelpA
import Derived.Test.YtnghehfdclhfdaaEngB
namespace Go.Proofs.Ytnghehfdclhfdaa
open Go Go.Eng
set_option linter.unusedSimpArgs false
set_option linter.unusedVariables false
set_option maxRecDepth 10000
set_option maxHeartbeats 1000000
def mSeek (f : TFind) (l : List TReport) : List Int := if mAreReports l then pick (fun r => mCanBe r f) nReport l else []
/-- loop.example/g03007/impl.Seekers$1 -/
noncomputable def c49 : Con := mkCon 49 false (α := TReport × TFind) (fun x => (fun (r : TReport) (f : TFind) => ([encTReport r, .el (encTFind f)] : List D)) x.1 x.2) (fun x => (fun (r : TReport) (f : TFind) => ([] : List (Nm × OO))) x.1 x.2) (fun x => (fun (r : TReport) (f : TFind) => smR r) x.1 x.2) (fun x => (fun (r : TReport) (f : TFind) => (dB (mCanBe r f) : D)) x.1 x.2) (fun x => (fun (r : TReport) (f : TFind) => ([] : List (Nm × OO))) x.1 x.2)
@[simp] theorem c49_f : c49.f = 49 := rfl
@[simp] theorem c49_own : c49.own = false := rfl
theorem c49_inj : ∀ u_ v_ : TReport × TFind, ((fun x => (fun (r : TReport) (f : TFind) => ([encTReport r, .el (encTFind f)] : List D)) x.1 x.2) u_).map nz = ((fun x => (fun (r : TReport) (f : TFind) => ([encTReport r, .el (encTFind f)] : List D)) x.1 x.2) v_).map nz → (fun x => (fun (r : TReport) (f : TFind) => ([] : List (Nm × OO))) x.1 x.2) u_ = (fun x => (fun (r : TReport) (f : TFind) => ([] : List (Nm × OO))) x.1 x.2) v_ → u_ = v_ := by
  intro u_ v_ h h2_
  obtain ⟨⟨r_Id, r_Kind, r_Colours, r_SizeLow, r_SizeHigh, r_Places, ⟨r_Span_From, r_Span_Until⟩⟩, ⟨⟨f_Thing_Id, f_Thing_Kind, f_Thing_Colour, f_Thing_Size, f_Thing_Worth⟩, f_Place, f_At, f_Finder⟩⟩ := u_
  obtain ⟨⟨r_Id', r_Kind', r_Colours', r_SizeLow', r_SizeHigh', r_Places', ⟨r_Span_From', r_Span_Until'⟩⟩, ⟨⟨f_Thing_Id', f_Thing_Kind', f_Thing_Colour', f_Thing_Size', f_Thing_Worth'⟩, f_Place', f_At', f_Finder'⟩⟩ := v_
  simp [nz_lit, nz1_lit, nz_agg, nz_sl, nz1_sl, nz_sx, nz_el, nz1_el, nz_own, nz1_own, nz_ptr, nz_fn, nz_iface] at h h2_
  first | (simp [h, h2_]; done) | (obtain ⟨h3_, h4_⟩ := List.append_inj h2_ h.1; simp_all; done) | simp_all | grind
@[simp] theorem c49_fn (r_Id : Int) (r_Kind : Int) (r_Colours : List Int) (r_SizeLow : Int) (r_SizeHigh : Int) (r_Places : List Int) (r_Span_From : Int) (r_Span_Until : Int) (f_Thing_Id : Int) (f_Thing_Kind : Int) (f_Thing_Colour : Int) (f_Thing_Size : Int) (f_Thing_Worth : Int) (f_Place : Int) (f_At : Int) (f_Finder : Int) : c49.fn ([.agg [.lit (.int .i64 r_Id), .lit (.int .i64 r_Kind), .sl false 1 (.lit (.int .i64 0)) (ML dI r_Colours), .lit (.int .i64 r_SizeLow), .lit (.int .i64 r_SizeHigh), .sl false 1 (.lit (.int .i64 0)) (ML dI r_Places), .lit (.int .i64 r_Span_From), .lit (.int .i64 r_Span_Until)], .el (.agg [.lit (.int .i64 f_Thing_Id), .lit (.int .i64 f_Thing_Kind), .lit (.int .i64 f_Thing_Colour), .lit (.int .i64 f_Thing_Size), .lit (.int .i64 f_Thing_Worth), .lit (.int .i64 f_Place), .lit (.int .i64 f_At), .lit (.int .i64 f_Finder)])]) ([]) = some (smR (⟨r_Id, r_Kind, r_Colours, r_SizeLow, r_SizeHigh, r_Places, ⟨r_Span_From, r_Span_Until⟩⟩ : TReport), dB (mCanBe (⟨r_Id, r_Kind, r_Colours, r_SizeLow, r_SizeHigh, r_Places, ⟨r_Span_From, r_Span_Until⟩⟩ : TReport) (⟨⟨f_Thing_Id, f_Thing_Kind, f_Thing_Colour, f_Thing_Size, f_Thing_Worth⟩, f_Place, f_At, f_Finder⟩ : TFind)), []) :=
  mkCon_fn c49_inj ((⟨r_Id, r_Kind, r_Colours, r_SizeLow, r_SizeHigh, r_Places, ⟨r_Span_From, r_Span_Until⟩⟩, ⟨⟨f_Thing_Id, f_Thing_Kind, f_Thing_Colour, f_Thing_Size, f_Thing_Worth⟩, f_Place, f_At, f_Finder⟩) : TReport × TFind) rfl rfl
theorem c49_pc (r : TReport) (f : TFind) (hpre : smR r) : PCo Try.prog 49 ([encTReport r, .el (encTFind f)]) (Tab.of ([])) (dB (mCanBe r f)) (Tab.of ([])) := by
  refine pco_of_run [] (E := ⟨[c50], [], []⟩) (m := false) (base := 0) (Env.ok_cons c50_ok Env.ok_nil) G_ok mix 300 6 Try.func49 (by kernel_rfl) rfl (by kernel_rfl) (by kernel_rfl) rfl ?_
  simp [Try.f49]
  simp at hpre
  exact hpre
theorem c49_ok : c49.ok Try.prog := mkCon_ok fun ⟨r, f⟩ hpre => c49_pc r f hpre
/-- (loop.example/g03007/impl.sortedList[loop.example/g03007/impl.Report]).numbersWhere -/
noncomputable def c48 : Con := mkCon 48 false (α := (List TReport) × TFind) (fun x => (fun (l : List TReport) (f : TFind) => ([.agg [encLTReport l, .fn (.func 74) [] []], .fn (.func 49) [] [.el (encTFind f)]] : List D)) x.1 x.2) (fun x => (fun (l : List TReport) (f : TFind) => ([] : List (Nm × OO))) x.1 x.2) (fun x => (fun (l : List TReport) (f : TFind) => l.length ≤ 1073741823 ∧ ∀ x ∈ l, smR x) x.1 x.2) (fun x => (fun (l : List TReport) (f : TFind) => (.own (0, 1) 1 0 (pick (fun r => mCanBe r f) nReport l).length : D)) x.1 x.2) (fun x => (fun (l : List TReport) (f : TFind) => ([((0, 1), .arr false 1 (dI 0) (ML dI (pick (fun r => mCanBe r f) nReport l)))] : List (Nm × OO))) x.1 x.2)
@[simp] theorem c48_f : c48.f = 48 := rfl
@[simp] theorem c48_own : c48.own = false := rfl
theorem c48_inj : ∀ u_ v_ : (List TReport) × TFind, ((fun x => (fun (l : List TReport) (f : TFind) => ([.agg [encLTReport l, .fn (.func 74) [] []], .fn (.func 49) [] [.el (encTFind f)]] : List D)) x.1 x.2) u_).map nz = ((fun x => (fun (l : List TReport) (f : TFind) => ([.agg [encLTReport l, .fn (.func 74) [] []], .fn (.func 49) [] [.el (encTFind f)]] : List D)) x.1 x.2) v_).map nz → (fun x => (fun (l : List TReport) (f : TFind) => ([] : List (Nm × OO))) x.1 x.2) u_ = (fun x => (fun (l : List TReport) (f : TFind) => ([] : List (Nm × OO))) x.1 x.2) v_ → u_ = v_ := by
  intro u_ v_ h h2_
  obtain ⟨l, ⟨⟨f_Thing_Id, f_Thing_Kind, f_Thing_Colour, f_Thing_Size, f_Thing_Worth⟩, f_Place, f_At, f_Finder⟩⟩ := u_
  obtain ⟨l', ⟨⟨f_Thing_Id', f_Thing_Kind', f_Thing_Colour', f_Thing_Size', f_Thing_Worth'⟩, f_Place', f_At', f_Finder'⟩⟩ := v_
  simp [nz_lit, nz1_lit, nz_agg, nz_sl, nz1_sl, nz_sx, nz_el, nz1_el, nz_own, nz1_own, nz_ptr, nz_fn, nz_iface] at h h2_
  first | (simp [h, h2_]; done) | (obtain ⟨h3_, h4_⟩ := List.append_inj h2_ h.1; simp_all; done) | simp_all | grind
@[simp] theorem c48_fn (l : List TReport) (f_Thing_Id : Int) (f_Thing_Kind : Int) (f_Thing_Colour : Int) (f_Thing_Size : Int) (f_Thing_Worth : Int) (f_Place : Int) (f_At : Int) (f_Finder : Int) : c48.fn ([.agg [(.sl false 8 yTReport (ML encTReport l)), .fn (.func 74) [] []], .fn (.func 49) [] [.el (.agg [.lit (.int .i64 f_Thing_Id), .lit (.int .i64 f_Thing_Kind), .lit (.int .i64 f_Thing_Colour), .lit (.int .i64 f_Thing_Size), .lit (.int .i64 f_Thing_Worth), .lit (.int .i64 f_Place), .lit (.int .i64 f_At), .lit (.int .i64 f_Finder)])]]) ([]) = some (l.length ≤ 1073741823 ∧ ∀ x ∈ l, smR x, .own (0, 1) 1 0 (pick (fun r => mCanBe r (⟨⟨f_Thing_Id, f_Thing_Kind, f_Thing_Colour, f_Thing_Size, f_Thing_Worth⟩, f_Place, f_At, f_Finder⟩ : TFind)) nReport l).length, [((0, 1), .arr false 1 (dI 0) (ML dI (pick (fun r => mCanBe r (⟨⟨f_Thing_Id, f_Thing_Kind, f_Thing_Colour, f_Thing_Size, f_Thing_Worth⟩, f_Place, f_At, f_Finder⟩ : TFind)) nReport l)))]) :=
  mkCon_fn c48_inj ((l, ⟨⟨f_Thing_Id, f_Thing_Kind, f_Thing_Colour, f_Thing_Size, f_Thing_Worth⟩, f_Place, f_At, f_Finder⟩) : (List TReport) × TFind) rfl rfl
theorem c48_pc (l : List TReport) (f : TFind) (hpre : l.length ≤ 1073741823 ∧ ∀ x ∈ l, smR x) : PCo Try.prog 48 ([.agg [encLTReport l, .fn (.func 74) [] []], .fn (.func 49) [] [.el (encTFind f)]]) (Tab.of ([])) (.own (0, 1) 1 0 (pick (fun r => mCanBe r f) nReport l).length) (Tab.of ([((0, 1), .arr false 1 (dI 0) (ML dI (pick (fun r => mCanBe r f) nReport l)))])) := by
  refine pco_of_run [] (E := ⟨[c49, c74], [], []⟩) (m := false) (base := 0) (Env.ok_cons c49_ok (Env.ok_cons c74_ok Env.ok_nil)) G_ok mix 300 6 Try.func48 (by kernel_rfl) rfl (by kernel_rfl) (by kernel_rfl) rfl ?_
  simp [Try.f48]
  obtain ⟨hpl, hpr⟩ := hpre
  refine loop_inv (fun p : Nat => p ≤ l.length) (fun p => [(1, .fn (.func 49) [] [.el (encTFind f)]), (2, .ptr (0, 1) 0), (5, .own (1, 1) 1 0 (pick (fun r => mCanBe r f) nReport (l.take p)).length), (10, encLTReport l), (11, dI l.length), (12, dI p)]) (fun p => [((0, 1), .box (.agg [encLTReport l, .fn (.func 74) [] []])), ((1, 1), .arr false 1 (dI 0) (ML dI (pick (fun r => mCanBe r f) nReport (l.take p))))]) 2 (fun p => l.length - p) 0 400 (by simp) (by simp) (by simp) ?_
  intro p hp
  simp
  refine ⟨fun hlt => ?_, fun hge => ?_⟩
  · have hx := hpr _ (getD_mem (d := default) hlt)
    simp at hx
    have hs := pick_at (want := fun r => mCanBe r f) (f := nReport) (d := default) hlt
    have hb := pick_take_len (want := fun r => mCanBe r f) (f := nReport) l p
    have hsT : mCanBe (l[p]?.getD default) f = true → pick (fun r => mCanBe r f) nReport (l.take (p + 1)) = pick (fun r => mCanBe r f) nReport (l.take p) ++ [nReport (l[p]?.getD default)] := fun h => by rw [hs, if_pos h]
    have hsF : mCanBe (l[p]?.getD default) f = false → pick (fun r => mCanBe r f) nReport (l.take (p + 1)) = pick (fun r => mCanBe r f) nReport (l.take p) := fun h => by rw [hs, if_neg (by simp [h]), List.append_nil]
    repeat' (first | omega | refine And.intro ?_ ?_ | intro _)
    all_goals first | (have hw := hsT (by assumption); exact Again.mk (p + 1) (by omega) (by simp [hw]) (by first | omega | (simp; omega))) | (have hw := hsF (by assumption); exact Again.mk (p + 1) (by omega) (by simp [hw]) (by first | omega | (simp; omega)))
  · rw [List.take_of_length_le hge]; simp
theorem c48_ok : c48.ok Try.prog := mkCon_ok fun ⟨l, f⟩ hpre => c48_pc l f hpre
/-- loop.example/g03007/impl.Seekers -/
noncomputable def c12 : Con := mkCon 12 false (α := TFind × (List TReport)) (fun x => (fun (f : TFind) (l : List TReport) => [encTFind f, encLTReport l]) x.1 x.2) (fun _ => []) (fun x => (fun (f : TFind) (l : List TReport) => l.length ≤ 1073741823 ∧ ∀ x ∈ l, smR x) x.1 x.2) (fun x => (fun (f : TFind) (l : List TReport) => (.own (0, 1) 1 0 (mSeek f l).length : D)) x.1 x.2) (fun x => (fun (f : TFind) (l : List TReport) => [((0, 1), .arr false 1 (dI 0) (ML dI (mSeek f l)))]) x.1 x.2)
@[simp] theorem c12_f : c12.f = 12 := rfl
@[simp] theorem c12_own : c12.own = false := rfl
theorem c12_inj : ∀ u_ v_ : TFind × (List TReport), ((fun x => (fun (f : TFind) (l : List TReport) => [encTFind f, encLTReport l]) x.1 x.2) u_).map nz = ((fun x => (fun (f : TFind) (l : List TReport) => [encTFind f, encLTReport l]) x.1 x.2) v_).map nz → u_ = v_ := by
  intro u_ v_ h
  obtain ⟨⟨⟨f_Thing_Id, f_Thing_Kind, f_Thing_Colour, f_Thing_Size, f_Thing_Worth⟩, f_Place, f_At, f_Finder⟩, l⟩ := u_
  obtain ⟨⟨⟨f_Thing_Id', f_Thing_Kind', f_Thing_Colour', f_Thing_Size', f_Thing_Worth'⟩, f_Place', f_At', f_Finder'⟩, l'⟩ := v_
  simp [nz_lit, nz1_lit, nz_agg, nz_sl, nz1_sl, encLTReport, encTFind, encTThing] at h
  first | (simp [h]; done) | (obtain ⟨⟩ := h; simp_all; done) | simp_all
@[simp] theorem c12_fn (f_Thing_Id : Int) (f_Thing_Kind : Int) (f_Thing_Colour : Int) (f_Thing_Size : Int) (f_Thing_Worth : Int) (f_Place : Int) (f_At : Int) (f_Finder : Int) (l : List TReport) : c12.fn [.agg [.lit (.int .i64 f_Thing_Id), .lit (.int .i64 f_Thing_Kind), .lit (.int .i64 f_Thing_Colour), .lit (.int .i64 f_Thing_Size), .lit (.int .i64 f_Thing_Worth), .lit (.int .i64 f_Place), .lit (.int .i64 f_At), .lit (.int .i64 f_Finder)], .sl false 8 yTReport (ML encTReport l)] [] = some ((fun (f : TFind) (l : List TReport) => l.length ≤ 1073741823 ∧ ∀ x ∈ l, smR x) ⟨⟨f_Thing_Id, f_Thing_Kind, f_Thing_Colour, f_Thing_Size, f_Thing_Worth⟩, f_Place, f_At, f_Finder⟩ l, (fun (f : TFind) (l : List TReport) => (.own (0, 1) 1 0 (mSeek f l).length : D)) ⟨⟨f_Thing_Id, f_Thing_Kind, f_Thing_Colour, f_Thing_Size, f_Thing_Worth⟩, f_Place, f_At, f_Finder⟩ l, (fun (f : TFind) (l : List TReport) => [((0, 1), .arr false 1 (dI 0) (ML dI (mSeek f l)))]) ⟨⟨f_Thing_Id, f_Thing_Kind, f_Thing_Colour, f_Thing_Size, f_Thing_Worth⟩, f_Place, f_At, f_Finder⟩ l) :=
  mkCon_fn (fun x y h _ => c12_inj x y h) ((⟨⟨f_Thing_Id, f_Thing_Kind, f_Thing_Colour, f_Thing_Size, f_Thing_Worth⟩, f_Place, f_At, f_Finder⟩, l) : TFind × (List TReport)) (by simp [nz, nz1, ML_nil, encLTReport, encTFind, encTThing]) rfl
@[simp] theorem c12_fn1 (f_Thing_Id : Int) (f_Thing_Kind : Int) (f_Thing_Colour : Int) (f_Thing_Size : Int) (f_Thing_Worth : Int) (f_Place : Int) (f_At : Int) (f_Finder : Int) (s_l : Nat) (z_l : D) : c12.fn [.agg [.lit (.int .i64 f_Thing_Id), .lit (.int .i64 f_Thing_Kind), .lit (.int .i64 f_Thing_Colour), .lit (.int .i64 f_Thing_Size), .lit (.int .i64 f_Thing_Worth), .lit (.int .i64 f_Place), .lit (.int .i64 f_At), .lit (.int .i64 f_Finder)], .sl false s_l z_l []] [] = some ((fun (f : TFind) (l : List TReport) => l.length ≤ 1073741823 ∧ ∀ x ∈ l, smR x) ⟨⟨f_Thing_Id, f_Thing_Kind, f_Thing_Colour, f_Thing_Size, f_Thing_Worth⟩, f_Place, f_At, f_Finder⟩ [], (fun (f : TFind) (l : List TReport) => (.own (0, 1) 1 0 (mSeek f l).length : D)) ⟨⟨f_Thing_Id, f_Thing_Kind, f_Thing_Colour, f_Thing_Size, f_Thing_Worth⟩, f_Place, f_At, f_Finder⟩ [], (fun (f : TFind) (l : List TReport) => [((0, 1), .arr false 1 (dI 0) (ML dI (mSeek f l)))]) ⟨⟨f_Thing_Id, f_Thing_Kind, f_Thing_Colour, f_Thing_Size, f_Thing_Worth⟩, f_Place, f_At, f_Finder⟩ []) :=
  mkCon_fn (fun x y h _ => c12_inj x y h) ((⟨⟨f_Thing_Id, f_Thing_Kind, f_Thing_Colour, f_Thing_Size, f_Thing_Worth⟩, f_Place, f_At, f_Finder⟩, []) : TFind × (List TReport)) (by simp [nz, nz1, ML_nil, encLTReport, encTFind, encTThing]) rfl
theorem c12_pc (f : TFind) (l : List TReport) (hpre : l.length ≤ 1073741823 ∧ ∀ x ∈ l, smR x) : PCo Try.prog 12 [encTFind f, encLTReport l] (Tab.of []) (.own (0, 1) 1 0 (mSeek f l).length) (Tab.of [((0, 1), .arr false 1 (dI 0) (ML dI (mSeek f l)))]) := by
  refine pco_of_run [] (E := ⟨[c46, c47, c48, c49], [], []⟩) (m := false) (base := 0) (Env.ok_cons c46_ok (Env.ok_cons c47_ok (Env.ok_cons c48_ok (Env.ok_cons c49_ok Env.ok_nil)))) G_ok mix 300 6 Try.func12 (by kernel_rfl) rfl (by kernel_rfl) (by kernel_rfl) rfl ?_
  simp [Try.f12]
  obtain ⟨hpl, hpr⟩ := hpre
  refine ⟨⟨by omega, hpr⟩, fun h => by simp [mSeek, h], fun h => ⟨⟨hpl, hpr⟩, by simp [mSeek, h]⟩⟩
theorem c12_ok : c12.ok Try.prog := mkCon_ok fun ⟨f, l⟩ hpre => c12_pc f l hpre
/-- loop.example/g03007/spec.Seekers -/
noncomputable def c9 : Con := mkCon 9 false (α := TFind × (List TReport)) (fun x => (fun (f : TFind) (l : List TReport) => [encTFind f, encLTReport l]) x.1 x.2) (fun _ => []) (fun x => (fun (f : TFind) (l : List TReport) => l.length ≤ 1073741823 ∧ ∀ x ∈ l, smR x) x.1 x.2) (fun x => (fun (f : TFind) (l : List TReport) => (.own (0, 1) 1 0 (mSeek f l).length : D)) x.1 x.2) (fun x => (fun (f : TFind) (l : List TReport) => [((0, 1), .arr false 1 (dI 0) (ML dI (mSeek f l)))]) x.1 x.2)
@[simp] theorem c9_f : c9.f = 9 := rfl
@[simp] theorem c9_own : c9.own = false := rfl
theorem c9_inj : ∀ u_ v_ : TFind × (List TReport), ((fun x => (fun (f : TFind) (l : List TReport) => [encTFind f, encLTReport l]) x.1 x.2) u_).map nz = ((fun x => (fun (f : TFind) (l : List TReport) => [encTFind f, encLTReport l]) x.1 x.2) v_).map nz → u_ = v_ := by
  intro u_ v_ h
  obtain ⟨⟨⟨f_Thing_Id, f_Thing_Kind, f_Thing_Colour, f_Thing_Size, f_Thing_Worth⟩, f_Place, f_At, f_Finder⟩, l⟩ := u_
  obtain ⟨⟨⟨f_Thing_Id', f_Thing_Kind', f_Thing_Colour', f_Thing_Size', f_Thing_Worth'⟩, f_Place', f_At', f_Finder'⟩, l'⟩ := v_
  simp [nz_lit, nz1_lit, nz_agg, nz_sl, nz1_sl, encLTReport, encTFind, encTThing] at h
  first | (simp [h]; done) | (obtain ⟨⟩ := h; simp_all; done) | simp_all
@[simp] theorem c9_fn (f_Thing_Id : Int) (f_Thing_Kind : Int) (f_Thing_Colour : Int) (f_Thing_Size : Int) (f_Thing_Worth : Int) (f_Place : Int) (f_At : Int) (f_Finder : Int) (l : List TReport) : c9.fn [.agg [.lit (.int .i64 f_Thing_Id), .lit (.int .i64 f_Thing_Kind), .lit (.int .i64 f_Thing_Colour), .lit (.int .i64 f_Thing_Size), .lit (.int .i64 f_Thing_Worth), .lit (.int .i64 f_Place), .lit (.int .i64 f_At), .lit (.int .i64 f_Finder)], .sl false 8 yTReport (ML encTReport l)] [] = some ((fun (f : TFind) (l : List TReport) => l.length ≤ 1073741823 ∧ ∀ x ∈ l, smR x) ⟨⟨f_Thing_Id, f_Thing_Kind, f_Thing_Colour, f_Thing_Size, f_Thing_Worth⟩, f_Place, f_At, f_Finder⟩ l, (fun (f : TFind) (l : List TReport) => (.own (0, 1) 1 0 (mSeek f l).length : D)) ⟨⟨f_Thing_Id, f_Thing_Kind, f_Thing_Colour, f_Thing_Size, f_Thing_Worth⟩, f_Place, f_At, f_Finder⟩ l, (fun (f : TFind) (l : List TReport) => [((0, 1), .arr false 1 (dI 0) (ML dI (mSeek f l)))]) ⟨⟨f_Thing_Id, f_Thing_Kind, f_Thing_Colour, f_Thing_Size, f_Thing_Worth⟩, f_Place, f_At, f_Finder⟩ l) :=
  mkCon_fn (fun x y h _ => c9_inj x y h) ((⟨⟨f_Thing_Id, f_Thing_Kind, f_Thing_Colour, f_Thing_Size, f_Thing_Worth⟩, f_Place, f_At, f_Finder⟩, l) : TFind × (List TReport)) (by simp [nz, nz1, ML_nil, encLTReport, encTFind, encTThing]) rfl
@[simp] theorem c9_fn1 (f_Thing_Id : Int) (f_Thing_Kind : Int) (f_Thing_Colour : Int) (f_Thing_Size : Int) (f_Thing_Worth : Int) (f_Place : Int) (f_At : Int) (f_Finder : Int) (s_l : Nat) (z_l : D) : c9.fn [.agg [.lit (.int .i64 f_Thing_Id), .lit (.int .i64 f_Thing_Kind), .lit (.int .i64 f_Thing_Colour), .lit (.int .i64 f_Thing_Size), .lit (.int .i64 f_Thing_Worth), .lit (.int .i64 f_Place), .lit (.int .i64 f_At), .lit (.int .i64 f_Finder)], .sl false s_l z_l []] [] = some ((fun (f : TFind) (l : List TReport) => l.length ≤ 1073741823 ∧ ∀ x ∈ l, smR x) ⟨⟨f_Thing_Id, f_Thing_Kind, f_Thing_Colour, f_Thing_Size, f_Thing_Worth⟩, f_Place, f_At, f_Finder⟩ [], (fun (f : TFind) (l : List TReport) => (.own (0, 1) 1 0 (mSeek f l).length : D)) ⟨⟨f_Thing_Id, f_Thing_Kind, f_Thing_Colour, f_Thing_Size, f_Thing_Worth⟩, f_Place, f_At, f_Finder⟩ [], (fun (f : TFind) (l : List TReport) => [((0, 1), .arr false 1 (dI 0) (ML dI (mSeek f l)))]) ⟨⟨f_Thing_Id, f_Thing_Kind, f_Thing_Colour, f_Thing_Size, f_Thing_Worth⟩, f_Place, f_At, f_Finder⟩ []) :=
  mkCon_fn (fun x y h _ => c9_inj x y h) ((⟨⟨f_Thing_Id, f_Thing_Kind, f_Thing_Colour, f_Thing_Size, f_Thing_Worth⟩, f_Place, f_At, f_Finder⟩, []) : TFind × (List TReport)) (by simp [nz, nz1, ML_nil, encLTReport, encTFind, encTThing]) rfl
theorem c9_pc (f : TFind) (l : List TReport) (hpre : l.length ≤ 1073741823 ∧ ∀ x ∈ l, smR x) : PCo Try.prog 9 [encTFind f, encLTReport l] (Tab.of []) (.own (0, 1) 1 0 (mSeek f l).length) (Tab.of [((0, 1), .arr false 1 (dI 0) (ML dI (mSeek f l)))]) := by
  refine pco_of_run [] (E := ⟨[c43, c44], [], []⟩) (m := false) (base := 0) (Env.ok_cons c43_ok (Env.ok_cons c44_ok Env.ok_nil)) G_ok mix 300 6 Try.func9 (by kernel_rfl) rfl (by kernel_rfl) (by kernel_rfl) rfl ?_
  simp [Try.f9]
  obtain ⟨hpl, hpr⟩ := hpre
  refine loop_inv (fun p : Nat => p ≤ l.length ∧ (0 < p → mAreReports l = true)) (fun p => [(1, encLTReport l), (2, .ptr (0, 1) 0), (5, .own (1, 1) 1 0 (pick (fun r => mCanBe r f) nReport (l.take p)).length), (6, dI p)]) (fun p => [((0, 1), .box (encTFind f)), ((1, 1), .arr false 1 (dI 0) (ML dI (pick (fun r => mCanBe r f) nReport (l.take p))))]) 2 (fun p => l.length - p) 0 400 (by simp) (by simp) (by simp) ?_
  intro p ⟨hp, hi⟩
  simp
  refine ⟨fun _ => ⟨by omega, hpr⟩, fun hlt ha => ?_, fun hend => ?_⟩
  · have hx := hpr _ (getD_mem (d := default) hlt)
    simp at hx
    have hs := pick_at (want := fun r => mCanBe r f) (f := nReport) (d := default) hlt
    have hb := pick_take_len (want := fun r => mCanBe r f) (f := nReport) l p
    refine ⟨⟨hlt, hx⟩, fun hc => ?_, fun hc => ?_⟩
    · have hw : pick (fun r => mCanBe r f) nReport (l.take (p + 1)) = pick (fun r => mCanBe r f) nReport (l.take p) ++ [nReport (l[p]?.getD default)] := by rw [hs, if_pos hc]
      refine ⟨⟨hlt, by omega⟩, by omega, ?_⟩
      exact Again.mk (p + 1) ⟨by omega, fun _ => ha⟩ (by simp [hw]) (by first | omega | (simp; omega))
    · have hw : pick (fun r => mCanBe r f) nReport (l.take (p + 1)) = pick (fun r => mCanBe r f) nReport (l.take p) := by rw [hs, if_neg (by simp [hc]), List.append_nil]
      refine ⟨by omega, ?_⟩
      exact Again.mk (p + 1) ⟨by omega, fun _ => ha⟩ (by simp [hw]) (by first | omega | (simp; omega))
  · have e : pick (fun r => mCanBe r f) nReport (l.take p) = mSeek f l := by
      by_cases h0 : p = 0
      · subst h0
        by_cases hl : l = []
        · subst hl; simp [mSeek, pick]
        · have := hend (List.length_pos_iff.2 hl)
          simp [mSeek, this, pick]
      · have ha := hi (by omega)
        have hge : l.length ≤ p := by
          refine Nat.le_of_not_lt fun hlt => ?_
          rw [hend hlt] at ha
          cases ha
        rw [List.take_of_length_le hge]; simp [mSeek, ha]
    rw [e]; simp
theorem c9_ok : c9.ok Try.prog := mkCon_ok fun ⟨f, l⟩ hpre => c9_pc f l hpre

end Go.Proofs.Ytnghehfdclhfdaa
