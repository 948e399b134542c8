/- Contracts of the functions that the laws run. -/
import Derived.Test.Ytelhilcdlfjafaach01a
import Derived.Test.YtelhilcdlfjafaaEngB
namespace Go.Proofs.Ytelhilcdlfjafaa
open Go Go.Eng
set_option linter.unusedSimpArgs false
set_option linter.unusedVariables false
set_option maxRecDepth 10000
set_option maxHeartbeats 1000000
inductive Chg where
  | meet (s : TSpan)
  | cover (s : TSpan)
  | widen (n : Int)
@[simp] def encChg : Chg → D
  | .meet s => .iface 67 (encTMeeting ⟨s⟩)
  | .cover s => .iface 88 (encTMeeting ⟨s⟩)
  | .widen n => .iface 90 (encTWidening ⟨n⟩)
theorem encChg_inj : ∀ a b : Chg, nz (encChg a) = nz (encChg b) → a = b := by
  intro a b h
  cases a with
  | meet s => cases b with
    | meet u => obtain ⟨a, b⟩ := s; obtain ⟨c, d⟩ := u; simp [nz_iface] at h; simp [h]
    | _ => simp [nz_iface] at h
  | cover s => cases b with
    | cover u => obtain ⟨a, b⟩ := s; obtain ⟨c, d⟩ := u; simp [nz_iface] at h; simp [h]
    | _ => simp [nz_iface] at h
  | widen n => cases b with
    | widen k => simp [nz_iface] at h; simp [h]
    | _ => simp [nz_iface] at h
def okChg : Chg → Bool
  | .meet s => mIsSpan s
  | .cover s => mIsSpan s
  | .widen n => mIn n 0 100000
noncomputable def c52 : Con := mkCon 52 false (α := Chg) (fun c => [encChg c]) (fun _ => []) (fun _ => True) (fun c => dB (okChg c)) (fun _ => [])
@[simp] theorem c52_f : c52.f = 52 := rfl
@[simp] theorem c52_own : c52.own = false := rfl
theorem c52_inj : ∀ x y : Chg, ([encChg x]).map nz = ([encChg y]).map nz → x = y := by
  intro x y h
  simp only [List.map_cons, List.map_nil, List.cons.injEq, and_true] at h
  exact encChg_inj _ _ h
theorem c52_fn (c : Chg) : c52.fn [encChg c] [] = some (True, dB (okChg c), []) := mkCon_fn (fun x y h _ => c52_inj x y h) c rfl rfl
@[simp] theorem c52_fn1 (a b : Int) : c52.fn [.iface 67 (.agg [dI a, dI b])] [] = some (True, dB (mIsSpan ⟨a, b⟩), []) := c52_fn (.meet ⟨a, b⟩)
@[simp] theorem c52_fn2 (a b : Int) : c52.fn [.iface 88 (.agg [dI a, dI b])] [] = some (True, dB (mIsSpan ⟨a, b⟩), []) := c52_fn (.cover ⟨a, b⟩)
@[simp] theorem c52_fn3 (a : Int) : c52.fn [.iface 90 (.agg [dI a])] [] = some (True, dB (mIn a 0 100000), []) := c52_fn (.widen a)
theorem c52_ok : c52.ok Try.prog := mkCon_ok fun c _ => by
  refine pco_of_run [] (E := ⟨[c45, c43], [], []⟩) (m := false) (base := 0) (Env.ok_cons c45_ok (Env.ok_cons c43_ok Env.ok_nil)) G_ok mix 300 6 Try.func52 (by kernel_rfl) rfl (by kernel_rfl) (by kernel_rfl) rfl ?_
  rcases c with s | s | n
  · obtain ⟨a, b⟩ := s
    simp [Try.f52, okChg]
  · obtain ⟨a, b⟩ := s
    simp [Try.f52, okChg]
  · simp [Try.f52, okChg]
def appChg (s : TSpan) : Chg → TSpan
  | .meet o => mMeet s o
  | .cover o => mHull s o
  | .widen n => mWiden s n
def kChg (s : TSpan) (c : Chg) : Bool := mIsSpan s && okChg c && mIsSpan (appChg s c)
noncomputable def c37 : Con := mkCon 37 false (α := TSpan × Chg) (fun c => [encTSpan c.1, encChg c.2]) (fun _ => []) (fun _ => True) (fun c => rSpan (kChg c.1 c.2) (appChg c.1 c.2) ⟨0, 0⟩) (fun _ => [])
@[simp] theorem c37_f : c37.f = 37 := rfl
@[simp] theorem c37_own : c37.own = false := rfl
theorem c37_inj : ∀ x y : TSpan × Chg, ([encTSpan x.1, encChg x.2]).map nz = ([encTSpan y.1, encChg y.2]).map nz → x = y := by
  intro ⟨⟨a, b⟩, x⟩ ⟨⟨c, d⟩, y⟩ h
  simp only [List.map_cons, List.map_nil, List.cons.injEq, and_true, encTSpan, nz_agg, nz1_lit, D.agg.injEq, D.lit.injEq, Value.int.injEq, true_and] at h
  obtain ⟨⟨rfl, rfl⟩, h⟩ := h
  rw [encChg_inj _ _ h]
theorem c37_fn (s : TSpan) (c : Chg) : c37.fn [encTSpan s, encChg c] [] = some (True, rSpan (kChg s c) (appChg s c) ⟨0, 0⟩, []) := mkCon_fn (fun x y h _ => c37_inj x y h) (s, c) rfl rfl
@[simp] theorem c37_fn1 (u v a b : Int) : c37.fn [.agg [dI u, dI v], .iface 67 (.agg [dI a, dI b])] [] = some (True, rSpan (kChg ⟨u, v⟩ (.meet ⟨a, b⟩)) (mMeet ⟨u, v⟩ ⟨a, b⟩) ⟨0, 0⟩, []) := c37_fn ⟨u, v⟩ (.meet ⟨a, b⟩)
@[simp] theorem c37_fn2 (u v a b : Int) : c37.fn [.agg [dI u, dI v], .iface 88 (.agg [dI a, dI b])] [] = some (True, rSpan (kChg ⟨u, v⟩ (.cover ⟨a, b⟩)) (mHull ⟨u, v⟩ ⟨a, b⟩) ⟨0, 0⟩, []) := c37_fn ⟨u, v⟩ (.cover ⟨a, b⟩)
@[simp] theorem c37_fn3 (u v a : Int) : c37.fn [.agg [dI u, dI v], .iface 90 (.agg [dI a])] [] = some (True, rSpan (kChg ⟨u, v⟩ (.widen a)) (mWiden ⟨u, v⟩ a) ⟨0, 0⟩, []) := c37_fn ⟨u, v⟩ (.widen a)
theorem c37_ok : c37.ok Try.prog := mkCon_ok fun ⟨s, c⟩ _ => by
  refine pco_of_run [] (E := ⟨[c45, c52, c85, c87, c88], [(67, "loop.example/g03007/impl.applyTo", 85), (88, "loop.example/g03007/impl.applyTo", 87), (90, "loop.example/g03007/impl.applyTo", 88)], []⟩) (m := false) (base := 0)
    (Env.ok_cons c45_ok (Env.ok_cons c52_ok (Env.ok_cons c85_ok (Env.ok_cons c87_ok (Env.ok_cons c88_ok (Env.ok_me (meth_of (by kernel_rfl) (by kernel_rfl)) (Env.ok_me (meth_of (by kernel_rfl) (by kernel_rfl)) (Env.ok_me (meth_of (by kernel_rfl) (by kernel_rfl)) Env.ok_nil)))))))) G_ok mix 300 6 Try.func37 (by kernel_rfl) rfl (by kernel_rfl) (by kernel_rfl) rfl ?_
  obtain ⟨u, v⟩ := s
  have key : ∀ c, kChg ⟨u, v⟩ c = (mIsSpan ⟨u, v⟩ && okChg c && mIsSpan (appChg ⟨u, v⟩ c)) := fun _ => rfl
  rcases c with s | s | n
  · obtain ⟨a, b⟩ := s
    have k := key (.meet ⟨a, b⟩)
    simp only [okChg, appChg] at k
    simp [Try.f37]
    rw [k]
    cases mIsSpan ⟨u, v⟩ <;> cases mIsSpan ⟨a, b⟩ <;> cases mIsSpan (mMeet ⟨u, v⟩ ⟨a, b⟩) <;> simp [appChg]
  · obtain ⟨a, b⟩ := s
    have k := key (.cover ⟨a, b⟩)
    simp only [okChg, appChg] at k
    simp [Try.f37]
    rw [k]
    cases mIsSpan ⟨u, v⟩ <;> cases mIsSpan ⟨a, b⟩ <;> cases mIsSpan (mHull ⟨u, v⟩ ⟨a, b⟩) <;> simp [appChg]
  · have k := key (.widen n)
    simp only [okChg, appChg] at k
    simp [Try.f37]
    rw [k]
    cases h1 : mIsSpan ⟨u, v⟩ <;> cases h2 : mIn n 0 100000 <;> cases mIsSpan (mWiden ⟨u, v⟩ n) <;> simp [appChg, *]
/-- loop.example/g03007/impl.Meet -/
noncomputable def c25 : Con := mkCon 25 false (α := TSpan × TSpan) (fun x => (fun (a : TSpan) (b : TSpan) => [encTSpan a, encTSpan b]) x.1 x.2) (fun _ => []) (fun x => (fun (a : TSpan) (b : TSpan) => True) x.1 x.2) (fun x => (fun (a : TSpan) (b : TSpan) => (rSpan (kMeet a b) (mMeet a b) ⟨0, 0⟩ : D)) x.1 x.2) (fun x => (fun (a : TSpan) (b : TSpan) => []) x.1 x.2)
@[simp] theorem c25_f : c25.f = 25 := rfl
@[simp] theorem c25_own : c25.own = false := rfl
theorem c25_inj : ∀ u_ v_ : TSpan × TSpan, ((fun x => (fun (a : TSpan) (b : TSpan) => [encTSpan a, encTSpan b]) x.1 x.2) u_).map nz = ((fun x => (fun (a : TSpan) (b : TSpan) => [encTSpan a, encTSpan b]) x.1 x.2) v_).map nz → u_ = v_ := by
  intro u_ v_ h
  obtain ⟨⟨a_From, a_Until⟩, ⟨b_From, b_Until⟩⟩ := u_
  obtain ⟨⟨a_From', a_Until'⟩, ⟨b_From', b_Until'⟩⟩ := v_
  simp [nz_lit, nz1_lit, nz_agg, nz_sl, nz1_sl, encTSpan] at h
  first | (simp [h]; done) | (obtain ⟨⟩ := h; simp_all; done) | simp_all
@[simp] theorem c25_fn (a_From : Int) (a_Until : Int) (b_From : Int) (b_Until : Int) : c25.fn [.agg [.lit (.int .i64 a_From), .lit (.int .i64 a_Until)], .agg [.lit (.int .i64 b_From), .lit (.int .i64 b_Until)]] [] = some ((fun (a : TSpan) (b : TSpan) => True) ⟨a_From, a_Until⟩ ⟨b_From, b_Until⟩, (fun (a : TSpan) (b : TSpan) => (rSpan (kMeet a b) (mMeet a b) ⟨0, 0⟩ : D)) ⟨a_From, a_Until⟩ ⟨b_From, b_Until⟩, (fun (a : TSpan) (b : TSpan) => []) ⟨a_From, a_Until⟩ ⟨b_From, b_Until⟩) :=
  mkCon_fn (fun x y h _ => c25_inj x y h) ((⟨a_From, a_Until⟩, ⟨b_From, b_Until⟩) : TSpan × TSpan) (by simp [nz, nz1, ML_nil, encTSpan]) rfl
theorem c25_pc (a : TSpan) (b : TSpan) : PCo Try.prog 25 [encTSpan a, encTSpan b] (Tab.of []) (rSpan (kMeet a b) (mMeet a b) ⟨0, 0⟩) (Tab.of []) := by
  obtain ⟨a_From, a_Until⟩ := a
  obtain ⟨b_From, b_Until⟩ := b
  refine pco_of_run [] (E := ⟨[c37], [], []⟩) (m := false) (base := 0) (Env.ok_cons c37_ok Env.ok_nil) G_ok mix 300 6 Try.func25 (by kernel_rfl) rfl (by kernel_rfl) (by kernel_rfl) rfl ?_
  simp [Try.f25]
  simp [kChg, kMeet, okChg, appChg]
theorem c25_ok : c25.ok Try.prog := mkCon_ok fun ⟨a, b⟩ hpre => c25_pc a b
theorem hull_ok {a b : TSpan} (h : kHull a b = true) : mIsSpan (mHull a b) = true := by
  simp [kHull] at h
  have h1 := isSpan_of h.1
  have h2 := isSpan_of h.2
  simp only [mHull]; simp only [mIsSpan, Bool.and_eq_true, decide_eq_true_eq]; omega
theorem widen_ok {a : TSpan} {n : Int} (h : kWiden a n = true) : mIsSpan (mWiden a n) = true := by
  simp [kWiden] at h
  have h1 := isSpan_of h.1
  have h2 := in_of h.2
  simp only [mWiden]; simp only [mIsSpan, Bool.and_eq_true, decide_eq_true_eq]; omega
theorem kChg_hull (a b : TSpan) : kChg a (.cover b) = kHull a b := by
  simp only [kChg, okChg, appChg]
  cases h : kHull a b with
  | true => rw [hull_ok h]; simpa [kHull] using h
  | false => simp [kHull] at h; grind
theorem kChg_widen (a : TSpan) (n : Int) : kChg a (.widen n) = kWiden a n := by
  simp only [kChg, okChg, appChg]
  cases h : kWiden a n with
  | true => rw [widen_ok h]; simpa [kWiden] using h
  | false => simp [kWiden] at h; grind
end Go.Proofs.Ytelhilcdlfjafaa
