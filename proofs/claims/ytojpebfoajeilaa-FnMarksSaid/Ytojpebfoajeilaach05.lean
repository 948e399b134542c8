/- Contracts of the functions that the laws run. -/
import Derived.Test.Ytojpebfoajeilaach01a
import Derived.Test.YtojpebfoajeilaaEngB
namespace Go.Proofs.Ytojpebfoajeilaa
open Go Go.Eng
set_option linter.unusedSimpArgs false
set_option linter.unusedVariables false
set_option maxRecDepth 10000
set_option maxHeartbeats 1000000
inductive Chg where
  | meet (s : TSpan)
  | cover (s : TSpan)
  | widen (n : Int)
@[simp] def encChg : Chg → D
  | .meet s => .iface 56 (encTMeeting ⟨s⟩)
  | .cover s => .iface 58 (encTMeeting ⟨s⟩)
  | .widen n => .iface 64 (encTWidening ⟨n⟩)
theorem encChg_inj : ∀ a b : Chg, nz (encChg a) = nz (encChg b) → a = b := by
  intro a b h
  cases a with
  | meet s => cases b with
    | meet u => obtain ⟨a, b⟩ := s; obtain ⟨c, d⟩ := u; simp [nz_iface] at h; simp [h]
    | _ => simp [nz_iface] at h
  | cover s => cases b with
    | cover u => obtain ⟨a, b⟩ := s; obtain ⟨c, d⟩ := u; simp [nz_iface] at h; simp [h]
    | _ => simp [nz_iface] at h
  | widen n => cases b with
    | widen k => simp [nz_iface] at h; simp [h]
    | _ => simp [nz_iface] at h
def okChg : Chg → Bool
  | .meet s => mIsSpan s
  | .cover s => mIsSpan s
  | .widen n => mIn n 0 100000
noncomputable def c45 : Con := mkCon 45 false (α := Chg) (fun c => [encChg c]) (fun _ => []) (fun _ => True) (fun c => dB (okChg c)) (fun _ => [])
@[simp] theorem c45_f : c45.f = 45 := rfl
@[simp] theorem c45_own : c45.own = false := rfl
theorem c45_inj : ∀ x y : Chg, ([encChg x]).map nz = ([encChg y]).map nz → x = y := by
  intro x y h
  simp only [List.map_cons, List.map_nil, List.cons.injEq, and_true] at h
  exact encChg_inj _ _ h
theorem c45_fn (c : Chg) : c45.fn [encChg c] [] = some (True, dB (okChg c), []) := mkCon_fn (fun x y h _ => c45_inj x y h) c rfl rfl
@[simp] theorem c45_fn1 (a b : Int) : c45.fn [.iface 56 (.agg [dI a, dI b])] [] = some (True, dB (mIsSpan ⟨a, b⟩), []) := c45_fn (.meet ⟨a, b⟩)
@[simp] theorem c45_fn2 (a b : Int) : c45.fn [.iface 58 (.agg [dI a, dI b])] [] = some (True, dB (mIsSpan ⟨a, b⟩), []) := c45_fn (.cover ⟨a, b⟩)
@[simp] theorem c45_fn3 (a : Int) : c45.fn [.iface 64 (.agg [dI a])] [] = some (True, dB (mIn a 0 100000), []) := c45_fn (.widen a)
theorem c45_ok : c45.ok Try.prog := mkCon_ok fun c _ => by
  refine pco_of_run [] (E := ⟨[c15, c31], [], []⟩) (m := false) (base := 0) (Env.ok_cons c15_ok (Env.ok_cons c31_ok Env.ok_nil)) G_ok mix 300 6 Try.func45 (by kernel_rfl) rfl (by kernel_rfl) (by kernel_rfl) rfl ?_
  rcases c with s | s | n
  · obtain ⟨a, b⟩ := s
    simp [Try.f45, okChg]
  · obtain ⟨a, b⟩ := s
    simp [Try.f45, okChg]
  · simp [Try.f45, okChg]
def appChg (s : TSpan) : Chg → TSpan
  | .meet o => mMeet s o
  | .cover o => mHull s o
  | .widen n => mWiden s n
def kChg (s : TSpan) (c : Chg) : Bool := mIsSpan s && okChg c && mIsSpan (appChg s c)
noncomputable def c27 : Con := mkCon 27 false (α := TSpan × Chg) (fun c => [encTSpan c.1, encChg c.2]) (fun _ => []) (fun _ => True) (fun c => rSpan (kChg c.1 c.2) (appChg c.1 c.2) ⟨0, 0⟩) (fun _ => [])
@[simp] theorem c27_f : c27.f = 27 := rfl
@[simp] theorem c27_own : c27.own = false := rfl
theorem c27_inj : ∀ x y : TSpan × Chg, ([encTSpan x.1, encChg x.2]).map nz = ([encTSpan y.1, encChg y.2]).map nz → x = y := by
  intro ⟨⟨a, b⟩, x⟩ ⟨⟨c, d⟩, y⟩ h
  simp only [List.map_cons, List.map_nil, List.cons.injEq, and_true, encTSpan, nz_agg, nz1_lit, D.agg.injEq, D.lit.injEq, Value.int.injEq, true_and] at h
  obtain ⟨⟨rfl, rfl⟩, h⟩ := h
  rw [encChg_inj _ _ h]
theorem c27_fn (s : TSpan) (c : Chg) : c27.fn [encTSpan s, encChg c] [] = some (True, rSpan (kChg s c) (appChg s c) ⟨0, 0⟩, []) := mkCon_fn (fun x y h _ => c27_inj x y h) (s, c) rfl rfl
@[simp] theorem c27_fn1 (u v a b : Int) : c27.fn [.agg [dI u, dI v], .iface 56 (.agg [dI a, dI b])] [] = some (True, rSpan (kChg ⟨u, v⟩ (.meet ⟨a, b⟩)) (mMeet ⟨u, v⟩ ⟨a, b⟩) ⟨0, 0⟩, []) := c27_fn ⟨u, v⟩ (.meet ⟨a, b⟩)
@[simp] theorem c27_fn2 (u v a b : Int) : c27.fn [.agg [dI u, dI v], .iface 58 (.agg [dI a, dI b])] [] = some (True, rSpan (kChg ⟨u, v⟩ (.cover ⟨a, b⟩)) (mHull ⟨u, v⟩ ⟨a, b⟩) ⟨0, 0⟩, []) := c27_fn ⟨u, v⟩ (.cover ⟨a, b⟩)
@[simp] theorem c27_fn3 (u v a : Int) : c27.fn [.agg [dI u, dI v], .iface 64 (.agg [dI a])] [] = some (True, rSpan (kChg ⟨u, v⟩ (.widen a)) (mWiden ⟨u, v⟩ a) ⟨0, 0⟩, []) := c27_fn ⟨u, v⟩ (.widen a)
theorem c27_ok : c27.ok Try.prog := mkCon_ok fun ⟨s, c⟩ _ => by
  refine pco_of_run [] (E := ⟨[c15, c45, c80, c81, c82], [(56, "loop.example/g03007/impl.applyTo", 80), (58, "loop.example/g03007/impl.applyTo", 81), (64, "loop.example/g03007/impl.applyTo", 82)], []⟩) (m := false) (base := 0)
    (Env.ok_cons c15_ok (Env.ok_cons c45_ok (Env.ok_cons c80_ok (Env.ok_cons c81_ok (Env.ok_cons c82_ok (Env.ok_me (meth_of (by kernel_rfl) (by kernel_rfl)) (Env.ok_me (meth_of (by kernel_rfl) (by kernel_rfl)) (Env.ok_me (meth_of (by kernel_rfl) (by kernel_rfl)) Env.ok_nil)))))))) G_ok mix 300 6 Try.func27 (by kernel_rfl) rfl (by kernel_rfl) (by kernel_rfl) rfl ?_
  obtain ⟨u, v⟩ := s
  have key : ∀ c, kChg ⟨u, v⟩ c = (mIsSpan ⟨u, v⟩ && okChg c && mIsSpan (appChg ⟨u, v⟩ c)) := fun _ => rfl
  rcases c with s | s | n
  · obtain ⟨a, b⟩ := s
    have k := key (.meet ⟨a, b⟩)
    simp only [okChg, appChg] at k
    simp [Try.f27]
    rw [k]
    cases mIsSpan ⟨u, v⟩ <;> cases mIsSpan ⟨a, b⟩ <;> cases mIsSpan (mMeet ⟨u, v⟩ ⟨a, b⟩) <;> simp [appChg]
  · obtain ⟨a, b⟩ := s
    have k := key (.cover ⟨a, b⟩)
    simp only [okChg, appChg] at k
    simp [Try.f27]
    rw [k]
    cases mIsSpan ⟨u, v⟩ <;> cases mIsSpan ⟨a, b⟩ <;> cases mIsSpan (mHull ⟨u, v⟩ ⟨a, b⟩) <;> simp [appChg]
  · have k := key (.widen n)
    simp only [okChg, appChg] at k
    simp [Try.f27]
    rw [k]
    cases h1 : mIsSpan ⟨u, v⟩ <;> cases h2 : mIn n 0 100000 <;> cases mIsSpan (mWiden ⟨u, v⟩ n) <;> simp [appChg, *]
/-- loop.example/g03007/impl.Meet -/
noncomputable def c7 : Con := mkCon 7 false (α := TSpan × TSpan) (fun x => (fun (a : TSpan) (b : TSpan) => [encTSpan a, encTSpan b]) x.1 x.2) (fun _ => []) (fun x => (fun (a : TSpan) (b : TSpan) => True) x.1 x.2) (fun x => (fun (a : TSpan) (b : TSpan) => (rSpan (kMeet a b) (mMeet a b) ⟨0, 0⟩ : D)) x.1 x.2) (fun x => (fun (a : TSpan) (b : TSpan) => []) x.1 x.2)
@[simp] theorem c7_f : c7.f = 7 := rfl
@[simp] theorem c7_own : c7.own = false := rfl
theorem c7_inj : ∀ u_ v_ : TSpan × TSpan, ((fun x => (fun (a : TSpan) (b : TSpan) => [encTSpan a, encTSpan b]) x.1 x.2) u_).map nz = ((fun x => (fun (a : TSpan) (b : TSpan) => [encTSpan a, encTSpan b]) x.1 x.2) v_).map nz → u_ = v_ := by
  intro u_ v_ h
  obtain ⟨⟨a_From, a_Until⟩, ⟨b_From, b_Until⟩⟩ := u_
  obtain ⟨⟨a_From', a_Until'⟩, ⟨b_From', b_Until'⟩⟩ := v_
  simp [nz_lit, nz1_lit, nz_agg, nz_sl, nz1_sl, encTSpan] at h
  first | (simp [h]; done) | (obtain ⟨⟩ := h; simp_all; done) | simp_all
@[simp] theorem c7_fn (a_From : Int) (a_Until : Int) (b_From : Int) (b_Until : Int) : c7.fn [.agg [.lit (.int .i64 a_From), .lit (.int .i64 a_Until)], .agg [.lit (.int .i64 b_From), .lit (.int .i64 b_Until)]] [] = some ((fun (a : TSpan) (b : TSpan) => True) ⟨a_From, a_Until⟩ ⟨b_From, b_Until⟩, (fun (a : TSpan) (b : TSpan) => (rSpan (kMeet a b) (mMeet a b) ⟨0, 0⟩ : D)) ⟨a_From, a_Until⟩ ⟨b_From, b_Until⟩, (fun (a : TSpan) (b : TSpan) => []) ⟨a_From, a_Until⟩ ⟨b_From, b_Until⟩) :=
  mkCon_fn (fun x y h _ => c7_inj x y h) ((⟨a_From, a_Until⟩, ⟨b_From, b_Until⟩) : TSpan × TSpan) (by simp [nz, nz1, ML_nil, encTSpan]) rfl
theorem c7_pc (a : TSpan) (b : TSpan) : PCo Try.prog 7 [encTSpan a, encTSpan b] (Tab.of []) (rSpan (kMeet a b) (mMeet a b) ⟨0, 0⟩) (Tab.of []) := by
  obtain ⟨a_From, a_Until⟩ := a
  obtain ⟨b_From, b_Until⟩ := b
  refine pco_of_run [] (E := ⟨[c27], [], []⟩) (m := false) (base := 0) (Env.ok_cons c27_ok Env.ok_nil) G_ok mix 300 6 Try.func7 (by kernel_rfl) rfl (by kernel_rfl) (by kernel_rfl) rfl ?_
  simp [Try.f7]
  simp [kChg, kMeet, okChg, appChg]
theorem c7_ok : c7.ok Try.prog := mkCon_ok fun ⟨a, b⟩ hpre => c7_pc a b
theorem hull_ok {a b : TSpan} (h : kHull a b = true) : mIsSpan (mHull a b) = true := by
  simp [kHull] at h
  have h1 := isSpan_of h.1
  have h2 := isSpan_of h.2
  simp only [mHull]; simp only [mIsSpan, Bool.and_eq_true, decide_eq_true_eq]; omega
theorem widen_ok {a : TSpan} {n : Int} (h : kWiden a n = true) : mIsSpan (mWiden a n) = true := by
  simp [kWiden] at h
  have h1 := isSpan_of h.1
  have h2 := in_of h.2
  simp only [mWiden]; simp only [mIsSpan, Bool.and_eq_true, decide_eq_true_eq]; omega
theorem kChg_hull (a b : TSpan) : kChg a (.cover b) = kHull a b := by
  simp only [kChg, okChg, appChg]
  cases h : kHull a b with
  | true => rw [hull_ok h]; simpa [kHull] using h
  | false => simp [kHull] at h; grind
theorem kChg_widen (a : TSpan) (n : Int) : kChg a (.widen n) = kWiden a n := by
  simp only [kChg, okChg, appChg]
  cases h : kWiden a n with
  | true => rw [widen_ok h]; simpa [kWiden] using h
  | false => simp [kWiden] at h; grind
/-- loop.example/g03007/impl.Hull -/
noncomputable def c9 : Con := mkCon 9 false (α := TSpan × TSpan) (fun x => (fun (a : TSpan) (b : TSpan) => [encTSpan a, encTSpan b]) x.1 x.2) (fun _ => []) (fun x => (fun (a : TSpan) (b : TSpan) => True) x.1 x.2) (fun x => (fun (a : TSpan) (b : TSpan) => (rSpan (kHull a b) (mHull a b) ⟨0, 0⟩ : D)) x.1 x.2) (fun x => (fun (a : TSpan) (b : TSpan) => []) x.1 x.2)
@[simp] theorem c9_f : c9.f = 9 := rfl
@[simp] theorem c9_own : c9.own = false := rfl
theorem c9_inj : ∀ u_ v_ : TSpan × TSpan, ((fun x => (fun (a : TSpan) (b : TSpan) => [encTSpan a, encTSpan b]) x.1 x.2) u_).map nz = ((fun x => (fun (a : TSpan) (b : TSpan) => [encTSpan a, encTSpan b]) x.1 x.2) v_).map nz → u_ = v_ := by
  intro u_ v_ h
  obtain ⟨⟨a_From, a_Until⟩, ⟨b_From, b_Until⟩⟩ := u_
  obtain ⟨⟨a_From', a_Until'⟩, ⟨b_From', b_Until'⟩⟩ := v_
  simp [nz_lit, nz1_lit, nz_agg, nz_sl, nz1_sl, encTSpan] at h
  first | (simp [h]; done) | (obtain ⟨⟩ := h; simp_all; done) | simp_all
@[simp] theorem c9_fn (a_From : Int) (a_Until : Int) (b_From : Int) (b_Until : Int) : c9.fn [.agg [.lit (.int .i64 a_From), .lit (.int .i64 a_Until)], .agg [.lit (.int .i64 b_From), .lit (.int .i64 b_Until)]] [] = some ((fun (a : TSpan) (b : TSpan) => True) ⟨a_From, a_Until⟩ ⟨b_From, b_Until⟩, (fun (a : TSpan) (b : TSpan) => (rSpan (kHull a b) (mHull a b) ⟨0, 0⟩ : D)) ⟨a_From, a_Until⟩ ⟨b_From, b_Until⟩, (fun (a : TSpan) (b : TSpan) => []) ⟨a_From, a_Until⟩ ⟨b_From, b_Until⟩) :=
  mkCon_fn (fun x y h _ => c9_inj x y h) ((⟨a_From, a_Until⟩, ⟨b_From, b_Until⟩) : TSpan × TSpan) (by simp [nz, nz1, ML_nil, encTSpan]) rfl
theorem c9_pc (a : TSpan) (b : TSpan) : PCo Try.prog 9 [encTSpan a, encTSpan b] (Tab.of []) (rSpan (kHull a b) (mHull a b) ⟨0, 0⟩) (Tab.of []) := by
  obtain ⟨a_From, a_Until⟩ := a
  obtain ⟨b_From, b_Until⟩ := b
  refine pco_of_run [] (E := ⟨[c27], [], []⟩) (m := false) (base := 0) (Env.ok_cons c27_ok Env.ok_nil) G_ok mix 300 6 Try.func9 (by kernel_rfl) rfl (by kernel_rfl) (by kernel_rfl) rfl ?_
  simp [Try.f9, kChg_hull]
  all_goals first | omega | (rw [Bool.eq_iff_iff]; simp; omega) | grind
theorem c9_ok : c9.ok Try.prog := mkCon_ok fun ⟨a, b⟩ hpre => c9_pc a b
/-- loop.example/g03007/impl.Widen -/
noncomputable def c14 : Con := mkCon 14 false (α := TSpan × Int) (fun x => (fun (s : TSpan) (n : Int) => [encTSpan s, dI n]) x.1 x.2) (fun _ => []) (fun x => (fun (s : TSpan) (n : Int) => True) x.1 x.2) (fun x => (fun (s : TSpan) (n : Int) => (rSpan (kWiden s n) (mWiden s n) s : D)) x.1 x.2) (fun x => (fun (s : TSpan) (n : Int) => []) x.1 x.2)
@[simp] theorem c14_f : c14.f = 14 := rfl
@[simp] theorem c14_own : c14.own = false := rfl
theorem c14_inj : ∀ u_ v_ : TSpan × Int, ((fun x => (fun (s : TSpan) (n : Int) => [encTSpan s, dI n]) x.1 x.2) u_).map nz = ((fun x => (fun (s : TSpan) (n : Int) => [encTSpan s, dI n]) x.1 x.2) v_).map nz → u_ = v_ := by
  intro u_ v_ h
  obtain ⟨⟨s_From, s_Until⟩, n⟩ := u_
  obtain ⟨⟨s_From', s_Until'⟩, n'⟩ := v_
  simp [nz_lit, nz1_lit, nz_agg, nz_sl, nz1_sl, encTSpan] at h
  first | (simp [h]; done) | (obtain ⟨⟩ := h; simp_all; done) | simp_all
@[simp] theorem c14_fn (s_From : Int) (s_Until : Int) (n : Int) : c14.fn [.agg [.lit (.int .i64 s_From), .lit (.int .i64 s_Until)], .lit (.int .i64 n)] [] = some ((fun (s : TSpan) (n : Int) => True) ⟨s_From, s_Until⟩ n, (fun (s : TSpan) (n : Int) => (rSpan (kWiden s n) (mWiden s n) s : D)) ⟨s_From, s_Until⟩ n, (fun (s : TSpan) (n : Int) => []) ⟨s_From, s_Until⟩ n) :=
  mkCon_fn (fun x y h _ => c14_inj x y h) ((⟨s_From, s_Until⟩, n) : TSpan × Int) (by simp [nz, nz1, ML_nil, encTSpan]) rfl
theorem c14_pc (s : TSpan) (n : Int) : PCo Try.prog 14 [encTSpan s, dI n] (Tab.of []) (rSpan (kWiden s n) (mWiden s n) s) (Tab.of []) := by
  obtain ⟨s_From, s_Until⟩ := s
  refine pco_of_run [] (E := ⟨[c27], [], []⟩) (m := false) (base := 0) (Env.ok_cons c27_ok Env.ok_nil) G_ok mix 300 6 Try.func14 (by kernel_rfl) rfl (by kernel_rfl) (by kernel_rfl) rfl ?_
  simp [Try.f14, kChg_widen]
  refine ⟨fun h => ?_, fun h => ?_⟩ <;> simp [h]
theorem c14_ok : c14.ok Try.prog := mkCon_ok fun ⟨s, n⟩ hpre => c14_pc s n

end Go.Proofs.Ytojpebfoajeilaa
