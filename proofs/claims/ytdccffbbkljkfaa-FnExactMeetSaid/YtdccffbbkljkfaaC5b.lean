/- Contracts of the functions that the laws run. -/
import Derived.Test.YtdccffbbkljkfaaC5
namespace Go.Proofs.Ytdccffbbkljkfaa
open Go Go.Eng
set_option linter.unusedSimpArgs false
set_option linter.unusedVariables false
set_option maxRecDepth 10000
inductive Chg where
  | meet (s : TSpan)
  | cover (s : TSpan)
  | widen (n : Int)
@[simp] def encChg : Chg → D
  | .meet s => .iface 100 (encTMeeting ⟨s⟩)
  | .cover s => .iface 101 (encTMeeting ⟨s⟩)
  | .widen n => .iface 103 (encTWidening ⟨n⟩)
theorem encChg_inj : ∀ a b : Chg, nz (encChg a) = nz (encChg b) → a = b := by
  intro a b h
  cases a with
  | meet s => cases b with
    | meet u => obtain ⟨a, b⟩ := s; obtain ⟨c, d⟩ := u; simp [nz_iface] at h; simp [h]
    | _ => simp [nz_iface] at h
  | cover s => cases b with
    | cover u => obtain ⟨a, b⟩ := s; obtain ⟨c, d⟩ := u; simp [nz_iface] at h; simp [h]
    | _ => simp [nz_iface] at h
  | widen n => cases b with
    | widen k => simp [nz_iface] at h; simp [h]
    | _ => simp [nz_iface] at h
def okChg : Chg → Bool
  | .meet s => mIsSpan s
  | .cover s => mIsSpan s
  | .widen n => mIn n 0 100000
noncomputable def c135 : Con := mkCon 135 false (α := Chg) (fun c => [encChg c]) (fun _ => []) (fun _ => True) (fun c => dB (okChg c)) (fun _ => [])
@[simp] theorem c135_f : c135.f = 135 := rfl
@[simp] theorem c135_own : c135.own = false := rfl
theorem c135_inj : ∀ x y : Chg, ([encChg x]).map nz = ([encChg y]).map nz → x = y := by
  intro x y h
  simp only [List.map_cons, List.map_nil, List.cons.injEq, and_true] at h
  exact encChg_inj _ _ h
theorem c135_fn (c : Chg) : c135.fn [encChg c] [] = some (True, dB (okChg c), []) := mkCon_fn (fun x y h _ => c135_inj x y h) c rfl rfl
@[simp] theorem c135_fn1 (a b : Int) : c135.fn [.iface 100 (.agg [dI a, dI b])] [] = some (True, dB (mIsSpan ⟨a, b⟩), []) := c135_fn (.meet ⟨a, b⟩)
@[simp] theorem c135_fn2 (a b : Int) : c135.fn [.iface 101 (.agg [dI a, dI b])] [] = some (True, dB (mIsSpan ⟨a, b⟩), []) := c135_fn (.cover ⟨a, b⟩)
@[simp] theorem c135_fn3 (a : Int) : c135.fn [.iface 103 (.agg [dI a])] [] = some (True, dB (mIn a 0 100000), []) := c135_fn (.widen a)
theorem c135_ok : c135.ok Try.prog := mkCon_ok fun c _ => by
  refine pco_of_run [] (E := ⟨[c101, c46], []⟩) (m := false) (base := 0) (Env.ok_cons c101_ok (Env.ok_cons c46_ok Env.ok_nil)) G_ok mix 300 6 Try.func135 (by kernel_rfl) rfl (by kernel_rfl) (by kernel_rfl) rfl ?_
  rcases c with s | s | n
  · obtain ⟨a, b⟩ := s
    simp [Try.f135, okChg]
  · obtain ⟨a, b⟩ := s
    simp [Try.f135, okChg]
  · simp [Try.f135, okChg]
def appChg (s : TSpan) : Chg → TSpan
  | .meet o => mMeet s o
  | .cover o => mHull s o
  | .widen n => mWiden s n
def kChg (s : TSpan) (c : Chg) : Bool := mIsSpan s && okChg c && mIsSpan (appChg s c)
noncomputable def c129 : Con := mkCon 129 false (α := TSpan × Chg) (fun c => [encTSpan c.1, encChg c.2]) (fun _ => []) (fun _ => True) (fun c => rSpan (kChg c.1 c.2) (appChg c.1 c.2) ⟨0, 0⟩) (fun _ => [])
@[simp] theorem c129_f : c129.f = 129 := rfl
@[simp] theorem c129_own : c129.own = false := rfl
theorem c129_inj : ∀ x y : TSpan × Chg, ([encTSpan x.1, encChg x.2]).map nz = ([encTSpan y.1, encChg y.2]).map nz → x = y := by
  intro ⟨⟨a, b⟩, x⟩ ⟨⟨c, d⟩, y⟩ h
  simp only [List.map_cons, List.map_nil, List.cons.injEq, and_true, encTSpan, nz_agg, nz1_lit, D.agg.injEq, D.lit.injEq, Value.int.injEq, true_and] at h
  obtain ⟨⟨rfl, rfl⟩, h⟩ := h
  rw [encChg_inj _ _ h]
theorem c129_fn (s : TSpan) (c : Chg) : c129.fn [encTSpan s, encChg c] [] = some (True, rSpan (kChg s c) (appChg s c) ⟨0, 0⟩, []) := mkCon_fn (fun x y h _ => c129_inj x y h) (s, c) rfl rfl
@[simp] theorem c129_fn1 (u v a b : Int) : c129.fn [.agg [dI u, dI v], .iface 100 (.agg [dI a, dI b])] [] = some (True, rSpan (kChg ⟨u, v⟩ (.meet ⟨a, b⟩)) (mMeet ⟨u, v⟩ ⟨a, b⟩) ⟨0, 0⟩, []) := c129_fn ⟨u, v⟩ (.meet ⟨a, b⟩)
@[simp] theorem c129_fn2 (u v a b : Int) : c129.fn [.agg [dI u, dI v], .iface 101 (.agg [dI a, dI b])] [] = some (True, rSpan (kChg ⟨u, v⟩ (.cover ⟨a, b⟩)) (mHull ⟨u, v⟩ ⟨a, b⟩) ⟨0, 0⟩, []) := c129_fn ⟨u, v⟩ (.cover ⟨a, b⟩)
@[simp] theorem c129_fn3 (u v a : Int) : c129.fn [.agg [dI u, dI v], .iface 103 (.agg [dI a])] [] = some (True, rSpan (kChg ⟨u, v⟩ (.widen a)) (mWiden ⟨u, v⟩ a) ⟨0, 0⟩, []) := c129_fn ⟨u, v⟩ (.widen a)
theorem c129_ok : c129.ok Try.prog := mkCon_ok fun ⟨s, c⟩ _ => by
  refine pco_of_run [] (E := ⟨[c101, c135, c153, c154, c155], [(100, "loop.example/g03007/impl.applyTo", 153), (101, "loop.example/g03007/impl.applyTo", 154), (103, "loop.example/g03007/impl.applyTo", 155)]⟩) (m := false) (base := 0)
    (Env.ok_cons c101_ok (Env.ok_cons c135_ok (Env.ok_cons c153_ok (Env.ok_cons c154_ok (Env.ok_cons c155_ok (Env.ok_me (meth_of (by kernel_rfl) (by kernel_rfl)) (Env.ok_me (meth_of (by kernel_rfl) (by kernel_rfl)) (Env.ok_me (meth_of (by kernel_rfl) (by kernel_rfl)) Env.ok_nil)))))))) G_ok mix 300 6 Try.func129 (by kernel_rfl) rfl (by kernel_rfl) (by kernel_rfl) rfl ?_
  obtain ⟨u, v⟩ := s
  have key : ∀ c, kChg ⟨u, v⟩ c = (mIsSpan ⟨u, v⟩ && okChg c && mIsSpan (appChg ⟨u, v⟩ c)) := fun _ => rfl
  rcases c with s | s | n
  · obtain ⟨a, b⟩ := s
    have k := key (.meet ⟨a, b⟩)
    simp only [okChg, appChg] at k
    simp [Try.f129]
    rw [k]
    cases mIsSpan ⟨u, v⟩ <;> cases mIsSpan ⟨a, b⟩ <;> cases mIsSpan (mMeet ⟨u, v⟩ ⟨a, b⟩) <;> simp [appChg]
  · obtain ⟨a, b⟩ := s
    have k := key (.cover ⟨a, b⟩)
    simp only [okChg, appChg] at k
    simp [Try.f129]
    rw [k]
    cases mIsSpan ⟨u, v⟩ <;> cases mIsSpan ⟨a, b⟩ <;> cases mIsSpan (mHull ⟨u, v⟩ ⟨a, b⟩) <;> simp [appChg]
  · have k := key (.widen n)
    simp only [okChg, appChg] at k
    simp [Try.f129]
    rw [k]
    cases h1 : mIsSpan ⟨u, v⟩ <;> cases h2 : mIn n 0 100000 <;> cases mIsSpan (mWiden ⟨u, v⟩ n) <;> simp [appChg, *]
/-- loop.example/g03007/impl.Meet -/
noncomputable def c103 : Con := mkCon 103 false (α := TSpan × TSpan) (fun x => (fun (a : TSpan) (b : TSpan) => [encTSpan a, encTSpan b]) x.1 x.2) (fun _ => []) (fun x => (fun (a : TSpan) (b : TSpan) => True) x.1 x.2) (fun x => (fun (a : TSpan) (b : TSpan) => (rSpan (kMeet a b) (mMeet a b) ⟨0, 0⟩ : D)) x.1 x.2) (fun x => (fun (a : TSpan) (b : TSpan) => []) x.1 x.2)
@[simp] theorem c103_f : c103.f = 103 := rfl
@[simp] theorem c103_own : c103.own = false := rfl
theorem c103_inj : ∀ u_ v_ : TSpan × TSpan, ((fun x => (fun (a : TSpan) (b : TSpan) => [encTSpan a, encTSpan b]) x.1 x.2) u_).map nz = ((fun x => (fun (a : TSpan) (b : TSpan) => [encTSpan a, encTSpan b]) x.1 x.2) v_).map nz → u_ = v_ := by
  intro u_ v_ h
  obtain ⟨⟨a_From, a_Until⟩, ⟨b_From, b_Until⟩⟩ := u_
  obtain ⟨⟨a_From', a_Until'⟩, ⟨b_From', b_Until'⟩⟩ := v_
  simp [nz_lit, nz1_lit, nz_agg, nz_sl, nz1_sl, encTSpan] at h
  first | (simp [h]; done) | (obtain ⟨⟩ := h; simp_all; done) | simp_all
@[simp] theorem c103_fn (a_From : Int) (a_Until : Int) (b_From : Int) (b_Until : Int) : c103.fn [.agg [.lit (.int .i64 a_From), .lit (.int .i64 a_Until)], .agg [.lit (.int .i64 b_From), .lit (.int .i64 b_Until)]] [] = some ((fun (a : TSpan) (b : TSpan) => True) ⟨a_From, a_Until⟩ ⟨b_From, b_Until⟩, (fun (a : TSpan) (b : TSpan) => (rSpan (kMeet a b) (mMeet a b) ⟨0, 0⟩ : D)) ⟨a_From, a_Until⟩ ⟨b_From, b_Until⟩, (fun (a : TSpan) (b : TSpan) => []) ⟨a_From, a_Until⟩ ⟨b_From, b_Until⟩) :=
  mkCon_fn (fun x y h _ => c103_inj x y h) ((⟨a_From, a_Until⟩, ⟨b_From, b_Until⟩) : TSpan × TSpan) (by simp [nz, nz1, ML_nil, encTSpan]) rfl
theorem c103_pc (a : TSpan) (b : TSpan) : PCo Try.prog 103 [encTSpan a, encTSpan b] (Tab.of []) (rSpan (kMeet a b) (mMeet a b) ⟨0, 0⟩) (Tab.of []) := by
  obtain ⟨a_From, a_Until⟩ := a
  obtain ⟨b_From, b_Until⟩ := b
  refine pco_of_run [] (E := ⟨[c129], []⟩) (m := false) (base := 0) (Env.ok_cons c129_ok Env.ok_nil) G_ok mix 300 6 Try.func103 (by kernel_rfl) rfl (by kernel_rfl) (by kernel_rfl) rfl ?_
  simp [Try.f103]
  simp [kChg, kMeet, okChg, appChg]
theorem c103_ok : c103.ok Try.prog := mkCon_ok fun ⟨a, b⟩ hpre => c103_pc a b
theorem hull_ok {a b : TSpan} (h : kHull a b = true) : mIsSpan (mHull a b) = true := by
  simp [kHull] at h
  have h1 := isSpan_of h.1
  have h2 := isSpan_of h.2
  simp only [mHull]; simp only [mIsSpan, Bool.and_eq_true, decide_eq_true_eq]; omega
theorem widen_ok {a : TSpan} {n : Int} (h : kWiden a n = true) : mIsSpan (mWiden a n) = true := by
  simp [kWiden] at h
  have h1 := isSpan_of h.1
  have h2 := in_of h.2
  simp only [mWiden]; simp only [mIsSpan, Bool.and_eq_true, decide_eq_true_eq]; omega
theorem kChg_hull (a b : TSpan) : kChg a (.cover b) = kHull a b := by
  simp only [kChg, okChg, appChg]
  cases h : kHull a b with
  | true => rw [hull_ok h]; simpa [kHull] using h
  | false => simp [kHull] at h; grind
theorem kChg_widen (a : TSpan) (n : Int) : kChg a (.widen n) = kWiden a n := by
  simp only [kChg, okChg, appChg]
  cases h : kWiden a n with
  | true => rw [widen_ok h]; simpa [kWiden] using h
  | false => simp [kWiden] at h; grind
/-- loop.example/g03007/impl.Hull -/
noncomputable def c106 : Con := mkCon 106 false (α := TSpan × TSpan) (fun x => (fun (a : TSpan) (b : TSpan) => [encTSpan a, encTSpan b]) x.1 x.2) (fun _ => []) (fun x => (fun (a : TSpan) (b : TSpan) => True) x.1 x.2) (fun x => (fun (a : TSpan) (b : TSpan) => (rSpan (kHull a b) (mHull a b) ⟨0, 0⟩ : D)) x.1 x.2) (fun x => (fun (a : TSpan) (b : TSpan) => []) x.1 x.2)
@[simp] theorem c106_f : c106.f = 106 := rfl
@[simp] theorem c106_own : c106.own = false := rfl
theorem c106_inj : ∀ u_ v_ : TSpan × TSpan, ((fun x => (fun (a : TSpan) (b : TSpan) => [encTSpan a, encTSpan b]) x.1 x.2) u_).map nz = ((fun x => (fun (a : TSpan) (b : TSpan) => [encTSpan a, encTSpan b]) x.1 x.2) v_).map nz → u_ = v_ := by
  intro u_ v_ h
  obtain ⟨⟨a_From, a_Until⟩, ⟨b_From, b_Until⟩⟩ := u_
  obtain ⟨⟨a_From', a_Until'⟩, ⟨b_From', b_Until'⟩⟩ := v_
  simp [nz_lit, nz1_lit, nz_agg, nz_sl, nz1_sl, encTSpan] at h
  first | (simp [h]; done) | (obtain ⟨⟩ := h; simp_all; done) | simp_all
@[simp] theorem c106_fn (a_From : Int) (a_Until : Int) (b_From : Int) (b_Until : Int) : c106.fn [.agg [.lit (.int .i64 a_From), .lit (.int .i64 a_Until)], .agg [.lit (.int .i64 b_From), .lit (.int .i64 b_Until)]] [] = some ((fun (a : TSpan) (b : TSpan) => True) ⟨a_From, a_Until⟩ ⟨b_From, b_Until⟩, (fun (a : TSpan) (b : TSpan) => (rSpan (kHull a b) (mHull a b) ⟨0, 0⟩ : D)) ⟨a_From, a_Until⟩ ⟨b_From, b_Until⟩, (fun (a : TSpan) (b : TSpan) => []) ⟨a_From, a_Until⟩ ⟨b_From, b_Until⟩) :=
  mkCon_fn (fun x y h _ => c106_inj x y h) ((⟨a_From, a_Until⟩, ⟨b_From, b_Until⟩) : TSpan × TSpan) (by simp [nz, nz1, ML_nil, encTSpan]) rfl
theorem c106_pc (a : TSpan) (b : TSpan) : PCo Try.prog 106 [encTSpan a, encTSpan b] (Tab.of []) (rSpan (kHull a b) (mHull a b) ⟨0, 0⟩) (Tab.of []) := by
  obtain ⟨a_From, a_Until⟩ := a
  obtain ⟨b_From, b_Until⟩ := b
  refine pco_of_run [] (E := ⟨[c129], []⟩) (m := false) (base := 0) (Env.ok_cons c129_ok Env.ok_nil) G_ok mix 300 6 Try.func106 (by kernel_rfl) rfl (by kernel_rfl) (by kernel_rfl) rfl ?_
  simp [Try.f106, kChg_hull]
  all_goals first | omega | (rw [Bool.eq_iff_iff]; simp; omega) | grind
theorem c106_ok : c106.ok Try.prog := mkCon_ok fun ⟨a, b⟩ hpre => c106_pc a b
/-- loop.example/g03007/impl.Widen -/
noncomputable def c108 : Con := mkCon 108 false (α := TSpan × Int) (fun x => (fun (s : TSpan) (n : Int) => [encTSpan s, dI n]) x.1 x.2) (fun _ => []) (fun x => (fun (s : TSpan) (n : Int) => True) x.1 x.2) (fun x => (fun (s : TSpan) (n : Int) => (rSpan (kWiden s n) (mWiden s n) s : D)) x.1 x.2) (fun x => (fun (s : TSpan) (n : Int) => []) x.1 x.2)
@[simp] theorem c108_f : c108.f = 108 := rfl
@[simp] theorem c108_own : c108.own = false := rfl
theorem c108_inj : ∀ u_ v_ : TSpan × Int, ((fun x => (fun (s : TSpan) (n : Int) => [encTSpan s, dI n]) x.1 x.2) u_).map nz = ((fun x => (fun (s : TSpan) (n : Int) => [encTSpan s, dI n]) x.1 x.2) v_).map nz → u_ = v_ := by
  intro u_ v_ h
  obtain ⟨⟨s_From, s_Until⟩, n⟩ := u_
  obtain ⟨⟨s_From', s_Until'⟩, n'⟩ := v_
  simp [nz_lit, nz1_lit, nz_agg, nz_sl, nz1_sl, encTSpan] at h
  first | (simp [h]; done) | (obtain ⟨⟩ := h; simp_all; done) | simp_all
@[simp] theorem c108_fn (s_From : Int) (s_Until : Int) (n : Int) : c108.fn [.agg [.lit (.int .i64 s_From), .lit (.int .i64 s_Until)], .lit (.int .i64 n)] [] = some ((fun (s : TSpan) (n : Int) => True) ⟨s_From, s_Until⟩ n, (fun (s : TSpan) (n : Int) => (rSpan (kWiden s n) (mWiden s n) s : D)) ⟨s_From, s_Until⟩ n, (fun (s : TSpan) (n : Int) => []) ⟨s_From, s_Until⟩ n) :=
  mkCon_fn (fun x y h _ => c108_inj x y h) ((⟨s_From, s_Until⟩, n) : TSpan × Int) (by simp [nz, nz1, ML_nil, encTSpan]) rfl
theorem c108_pc (s : TSpan) (n : Int) : PCo Try.prog 108 [encTSpan s, dI n] (Tab.of []) (rSpan (kWiden s n) (mWiden s n) s) (Tab.of []) := by
  obtain ⟨s_From, s_Until⟩ := s
  refine pco_of_run [] (E := ⟨[c129], []⟩) (m := false) (base := 0) (Env.ok_cons c129_ok Env.ok_nil) G_ok mix 300 6 Try.func108 (by kernel_rfl) rfl (by kernel_rfl) (by kernel_rfl) rfl ?_
  simp [Try.f108, kChg_widen]
  refine ⟨fun h => ?_, fun h => ?_⟩ <;> simp [h]
theorem c108_ok : c108.ok Try.prog := mkCon_ok fun ⟨s, n⟩ hpre => c108_pc s n

end Go.Proofs.Ytdccffbbkljkfaa
