/- Contracts of the functions that the laws run. -/
import Derived.Test.Ytlpobdjfdbfhaaach01a
import Derived.Test.YtlpobdjfdbfhaaaEngB
namespace Go.Proofs.Ytlpobdjfdbfhaaa
open Go Go.Eng
set_option linter.unusedSimpArgs false
set_option linter.unusedVariables false
set_option maxRecDepth 10000
set_option maxHeartbeats 1000000
inductive Chg where
  | meet (s : TSpan)
  | cover (s : TSpan)
  | widen (n : Int)
@[simp] def encChg : Chg → D
  | .meet s => .iface 214 (encTMeeting ⟨s⟩)
  | .cover s => .iface 239 (encTMeeting ⟨s⟩)
  | .widen n => .iface 241 (encTWidening ⟨n⟩)
theorem encChg_inj : ∀ a b : Chg, nz (encChg a) = nz (encChg b) → a = b := by
  intro a b h
  cases a with
  | meet s => cases b with
    | meet u => obtain ⟨a, b⟩ := s; obtain ⟨c, d⟩ := u; simp [nz_iface] at h; simp [h]
    | _ => simp [nz_iface] at h
  | cover s => cases b with
    | cover u => obtain ⟨a, b⟩ := s; obtain ⟨c, d⟩ := u; simp [nz_iface] at h; simp [h]
    | _ => simp [nz_iface] at h
  | widen n => cases b with
    | widen k => simp [nz_iface] at h; simp [h]
    | _ => simp [nz_iface] at h
def okChg : Chg → Bool
  | .meet s => mIsSpan s
  | .cover s => mIsSpan s
  | .widen n => mIn n 0 100000
noncomputable def c246 : Con := mkCon 246 false (α := Chg) (fun c => [encChg c]) (fun _ => []) (fun _ => True) (fun c => dB (okChg c)) (fun _ => [])
@[simp] theorem c246_f : c246.f = 246 := rfl
@[simp] theorem c246_own : c246.own = false := rfl
theorem c246_inj : ∀ x y : Chg, ([encChg x]).map nz = ([encChg y]).map nz → x = y := by
  intro x y h
  simp only [List.map_cons, List.map_nil, List.cons.injEq, and_true] at h
  exact encChg_inj _ _ h
theorem c246_fn (c : Chg) : c246.fn [encChg c] [] = some (True, dB (okChg c), []) := mkCon_fn (fun x y h _ => c246_inj x y h) c rfl rfl
@[simp] theorem c246_fn1 (a b : Int) : c246.fn [.iface 214 (.agg [dI a, dI b])] [] = some (True, dB (mIsSpan ⟨a, b⟩), []) := c246_fn (.meet ⟨a, b⟩)
@[simp] theorem c246_fn2 (a b : Int) : c246.fn [.iface 239 (.agg [dI a, dI b])] [] = some (True, dB (mIsSpan ⟨a, b⟩), []) := c246_fn (.cover ⟨a, b⟩)
@[simp] theorem c246_fn3 (a : Int) : c246.fn [.iface 241 (.agg [dI a])] [] = some (True, dB (mIn a 0 100000), []) := c246_fn (.widen a)
theorem c246_ok : c246.ok Try.prog := mkCon_ok fun c _ => by
  refine pco_of_run [] (E := ⟨[c137, c135], []⟩) (m := false) (base := 0) (Env.ok_cons c137_ok (Env.ok_cons c135_ok Env.ok_nil)) G_ok mix 300 6 Try.func246 (by kernel_rfl) rfl (by kernel_rfl) (by kernel_rfl) rfl ?_
  rcases c with s | s | n
  · obtain ⟨a, b⟩ := s
    simp [Try.f246, okChg]
  · obtain ⟨a, b⟩ := s
    simp [Try.f246, okChg]
  · simp [Try.f246, okChg]
def appChg (s : TSpan) : Chg → TSpan
  | .meet o => mMeet s o
  | .cover o => mHull s o
  | .widen n => mWiden s n
def kChg (s : TSpan) (c : Chg) : Bool := mIsSpan s && okChg c && mIsSpan (appChg s c)
noncomputable def c231 : Con := mkCon 231 false (α := TSpan × Chg) (fun c => [encTSpan c.1, encChg c.2]) (fun _ => []) (fun _ => True) (fun c => rSpan (kChg c.1 c.2) (appChg c.1 c.2) ⟨0, 0⟩) (fun _ => [])
@[simp] theorem c231_f : c231.f = 231 := rfl
@[simp] theorem c231_own : c231.own = false := rfl
theorem c231_inj : ∀ x y : TSpan × Chg, ([encTSpan x.1, encChg x.2]).map nz = ([encTSpan y.1, encChg y.2]).map nz → x = y := by
  intro ⟨⟨a, b⟩, x⟩ ⟨⟨c, d⟩, y⟩ h
  simp only [List.map_cons, List.map_nil, List.cons.injEq, and_true, encTSpan, nz_agg, nz1_lit, D.agg.injEq, D.lit.injEq, Value.int.injEq, true_and] at h
  obtain ⟨⟨rfl, rfl⟩, h⟩ := h
  rw [encChg_inj _ _ h]
theorem c231_fn (s : TSpan) (c : Chg) : c231.fn [encTSpan s, encChg c] [] = some (True, rSpan (kChg s c) (appChg s c) ⟨0, 0⟩, []) := mkCon_fn (fun x y h _ => c231_inj x y h) (s, c) rfl rfl
@[simp] theorem c231_fn1 (u v a b : Int) : c231.fn [.agg [dI u, dI v], .iface 214 (.agg [dI a, dI b])] [] = some (True, rSpan (kChg ⟨u, v⟩ (.meet ⟨a, b⟩)) (mMeet ⟨u, v⟩ ⟨a, b⟩) ⟨0, 0⟩, []) := c231_fn ⟨u, v⟩ (.meet ⟨a, b⟩)
@[simp] theorem c231_fn2 (u v a b : Int) : c231.fn [.agg [dI u, dI v], .iface 239 (.agg [dI a, dI b])] [] = some (True, rSpan (kChg ⟨u, v⟩ (.cover ⟨a, b⟩)) (mHull ⟨u, v⟩ ⟨a, b⟩) ⟨0, 0⟩, []) := c231_fn ⟨u, v⟩ (.cover ⟨a, b⟩)
@[simp] theorem c231_fn3 (u v a : Int) : c231.fn [.agg [dI u, dI v], .iface 241 (.agg [dI a])] [] = some (True, rSpan (kChg ⟨u, v⟩ (.widen a)) (mWiden ⟨u, v⟩ a) ⟨0, 0⟩, []) := c231_fn ⟨u, v⟩ (.widen a)
theorem c231_ok : c231.ok Try.prog := mkCon_ok fun ⟨s, c⟩ _ => by
  refine pco_of_run [] (E := ⟨[c137, c246, c277, c278, c279], [(214, "loop.example/g03007/impl.applyTo", 277), (239, "loop.example/g03007/impl.applyTo", 278), (241, "loop.example/g03007/impl.applyTo", 279)]⟩) (m := false) (base := 0)
    (Env.ok_cons c137_ok (Env.ok_cons c246_ok (Env.ok_cons c277_ok (Env.ok_cons c278_ok (Env.ok_cons c279_ok (Env.ok_me (meth_of (by kernel_rfl) (by kernel_rfl)) (Env.ok_me (meth_of (by kernel_rfl) (by kernel_rfl)) (Env.ok_me (meth_of (by kernel_rfl) (by kernel_rfl)) Env.ok_nil)))))))) G_ok mix 300 6 Try.func231 (by kernel_rfl) rfl (by kernel_rfl) (by kernel_rfl) rfl ?_
  obtain ⟨u, v⟩ := s
  have key : ∀ c, kChg ⟨u, v⟩ c = (mIsSpan ⟨u, v⟩ && okChg c && mIsSpan (appChg ⟨u, v⟩ c)) := fun _ => rfl
  rcases c with s | s | n
  · obtain ⟨a, b⟩ := s
    have k := key (.meet ⟨a, b⟩)
    simp only [okChg, appChg] at k
    simp [Try.f231]
    rw [k]
    cases mIsSpan ⟨u, v⟩ <;> cases mIsSpan ⟨a, b⟩ <;> cases mIsSpan (mMeet ⟨u, v⟩ ⟨a, b⟩) <;> simp [appChg]
  · obtain ⟨a, b⟩ := s
    have k := key (.cover ⟨a, b⟩)
    simp only [okChg, appChg] at k
    simp [Try.f231]
    rw [k]
    cases mIsSpan ⟨u, v⟩ <;> cases mIsSpan ⟨a, b⟩ <;> cases mIsSpan (mHull ⟨u, v⟩ ⟨a, b⟩) <;> simp [appChg]
  · have k := key (.widen n)
    simp only [okChg, appChg] at k
    simp [Try.f231]
    rw [k]
    cases h1 : mIsSpan ⟨u, v⟩ <;> cases h2 : mIn n 0 100000 <;> cases mIsSpan (mWiden ⟨u, v⟩ n) <;> simp [appChg, *]
/-- loop.example/g03007/impl.Meet -/
noncomputable def c222 : Con := mkCon 222 false (α := TSpan × TSpan) (fun x => (fun (a : TSpan) (b : TSpan) => [encTSpan a, encTSpan b]) x.1 x.2) (fun _ => []) (fun x => (fun (a : TSpan) (b : TSpan) => True) x.1 x.2) (fun x => (fun (a : TSpan) (b : TSpan) => (rSpan (kMeet a b) (mMeet a b) ⟨0, 0⟩ : D)) x.1 x.2) (fun x => (fun (a : TSpan) (b : TSpan) => []) x.1 x.2)
@[simp] theorem c222_f : c222.f = 222 := rfl
@[simp] theorem c222_own : c222.own = false := rfl
theorem c222_inj : ∀ u_ v_ : TSpan × TSpan, ((fun x => (fun (a : TSpan) (b : TSpan) => [encTSpan a, encTSpan b]) x.1 x.2) u_).map nz = ((fun x => (fun (a : TSpan) (b : TSpan) => [encTSpan a, encTSpan b]) x.1 x.2) v_).map nz → u_ = v_ := by
  intro u_ v_ h
  obtain ⟨⟨a_From, a_Until⟩, ⟨b_From, b_Until⟩⟩ := u_
  obtain ⟨⟨a_From', a_Until'⟩, ⟨b_From', b_Until'⟩⟩ := v_
  simp [nz_lit, nz1_lit, nz_agg, nz_sl, nz1_sl, encTSpan] at h
  first | (simp [h]; done) | (obtain ⟨⟩ := h; simp_all; done) | simp_all
@[simp] theorem c222_fn (a_From : Int) (a_Until : Int) (b_From : Int) (b_Until : Int) : c222.fn [.agg [.lit (.int .i64 a_From), .lit (.int .i64 a_Until)], .agg [.lit (.int .i64 b_From), .lit (.int .i64 b_Until)]] [] = some ((fun (a : TSpan) (b : TSpan) => True) ⟨a_From, a_Until⟩ ⟨b_From, b_Until⟩, (fun (a : TSpan) (b : TSpan) => (rSpan (kMeet a b) (mMeet a b) ⟨0, 0⟩ : D)) ⟨a_From, a_Until⟩ ⟨b_From, b_Until⟩, (fun (a : TSpan) (b : TSpan) => []) ⟨a_From, a_Until⟩ ⟨b_From, b_Until⟩) :=
  mkCon_fn (fun x y h _ => c222_inj x y h) ((⟨a_From, a_Until⟩, ⟨b_From, b_Until⟩) : TSpan × TSpan) (by simp [nz, nz1, ML_nil, encTSpan]) rfl
theorem c222_pc (a : TSpan) (b : TSpan) : PCo Try.prog 222 [encTSpan a, encTSpan b] (Tab.of []) (rSpan (kMeet a b) (mMeet a b) ⟨0, 0⟩) (Tab.of []) := by
  obtain ⟨a_From, a_Until⟩ := a
  obtain ⟨b_From, b_Until⟩ := b
  refine pco_of_run [] (E := ⟨[c231], []⟩) (m := false) (base := 0) (Env.ok_cons c231_ok Env.ok_nil) G_ok mix 300 6 Try.func222 (by kernel_rfl) rfl (by kernel_rfl) (by kernel_rfl) rfl ?_
  simp [Try.f222]
  simp [kChg, kMeet, okChg, appChg]
theorem c222_ok : c222.ok Try.prog := mkCon_ok fun ⟨a, b⟩ hpre => c222_pc a b
theorem hull_ok {a b : TSpan} (h : kHull a b = true) : mIsSpan (mHull a b) = true := by
  simp [kHull] at h
  have h1 := isSpan_of h.1
  have h2 := isSpan_of h.2
  simp only [mHull]; simp only [mIsSpan, Bool.and_eq_true, decide_eq_true_eq]; omega
theorem widen_ok {a : TSpan} {n : Int} (h : kWiden a n = true) : mIsSpan (mWiden a n) = true := by
  simp [kWiden] at h
  have h1 := isSpan_of h.1
  have h2 := in_of h.2
  simp only [mWiden]; simp only [mIsSpan, Bool.and_eq_true, decide_eq_true_eq]; omega
theorem kChg_hull (a b : TSpan) : kChg a (.cover b) = kHull a b := by
  simp only [kChg, okChg, appChg]
  cases h : kHull a b with
  | true => rw [hull_ok h]; simpa [kHull] using h
  | false => simp [kHull] at h; grind
theorem kChg_widen (a : TSpan) (n : Int) : kChg a (.widen n) = kWiden a n := by
  simp only [kChg, okChg, appChg]
  cases h : kWiden a n with
  | true => rw [widen_ok h]; simpa [kWiden] using h
  | false => simp [kWiden] at h; grind
end Go.Proofs.Ytlpobdjfdbfhaaa
