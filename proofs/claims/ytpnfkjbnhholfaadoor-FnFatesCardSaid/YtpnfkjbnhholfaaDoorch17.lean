/- Contracts of the functions that the laws run. -/
import Derived.Test.YtpnfkjbnhholfaaDoorch06
import Derived.Test.YtpnfkjbnhholfaaDoorch01
import Derived.Test.YtpnfkjbnhholfaaDoorhelpA
import Derived.Test.YtpnfkjbnhholfaaDoorEngB
namespace Go.Proofs.YtpnfkjbnhholfaaDoor
open Go Go.Eng
set_option linter.unusedSimpArgs false
set_option linter.unusedVariables false
set_option maxRecDepth 10000
set_option maxHeartbeats 1000000
def mKeepDays (k : Int) : Int := if mIn k 1 8 then (if k = 7 then 1 else if k = 4 ∨ k = 5 then 180 else 90) else 0
theorem keep_bd (k : Int) : 0 ≤ mKeepDays k ∧ mKeepDays k ≤ 180 := by
  simp only [mKeepDays]; split <;> (try split) <;> (try split) <;> omega
theorem find_at {f : TFind} (h : mIsFind f = true) : 0 ≤ f.At ∧ f.At ≤ 100000 := by
  simp [mIsFind] at h
  have := mIn_iff.1 h.1.2; omega
/-- loop.example/g03007/impl.KeepDays -/
noncomputable def c10 : Con := mkCon 10 false (α := Int) (fun x => (fun (k : Int) => [dI k]) x) (fun _ => []) (fun x => (fun (k : Int) => True) x) (fun x => (fun (k : Int) => (dI (mKeepDays k) : D)) x) (fun x => (fun (k : Int) => []) x)
@[simp] theorem c10_f : c10.f = 10 := rfl
@[simp] theorem c10_own : c10.own = false := rfl
theorem c10_inj : ∀ u_ v_ : Int, ((fun x => (fun (k : Int) => [dI k]) x) u_).map nz = ((fun x => (fun (k : Int) => [dI k]) x) v_).map nz → u_ = v_ := by
  intro u_ v_ h
  obtain k := u_
  obtain k' := v_
  simp [nz_lit, nz1_lit, nz_agg, nz_sl, nz1_sl] at h
  first | (simp [h]; done) | (obtain ⟨⟩ := h; simp_all; done) | simp_all
@[simp] theorem c10_fn (k : Int) : c10.fn [.lit (.int .i64 k)] [] = some ((fun (k : Int) => True) k, (fun (k : Int) => (dI (mKeepDays k) : D)) k, (fun (k : Int) => []) k) :=
  mkCon_fn (fun x y h _ => c10_inj x y h) (k : Int) (by simp [nz, nz1, ML_nil]) rfl
theorem c10_pc (k : Int) : PCo Tryd.prog 10 [dI k] (Tab.of []) (dI (mKeepDays k)) (Tab.of []) := by
  refine pco_of_run [] (E := ⟨[c29], [], []⟩) (m := false) (base := 0) (Env.ok_cons c29_ok Env.ok_nil) G_ok mix 300 6 Tryd.func10 (by kernel_rfl) rfl (by kernel_rfl) (by kernel_rfl) rfl ?_
  by_cases h : mIn k 1 8 = true
  · have h2 := mIn_iff.1 h
    obtain rfl | rfl | rfl | rfl | rfl | rfl | rfl | rfl : k = 1 ∨ k = 2 ∨ k = 3 ∨ k = 4 ∨ k = 5 ∨ k = 6 ∨ k = 7 ∨ k = 8 := by omega
    all_goals simp [Tryd.f10, mKeepDays, mIn]
  · simp only [Bool.not_eq_true] at h
    simp [Tryd.f10, mKeepDays, h]
theorem c10_ok : c10.ok Tryd.prog := mkCon_ok fun k hpre => c10_pc k
def mDueHour (f : TFind) : Int := if mIsFind f then f.At + 24 * mKeepDays f.Thing.Kind else -1
theorem due_bd (f : TFind) : -1 ≤ mDueHour f ∧ mDueHour f ≤ 104320 := by
  simp only [mDueHour]; split
  · rename_i h
    have h1 := find_at h
    have h2 := keep_bd f.Thing.Kind
    omega
  · omega
/-- loop.example/g03007/impl.DueHour -/
noncomputable def c7 : Con := mkCon 7 false (α := TFind) (fun x => (fun (f : TFind) => [encTFind f]) x) (fun _ => []) (fun x => (fun (f : TFind) => True) x) (fun x => (fun (f : TFind) => (dI (mDueHour f) : D)) x) (fun x => (fun (f : TFind) => []) x)
@[simp] theorem c7_f : c7.f = 7 := rfl
@[simp] theorem c7_own : c7.own = false := rfl
theorem c7_inj : ∀ u_ v_ : TFind, ((fun x => (fun (f : TFind) => [encTFind f]) x) u_).map nz = ((fun x => (fun (f : TFind) => [encTFind f]) x) v_).map nz → u_ = v_ := by
  intro u_ v_ h
  obtain ⟨⟨f_Thing_Id, f_Thing_Kind, f_Thing_Colour, f_Thing_Size, f_Thing_Worth⟩, f_Place, f_At, f_Finder⟩ := u_
  obtain ⟨⟨f_Thing_Id', f_Thing_Kind', f_Thing_Colour', f_Thing_Size', f_Thing_Worth'⟩, f_Place', f_At', f_Finder'⟩ := v_
  simp [nz_lit, nz1_lit, nz_agg, nz_sl, nz1_sl, encTFind, encTThing] at h
  first | (simp [h]; done) | (obtain ⟨⟩ := h; simp_all; done) | simp_all
@[simp] theorem c7_fn (f_Thing_Id : Int) (f_Thing_Kind : Int) (f_Thing_Colour : Int) (f_Thing_Size : Int) (f_Thing_Worth : Int) (f_Place : Int) (f_At : Int) (f_Finder : Int) : c7.fn [.agg [.lit (.int .i64 f_Thing_Id), .lit (.int .i64 f_Thing_Kind), .lit (.int .i64 f_Thing_Colour), .lit (.int .i64 f_Thing_Size), .lit (.int .i64 f_Thing_Worth), .lit (.int .i64 f_Place), .lit (.int .i64 f_At), .lit (.int .i64 f_Finder)]] [] = some ((fun (f : TFind) => True) ⟨⟨f_Thing_Id, f_Thing_Kind, f_Thing_Colour, f_Thing_Size, f_Thing_Worth⟩, f_Place, f_At, f_Finder⟩, (fun (f : TFind) => (dI (mDueHour f) : D)) ⟨⟨f_Thing_Id, f_Thing_Kind, f_Thing_Colour, f_Thing_Size, f_Thing_Worth⟩, f_Place, f_At, f_Finder⟩, (fun (f : TFind) => []) ⟨⟨f_Thing_Id, f_Thing_Kind, f_Thing_Colour, f_Thing_Size, f_Thing_Worth⟩, f_Place, f_At, f_Finder⟩) :=
  mkCon_fn (fun x y h _ => c7_inj x y h) (⟨⟨f_Thing_Id, f_Thing_Kind, f_Thing_Colour, f_Thing_Size, f_Thing_Worth⟩, f_Place, f_At, f_Finder⟩ : TFind) (by simp [nz, nz1, ML_nil, encTFind, encTThing]) rfl
theorem c7_pc (f : TFind) : PCo Tryd.prog 7 [encTFind f] (Tab.of []) (dI (mDueHour f)) (Tab.of []) := by
  refine pco_of_run [3] (E := ⟨[c8, c10], [], []⟩) (m := false) (base := 0) (Env.ok_cons c8_ok (Env.ok_cons c10_ok Env.ok_nil)) G_ok mix 300 6 Tryd.func7 (by kernel_rfl) rfl (by kernel_rfl) (by kernel_rfl) rfl ?_
  cases h : mIsFind f with
  | true =>
    have h1 := find_at h
    have h2 := keep_bd f.Thing.Kind
    obtain ⟨⟨f_Thing_Id, f_Thing_Kind, f_Thing_Colour, f_Thing_Size, f_Thing_Worth⟩, f_Place, f_At, f_Finder⟩ := f
    simp at h1 h2
    simp [Tryd.f7, mDueHour, h]
    omega
  | false =>
    obtain ⟨⟨f_Thing_Id, f_Thing_Kind, f_Thing_Colour, f_Thing_Size, f_Thing_Worth⟩, f_Place, f_At, f_Finder⟩ := f
    simp [Tryd.f7, mDueHour, h]
theorem c7_ok : c7.ok Tryd.prog := mkCon_ok fun f hpre => c7_pc f
def mIsDue (now : Int) (f : TFind) : Bool := mIsFind f && decide (mDueHour f ≤ now)
/-- loop.example/g03007/impl.IsDue -/
noncomputable def c9 : Con := mkCon 9 false (α := TFind × Int) (fun x => (fun (f : TFind) (now : Int) => [encTFind f, dI now]) x.1 x.2) (fun _ => []) (fun x => (fun (f : TFind) (now : Int) => True) x.1 x.2) (fun x => (fun (f : TFind) (now : Int) => (dB (mIsDue now f) : D)) x.1 x.2) (fun x => (fun (f : TFind) (now : Int) => []) x.1 x.2)
@[simp] theorem c9_f : c9.f = 9 := rfl
@[simp] theorem c9_own : c9.own = false := rfl
theorem c9_inj : ∀ u_ v_ : TFind × Int, ((fun x => (fun (f : TFind) (now : Int) => [encTFind f, dI now]) x.1 x.2) u_).map nz = ((fun x => (fun (f : TFind) (now : Int) => [encTFind f, dI now]) x.1 x.2) v_).map nz → u_ = v_ := by
  intro u_ v_ h
  obtain ⟨⟨⟨f_Thing_Id, f_Thing_Kind, f_Thing_Colour, f_Thing_Size, f_Thing_Worth⟩, f_Place, f_At, f_Finder⟩, now⟩ := u_
  obtain ⟨⟨⟨f_Thing_Id', f_Thing_Kind', f_Thing_Colour', f_Thing_Size', f_Thing_Worth'⟩, f_Place', f_At', f_Finder'⟩, now'⟩ := v_
  simp [nz_lit, nz1_lit, nz_agg, nz_sl, nz1_sl, encTFind, encTThing] at h
  first | (simp [h]; done) | (obtain ⟨⟩ := h; simp_all; done) | simp_all
@[simp] theorem c9_fn (f_Thing_Id : Int) (f_Thing_Kind : Int) (f_Thing_Colour : Int) (f_Thing_Size : Int) (f_Thing_Worth : Int) (f_Place : Int) (f_At : Int) (f_Finder : Int) (now : Int) : c9.fn [.agg [.lit (.int .i64 f_Thing_Id), .lit (.int .i64 f_Thing_Kind), .lit (.int .i64 f_Thing_Colour), .lit (.int .i64 f_Thing_Size), .lit (.int .i64 f_Thing_Worth), .lit (.int .i64 f_Place), .lit (.int .i64 f_At), .lit (.int .i64 f_Finder)], .lit (.int .i64 now)] [] = some ((fun (f : TFind) (now : Int) => True) ⟨⟨f_Thing_Id, f_Thing_Kind, f_Thing_Colour, f_Thing_Size, f_Thing_Worth⟩, f_Place, f_At, f_Finder⟩ now, (fun (f : TFind) (now : Int) => (dB (mIsDue now f) : D)) ⟨⟨f_Thing_Id, f_Thing_Kind, f_Thing_Colour, f_Thing_Size, f_Thing_Worth⟩, f_Place, f_At, f_Finder⟩ now, (fun (f : TFind) (now : Int) => []) ⟨⟨f_Thing_Id, f_Thing_Kind, f_Thing_Colour, f_Thing_Size, f_Thing_Worth⟩, f_Place, f_At, f_Finder⟩ now) :=
  mkCon_fn (fun x y h _ => c9_inj x y h) ((⟨⟨f_Thing_Id, f_Thing_Kind, f_Thing_Colour, f_Thing_Size, f_Thing_Worth⟩, f_Place, f_At, f_Finder⟩, now) : TFind × Int) (by simp [nz, nz1, ML_nil, encTFind, encTThing]) rfl
theorem c9_pc (f : TFind) (now : Int) : PCo Tryd.prog 9 [encTFind f, dI now] (Tab.of []) (dB (mIsDue now f)) (Tab.of []) := by
  obtain ⟨⟨f_Thing_Id, f_Thing_Kind, f_Thing_Colour, f_Thing_Size, f_Thing_Worth⟩, f_Place, f_At, f_Finder⟩ := f
  refine pco_of_run [] (E := ⟨[c7, c8], [], []⟩) (m := false) (base := 0) (Env.ok_cons c7_ok (Env.ok_cons c8_ok Env.ok_nil)) G_ok mix 300 6 Tryd.func9 (by kernel_rfl) rfl (by kernel_rfl) (by kernel_rfl) rfl ?_
  simp [Tryd.f9]
  simp [mIsDue]; first | done | first | rfl | omega | (rw [Bool.eq_iff_iff]; simp; done) | (rw [Bool.eq_iff_iff]; simp; omega) | (rw [Bool.eq_iff_iff]; simp; grind) | grind
theorem c9_ok : c9.ok Tryd.prog := mkCon_ok fun ⟨f, now⟩ hpre => c9_pc f now
def stepDue (now n : Int) (f : TFind) : Int := if now < mDueHour f ∧ 0 ≤ mDueHour f ∧ (n < 0 ∨ mDueHour f < n) then mDueHour f else n
def mNextDue (l : List TFind) (now : Int) : Int := l.foldl (stepDue now) (-1)
/-- loop.example/g03007/impl.NextDue -/
noncomputable def c13 : Con := mkCon 13 false (α := (List TFind) × Int) (fun x => (fun (l : List TFind) (now : Int) => [encLTFind l, dI now]) x.1 x.2) (fun _ => []) (fun x => (fun (l : List TFind) (now : Int) => l.length ≤ 1099511627776) x.1 x.2) (fun x => (fun (l : List TFind) (now : Int) => (dI (mNextDue l now) : D)) x.1 x.2) (fun x => (fun (l : List TFind) (now : Int) => []) x.1 x.2)
@[simp] theorem c13_f : c13.f = 13 := rfl
@[simp] theorem c13_own : c13.own = false := rfl
theorem c13_inj : ∀ u_ v_ : (List TFind) × Int, ((fun x => (fun (l : List TFind) (now : Int) => [encLTFind l, dI now]) x.1 x.2) u_).map nz = ((fun x => (fun (l : List TFind) (now : Int) => [encLTFind l, dI now]) x.1 x.2) v_).map nz → u_ = v_ := by
  intro u_ v_ h
  obtain ⟨l, now⟩ := u_
  obtain ⟨l', now'⟩ := v_
  simp [nz_lit, nz1_lit, nz_agg, nz_sl, nz1_sl, encLTFind] at h
  first | (simp [h]; done) | (obtain ⟨⟩ := h; simp_all; done) | simp_all
@[simp] theorem c13_fn (l : List TFind) (now : Int) : c13.fn [.sl false 8 yTFind (ML encTFind l), .lit (.int .i64 now)] [] = some ((fun (l : List TFind) (now : Int) => l.length ≤ 1099511627776) l now, (fun (l : List TFind) (now : Int) => (dI (mNextDue l now) : D)) l now, (fun (l : List TFind) (now : Int) => []) l now) :=
  mkCon_fn (fun x y h _ => c13_inj x y h) ((l, now) : (List TFind) × Int) (by simp [nz, nz1, ML_nil, encLTFind]) rfl
@[simp] theorem c13_fn1 (s_l : Nat) (z_l : D) (now : Int) : c13.fn [.sl false s_l z_l [], .lit (.int .i64 now)] [] = some ((fun (l : List TFind) (now : Int) => l.length ≤ 1099511627776) [] now, (fun (l : List TFind) (now : Int) => (dI (mNextDue l now) : D)) [] now, (fun (l : List TFind) (now : Int) => []) [] now) :=
  mkCon_fn (fun x y h _ => c13_inj x y h) (([], now) : (List TFind) × Int) (by simp [nz, nz1, ML_nil, encLTFind]) rfl
theorem c13_pc (l : List TFind) (now : Int) (hpre : l.length ≤ 1099511627776) : PCo Tryd.prog 13 [encLTFind l, dI now] (Tab.of []) (dI (mNextDue l now)) (Tab.of []) := by
  refine pco_of_run [] (E := ⟨[c7], [], []⟩) (m := false) (base := 0) (Env.ok_cons c7_ok Env.ok_nil) G_ok mix 300 6 Tryd.func13 (by kernel_rfl) rfl (by kernel_rfl) (by kernel_rfl) rfl ?_
  simp [Tryd.f13]
  refine loop_inv (fun p : Nat => p ≤ l.length) (fun p => [(1, dI now), (5, dI ((l.take p).foldl (stepDue now) (-1))), (9, encLTFind l), (10, dI l.length), (11, dI p)]) (fun _ => []) 1 (fun p => l.length - p) 0 400 (by simp) (by simp) (by simp) ?_
  intro p hp
  simp
  refine ⟨fun hlt => ?_, fun hge => ?_⟩
  · have hs := foldl_at (f := stepDue now) (s := -1) (d := default) hlt
    have hb := due_bd (l[p]?.getD default)
    repeat' (first | omega | refine And.intro ?_ ?_ | intro _)
    all_goals first | omega | (refine Again.mk (p + 1) (by omega) ?_ (by first | omega | (simp; omega)); simp [hs, stepDue]; split <;> omega) | (refine Again.mk (p + 1) (by omega) ?_ (by first | omega | (simp; omega)); simp [hs, stepDue]; omega)
  · rw [List.take_of_length_le hge]; simp [mNextDue]
theorem c13_ok : c13.ok Tryd.prog := mkCon_ok fun ⟨l, now⟩ hpre => c13_pc l now hpre
def mDaysLeft (f : TFind) (now : Int) : Int := if mIsFind f && mIn now 0 200000 && !mIsDue now f then mCeilDiv (mDueHour f - now) 24 else 0
/-- loop.example/g03007/impl.DaysLeft -/
noncomputable def c11 : Con := mkCon 11 false (α := TFind × Int) (fun x => (fun (f : TFind) (now : Int) => [encTFind f, dI now]) x.1 x.2) (fun _ => []) (fun x => (fun (f : TFind) (now : Int) => True) x.1 x.2) (fun x => (fun (f : TFind) (now : Int) => (dI (mDaysLeft f now) : D)) x.1 x.2) (fun x => (fun (f : TFind) (now : Int) => []) x.1 x.2)
@[simp] theorem c11_f : c11.f = 11 := rfl
@[simp] theorem c11_own : c11.own = false := rfl
theorem c11_inj : ∀ u_ v_ : TFind × Int, ((fun x => (fun (f : TFind) (now : Int) => [encTFind f, dI now]) x.1 x.2) u_).map nz = ((fun x => (fun (f : TFind) (now : Int) => [encTFind f, dI now]) x.1 x.2) v_).map nz → u_ = v_ := by
  intro u_ v_ h
  obtain ⟨⟨⟨f_Thing_Id, f_Thing_Kind, f_Thing_Colour, f_Thing_Size, f_Thing_Worth⟩, f_Place, f_At, f_Finder⟩, now⟩ := u_
  obtain ⟨⟨⟨f_Thing_Id', f_Thing_Kind', f_Thing_Colour', f_Thing_Size', f_Thing_Worth'⟩, f_Place', f_At', f_Finder'⟩, now'⟩ := v_
  simp [nz_lit, nz1_lit, nz_agg, nz_sl, nz1_sl, encTFind, encTThing] at h
  first | (simp [h]; done) | (obtain ⟨⟩ := h; simp_all; done) | simp_all
@[simp] theorem c11_fn (f_Thing_Id : Int) (f_Thing_Kind : Int) (f_Thing_Colour : Int) (f_Thing_Size : Int) (f_Thing_Worth : Int) (f_Place : Int) (f_At : Int) (f_Finder : Int) (now : Int) : c11.fn [.agg [.lit (.int .i64 f_Thing_Id), .lit (.int .i64 f_Thing_Kind), .lit (.int .i64 f_Thing_Colour), .lit (.int .i64 f_Thing_Size), .lit (.int .i64 f_Thing_Worth), .lit (.int .i64 f_Place), .lit (.int .i64 f_At), .lit (.int .i64 f_Finder)], .lit (.int .i64 now)] [] = some ((fun (f : TFind) (now : Int) => True) ⟨⟨f_Thing_Id, f_Thing_Kind, f_Thing_Colour, f_Thing_Size, f_Thing_Worth⟩, f_Place, f_At, f_Finder⟩ now, (fun (f : TFind) (now : Int) => (dI (mDaysLeft f now) : D)) ⟨⟨f_Thing_Id, f_Thing_Kind, f_Thing_Colour, f_Thing_Size, f_Thing_Worth⟩, f_Place, f_At, f_Finder⟩ now, (fun (f : TFind) (now : Int) => []) ⟨⟨f_Thing_Id, f_Thing_Kind, f_Thing_Colour, f_Thing_Size, f_Thing_Worth⟩, f_Place, f_At, f_Finder⟩ now) :=
  mkCon_fn (fun x y h _ => c11_inj x y h) ((⟨⟨f_Thing_Id, f_Thing_Kind, f_Thing_Colour, f_Thing_Size, f_Thing_Worth⟩, f_Place, f_At, f_Finder⟩, now) : TFind × Int) (by simp [nz, nz1, ML_nil, encTFind, encTThing]) rfl
theorem c11_pc (f : TFind) (now : Int) : PCo Tryd.prog 11 [encTFind f, dI now] (Tab.of []) (dI (mDaysLeft f now)) (Tab.of []) := by
  refine pco_of_run [] (E := ⟨[c7, c8, c9, c29, c30], [], []⟩) (m := false) (base := 0) (Env.ok_cons c7_ok (Env.ok_cons c8_ok (Env.ok_cons c9_ok (Env.ok_cons c29_ok (Env.ok_cons c30_ok Env.ok_nil))))) G_ok mix 300 6 Tryd.func11 (by kernel_rfl) rfl (by kernel_rfl) (by kernel_rfl) rfl ?_
  have hb := due_bd f
  have hd : ∀ a b c, mIsFind f = a → mIn now 0 200000 = b → mIsDue now f = c → mDaysLeft f now = if a && b && !c then mCeilDiv (mDueHour f - now) 24 else 0 := fun a b c h1 h2 h3 => by rw [mDaysLeft, h1, h2, h3]
  cases h1 : mIsFind f <;> cases h2 : mIn now 0 200000 <;> cases h3 : mIsDue now f <;> have e := hd _ _ _ h1 h2 h3
  all_goals
    obtain ⟨⟨f_Thing_Id, f_Thing_Kind, f_Thing_Colour, f_Thing_Size, f_Thing_Worth⟩, f_Place, f_At, f_Finder⟩ := f
    simp at e
    simp [Tryd.f11, h1, h2, h3, e]
    try (have h4 := mIn_iff.1 h2; omega)
theorem c11_ok : c11.ok Tryd.prog := mkCon_ok fun ⟨f, now⟩ hpre => c11_pc f now
end Go.Proofs.YtpnfkjbnhholfaaDoor
