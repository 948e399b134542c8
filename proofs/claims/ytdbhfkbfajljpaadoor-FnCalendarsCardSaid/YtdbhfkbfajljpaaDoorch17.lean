/- Contracts of the functions that the laws run. -/
import Derived.Test.YtdbhfkbfajljpaaDoorch06
import Derived.Test.YtdbhfkbfajljpaaDoorch01
import Derived.Test.YtdbhfkbfajljpaaDoorhelpA
import Derived.Test.YtdbhfkbfajljpaaDoorEngB
namespace Go.Proofs.YtdbhfkbfajljpaaDoor
open Go Go.Eng
set_option linter.unusedSimpArgs false
set_option linter.unusedVariables false
set_option maxRecDepth 10000
set_option maxHeartbeats 1000000
def mKeepDays (k : Int) : Int := if mIn k 1 8 then (if k = 7 then 1 else if k = 4 ∨ k = 5 then 180 else 90) else 0
theorem keep_bd (k : Int) : 0 ≤ mKeepDays k ∧ mKeepDays k ≤ 180 := by
  simp only [mKeepDays]; split <;> (try split) <;> (try split) <;> omega
theorem find_at {f : TFind} (h : mIsFind f = true) : 0 ≤ f.At ∧ f.At ≤ 100000 := by
  simp [mIsFind] at h
  have := mIn_iff.1 h.1.2; omega
/-- loop.example/g03007/impl.KeepDays -/
noncomputable def c26 : Con := mkCon 26 false (α := Int) (fun x => (fun (k : Int) => [dI k]) x) (fun _ => []) (fun x => (fun (k : Int) => True) x) (fun x => (fun (k : Int) => (dI (mKeepDays k) : D)) x) (fun x => (fun (k : Int) => []) x)
@[simp] theorem c26_f : c26.f = 26 := rfl
@[simp] theorem c26_own : c26.own = false := rfl
theorem c26_inj : ∀ u_ v_ : Int, ((fun x => (fun (k : Int) => [dI k]) x) u_).map nz = ((fun x => (fun (k : Int) => [dI k]) x) v_).map nz → u_ = v_ := by
  intro u_ v_ h
  obtain k := u_
  obtain k' := v_
  simp [nz_lit, nz1_lit, nz_agg, nz_sl, nz1_sl] at h
  first | (simp [h]; done) | (obtain ⟨⟩ := h; simp_all; done) | simp_all
@[simp] theorem c26_fn (k : Int) : c26.fn [.lit (.int .i64 k)] [] = some ((fun (k : Int) => True) k, (fun (k : Int) => (dI (mKeepDays k) : D)) k, (fun (k : Int) => []) k) :=
  mkCon_fn (fun x y h _ => c26_inj x y h) (k : Int) (by simp [nz, nz1, ML_nil]) rfl
theorem c26_pc (k : Int) : PCo Tryd.prog 26 [dI k] (Tab.of []) (dI (mKeepDays k)) (Tab.of []) := by
  refine pco_of_run [] (E := ⟨[c18], [], []⟩) (m := false) (base := 0) (Env.ok_cons c18_ok Env.ok_nil) G_ok mix 300 6 Tryd.func26 (by kernel_rfl) rfl (by kernel_rfl) (by kernel_rfl) rfl ?_
  by_cases h : mIn k 1 8 = true
  · have h2 := mIn_iff.1 h
    obtain rfl | rfl | rfl | rfl | rfl | rfl | rfl | rfl : k = 1 ∨ k = 2 ∨ k = 3 ∨ k = 4 ∨ k = 5 ∨ k = 6 ∨ k = 7 ∨ k = 8 := by omega
    all_goals simp [Tryd.f26, mKeepDays, mIn]
  · simp only [Bool.not_eq_true] at h
    simp [Tryd.f26, mKeepDays, h]
theorem c26_ok : c26.ok Tryd.prog := mkCon_ok fun k hpre => c26_pc k
def mDueHour (f : TFind) : Int := if mIsFind f then f.At + 24 * mKeepDays f.Thing.Kind else -1
theorem due_bd (f : TFind) : -1 ≤ mDueHour f ∧ mDueHour f ≤ 104320 := by
  simp only [mDueHour]; split
  · rename_i h
    have h1 := find_at h
    have h2 := keep_bd f.Thing.Kind
    omega
  · omega
/-- loop.example/g03007/impl.DueHour -/
noncomputable def c14 : Con := mkCon 14 false (α := TFind) (fun x => (fun (f : TFind) => [encTFind f]) x) (fun _ => []) (fun x => (fun (f : TFind) => True) x) (fun x => (fun (f : TFind) => (dI (mDueHour f) : D)) x) (fun x => (fun (f : TFind) => []) x)
@[simp] theorem c14_f : c14.f = 14 := rfl
@[simp] theorem c14_own : c14.own = false := rfl
theorem c14_inj : ∀ u_ v_ : TFind, ((fun x => (fun (f : TFind) => [encTFind f]) x) u_).map nz = ((fun x => (fun (f : TFind) => [encTFind f]) x) v_).map nz → u_ = v_ := by
  intro u_ v_ h
  obtain ⟨⟨f_Thing_Id, f_Thing_Kind, f_Thing_Colour, f_Thing_Size, f_Thing_Worth⟩, f_Place, f_At, f_Finder⟩ := u_
  obtain ⟨⟨f_Thing_Id', f_Thing_Kind', f_Thing_Colour', f_Thing_Size', f_Thing_Worth'⟩, f_Place', f_At', f_Finder'⟩ := v_
  simp [nz_lit, nz1_lit, nz_agg, nz_sl, nz1_sl, encTFind, encTThing] at h
  first | (simp [h]; done) | (obtain ⟨⟩ := h; simp_all; done) | simp_all
@[simp] theorem c14_fn (f_Thing_Id : Int) (f_Thing_Kind : Int) (f_Thing_Colour : Int) (f_Thing_Size : Int) (f_Thing_Worth : Int) (f_Place : Int) (f_At : Int) (f_Finder : Int) : c14.fn [.agg [.lit (.int .i64 f_Thing_Id), .lit (.int .i64 f_Thing_Kind), .lit (.int .i64 f_Thing_Colour), .lit (.int .i64 f_Thing_Size), .lit (.int .i64 f_Thing_Worth), .lit (.int .i64 f_Place), .lit (.int .i64 f_At), .lit (.int .i64 f_Finder)]] [] = some ((fun (f : TFind) => True) ⟨⟨f_Thing_Id, f_Thing_Kind, f_Thing_Colour, f_Thing_Size, f_Thing_Worth⟩, f_Place, f_At, f_Finder⟩, (fun (f : TFind) => (dI (mDueHour f) : D)) ⟨⟨f_Thing_Id, f_Thing_Kind, f_Thing_Colour, f_Thing_Size, f_Thing_Worth⟩, f_Place, f_At, f_Finder⟩, (fun (f : TFind) => []) ⟨⟨f_Thing_Id, f_Thing_Kind, f_Thing_Colour, f_Thing_Size, f_Thing_Worth⟩, f_Place, f_At, f_Finder⟩) :=
  mkCon_fn (fun x y h _ => c14_inj x y h) (⟨⟨f_Thing_Id, f_Thing_Kind, f_Thing_Colour, f_Thing_Size, f_Thing_Worth⟩, f_Place, f_At, f_Finder⟩ : TFind) (by simp [nz, nz1, ML_nil, encTFind, encTThing]) rfl
theorem c14_pc (f : TFind) : PCo Tryd.prog 14 [encTFind f] (Tab.of []) (dI (mDueHour f)) (Tab.of []) := by
  refine pco_of_run [3] (E := ⟨[c24, c26], [], []⟩) (m := false) (base := 0) (Env.ok_cons c24_ok (Env.ok_cons c26_ok Env.ok_nil)) G_ok mix 300 6 Tryd.func14 (by kernel_rfl) rfl (by kernel_rfl) (by kernel_rfl) rfl ?_
  cases h : mIsFind f with
  | true =>
    have h1 := find_at h
    have h2 := keep_bd f.Thing.Kind
    obtain ⟨⟨f_Thing_Id, f_Thing_Kind, f_Thing_Colour, f_Thing_Size, f_Thing_Worth⟩, f_Place, f_At, f_Finder⟩ := f
    simp at h1 h2
    simp [Tryd.f14, mDueHour, h]
    omega
  | false =>
    obtain ⟨⟨f_Thing_Id, f_Thing_Kind, f_Thing_Colour, f_Thing_Size, f_Thing_Worth⟩, f_Place, f_At, f_Finder⟩ := f
    simp [Tryd.f14, mDueHour, h]
theorem c14_ok : c14.ok Tryd.prog := mkCon_ok fun f hpre => c14_pc f
def mIsDue (now : Int) (f : TFind) : Bool := mIsFind f && decide (mDueHour f ≤ now)
def stepDue (now n : Int) (f : TFind) : Int := if now < mDueHour f ∧ 0 ≤ mDueHour f ∧ (n < 0 ∨ mDueHour f < n) then mDueHour f else n
def mNextDue (l : List TFind) (now : Int) : Int := l.foldl (stepDue now) (-1)
def mDaysLeft (f : TFind) (now : Int) : Int := if mIsFind f && mIn now 0 200000 && !mIsDue now f then mCeilDiv (mDueHour f - now) 24 else 0
end Go.Proofs.YtdbhfkbfajljpaaDoor
