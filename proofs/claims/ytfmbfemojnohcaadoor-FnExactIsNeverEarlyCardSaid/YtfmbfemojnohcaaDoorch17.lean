/- Contracts of the functions that the laws run. -/
import Derived.Test.YtfmbfemojnohcaaDoorch06
import Derived.Test.YtfmbfemojnohcaaDoorch01
import Derived.Test.YtfmbfemojnohcaaDoorhelpA
import Derived.Test.YtfmbfemojnohcaaDoorEngB
namespace Go.Proofs.YtfmbfemojnohcaaDoor
open Go Go.Eng
set_option linter.unusedSimpArgs false
set_option linter.unusedVariables false
set_option maxRecDepth 10000
set_option maxHeartbeats 1000000
def mKeepDays (k : Int) : Int := if mIn k 1 8 then (if k = 7 then 1 else if k = 4 ∨ k = 5 then 180 else 90) else 0
theorem keep_bd (k : Int) : 0 ≤ mKeepDays k ∧ mKeepDays k ≤ 180 := by
  simp only [mKeepDays]; split <;> (try split) <;> (try split) <;> omega
theorem find_at {f : TFind} (h : mIsFind f = true) : 0 ≤ f.At ∧ f.At ≤ 100000 := by
  simp [mIsFind] at h
  have := mIn_iff.1 h.1.2; omega
/-- loop.example/g03007/spec.KeepDays -/
noncomputable def c64 : Con := mkCon 64 false (α := Int) (fun x => (fun (k : Int) => [dI k]) x) (fun _ => []) (fun x => (fun (k : Int) => True) x) (fun x => (fun (k : Int) => (dI (mKeepDays k) : D)) x) (fun x => (fun (k : Int) => []) x)
@[simp] theorem c64_f : c64.f = 64 := rfl
@[simp] theorem c64_own : c64.own = false := rfl
theorem c64_inj : ∀ u_ v_ : Int, ((fun x => (fun (k : Int) => [dI k]) x) u_).map nz = ((fun x => (fun (k : Int) => [dI k]) x) v_).map nz → u_ = v_ := by
  intro u_ v_ h
  obtain k := u_
  obtain k' := v_
  simp [nz_lit, nz1_lit, nz_agg, nz_sl, nz1_sl] at h
  first | (simp [h]; done) | (obtain ⟨⟩ := h; simp_all; done) | simp_all
@[simp] theorem c64_fn (k : Int) : c64.fn [.lit (.int .i64 k)] [] = some ((fun (k : Int) => True) k, (fun (k : Int) => (dI (mKeepDays k) : D)) k, (fun (k : Int) => []) k) :=
  mkCon_fn (fun x y h _ => c64_inj x y h) (k : Int) (by simp [nz, nz1, ML_nil]) rfl
theorem c64_pc (k : Int) : PCo Tryd.prog 64 [dI k] (Tab.of []) (dI (mKeepDays k)) (Tab.of []) := by
  refine pco_of_run [] (E := ⟨[c63], [], []⟩) (m := false) (base := 0) (Env.ok_cons c63_ok Env.ok_nil) G_ok mix 300 6 Tryd.func64 (by kernel_rfl) rfl (by kernel_rfl) (by kernel_rfl) rfl ?_
  by_cases h : mIn k 1 8 = true
  · have h2 := mIn_iff.1 h
    obtain rfl | rfl | rfl | rfl | rfl | rfl | rfl | rfl : k = 1 ∨ k = 2 ∨ k = 3 ∨ k = 4 ∨ k = 5 ∨ k = 6 ∨ k = 7 ∨ k = 8 := by omega
    all_goals simp [Tryd.f64, mKeepDays, mIn]
  · simp only [Bool.not_eq_true] at h
    simp [Tryd.f64, mKeepDays, h]
theorem c64_ok : c64.ok Tryd.prog := mkCon_ok fun k hpre => c64_pc k
/-- loop.example/g03007/impl.KeepDays -/
noncomputable def c69 : Con := mkCon 69 false (α := Int) (fun x => (fun (k : Int) => [dI k]) x) (fun _ => []) (fun x => (fun (k : Int) => True) x) (fun x => (fun (k : Int) => (dI (mKeepDays k) : D)) x) (fun x => (fun (k : Int) => []) x)
@[simp] theorem c69_f : c69.f = 69 := rfl
@[simp] theorem c69_own : c69.own = false := rfl
theorem c69_inj : ∀ u_ v_ : Int, ((fun x => (fun (k : Int) => [dI k]) x) u_).map nz = ((fun x => (fun (k : Int) => [dI k]) x) v_).map nz → u_ = v_ := by
  intro u_ v_ h
  obtain k := u_
  obtain k' := v_
  simp [nz_lit, nz1_lit, nz_agg, nz_sl, nz1_sl] at h
  first | (simp [h]; done) | (obtain ⟨⟩ := h; simp_all; done) | simp_all
@[simp] theorem c69_fn (k : Int) : c69.fn [.lit (.int .i64 k)] [] = some ((fun (k : Int) => True) k, (fun (k : Int) => (dI (mKeepDays k) : D)) k, (fun (k : Int) => []) k) :=
  mkCon_fn (fun x y h _ => c69_inj x y h) (k : Int) (by simp [nz, nz1, ML_nil]) rfl
theorem c69_pc (k : Int) : PCo Tryd.prog 69 [dI k] (Tab.of []) (dI (mKeepDays k)) (Tab.of []) := by
  refine pco_of_run [] (E := ⟨[c78], [], []⟩) (m := false) (base := 0) (Env.ok_cons c78_ok Env.ok_nil) G_ok mix 300 6 Tryd.func69 (by kernel_rfl) rfl (by kernel_rfl) (by kernel_rfl) rfl ?_
  by_cases h : mIn k 1 8 = true
  · have h2 := mIn_iff.1 h
    obtain rfl | rfl | rfl | rfl | rfl | rfl | rfl | rfl : k = 1 ∨ k = 2 ∨ k = 3 ∨ k = 4 ∨ k = 5 ∨ k = 6 ∨ k = 7 ∨ k = 8 := by omega
    all_goals simp [Tryd.f69, mKeepDays, mIn]
  · simp only [Bool.not_eq_true] at h
    simp [Tryd.f69, mKeepDays, h]
theorem c69_ok : c69.ok Tryd.prog := mkCon_ok fun k hpre => c69_pc k
def mDueHour (f : TFind) : Int := if mIsFind f then f.At + 24 * mKeepDays f.Thing.Kind else -1
theorem due_bd (f : TFind) : -1 ≤ mDueHour f ∧ mDueHour f ≤ 104320 := by
  simp only [mDueHour]; split
  · rename_i h
    have h1 := find_at h
    have h2 := keep_bd f.Thing.Kind
    omega
  · omega
/-- loop.example/g03007/spec.DueHour -/
noncomputable def c40 : Con := mkCon 40 false (α := TFind) (fun x => (fun (f : TFind) => [encTFind f]) x) (fun _ => []) (fun x => (fun (f : TFind) => True) x) (fun x => (fun (f : TFind) => (dI (mDueHour f) : D)) x) (fun x => (fun (f : TFind) => []) x)
@[simp] theorem c40_f : c40.f = 40 := rfl
@[simp] theorem c40_own : c40.own = false := rfl
theorem c40_inj : ∀ u_ v_ : TFind, ((fun x => (fun (f : TFind) => [encTFind f]) x) u_).map nz = ((fun x => (fun (f : TFind) => [encTFind f]) x) v_).map nz → u_ = v_ := by
  intro u_ v_ h
  obtain ⟨⟨f_Thing_Id, f_Thing_Kind, f_Thing_Colour, f_Thing_Size, f_Thing_Worth⟩, f_Place, f_At, f_Finder⟩ := u_
  obtain ⟨⟨f_Thing_Id', f_Thing_Kind', f_Thing_Colour', f_Thing_Size', f_Thing_Worth'⟩, f_Place', f_At', f_Finder'⟩ := v_
  simp [nz_lit, nz1_lit, nz_agg, nz_sl, nz1_sl, encTFind, encTThing] at h
  first | (simp [h]; done) | (obtain ⟨⟩ := h; simp_all; done) | simp_all
@[simp] theorem c40_fn (f_Thing_Id : Int) (f_Thing_Kind : Int) (f_Thing_Colour : Int) (f_Thing_Size : Int) (f_Thing_Worth : Int) (f_Place : Int) (f_At : Int) (f_Finder : Int) : c40.fn [.agg [.lit (.int .i64 f_Thing_Id), .lit (.int .i64 f_Thing_Kind), .lit (.int .i64 f_Thing_Colour), .lit (.int .i64 f_Thing_Size), .lit (.int .i64 f_Thing_Worth), .lit (.int .i64 f_Place), .lit (.int .i64 f_At), .lit (.int .i64 f_Finder)]] [] = some ((fun (f : TFind) => True) ⟨⟨f_Thing_Id, f_Thing_Kind, f_Thing_Colour, f_Thing_Size, f_Thing_Worth⟩, f_Place, f_At, f_Finder⟩, (fun (f : TFind) => (dI (mDueHour f) : D)) ⟨⟨f_Thing_Id, f_Thing_Kind, f_Thing_Colour, f_Thing_Size, f_Thing_Worth⟩, f_Place, f_At, f_Finder⟩, (fun (f : TFind) => []) ⟨⟨f_Thing_Id, f_Thing_Kind, f_Thing_Colour, f_Thing_Size, f_Thing_Worth⟩, f_Place, f_At, f_Finder⟩) :=
  mkCon_fn (fun x y h _ => c40_inj x y h) (⟨⟨f_Thing_Id, f_Thing_Kind, f_Thing_Colour, f_Thing_Size, f_Thing_Worth⟩, f_Place, f_At, f_Finder⟩ : TFind) (by simp [nz, nz1, ML_nil, encTFind, encTThing]) rfl
theorem c40_pc (f : TFind) : PCo Tryd.prog 40 [encTFind f] (Tab.of []) (dI (mDueHour f)) (Tab.of []) := by
  refine pco_of_run [3] (E := ⟨[c39, c64], [], []⟩) (m := false) (base := 0) (Env.ok_cons c39_ok (Env.ok_cons c64_ok Env.ok_nil)) G_ok mix 300 6 Tryd.func40 (by kernel_rfl) rfl (by kernel_rfl) (by kernel_rfl) rfl ?_
  cases h : mIsFind f with
  | true =>
    have h1 := find_at h
    have h2 := keep_bd f.Thing.Kind
    obtain ⟨⟨f_Thing_Id, f_Thing_Kind, f_Thing_Colour, f_Thing_Size, f_Thing_Worth⟩, f_Place, f_At, f_Finder⟩ := f
    simp at h1 h2
    simp [Tryd.f40, mDueHour, h]
    omega
  | false =>
    obtain ⟨⟨f_Thing_Id, f_Thing_Kind, f_Thing_Colour, f_Thing_Size, f_Thing_Worth⟩, f_Place, f_At, f_Finder⟩ := f
    simp [Tryd.f40, mDueHour, h]
theorem c40_ok : c40.ok Tryd.prog := mkCon_ok fun f hpre => c40_pc f
/-- loop.example/g03007/impl.DueHour -/
noncomputable def c52 : Con := mkCon 52 false (α := TFind) (fun x => (fun (f : TFind) => [encTFind f]) x) (fun _ => []) (fun x => (fun (f : TFind) => True) x) (fun x => (fun (f : TFind) => (dI (mDueHour f) : D)) x) (fun x => (fun (f : TFind) => []) x)
@[simp] theorem c52_f : c52.f = 52 := rfl
@[simp] theorem c52_own : c52.own = false := rfl
theorem c52_inj : ∀ u_ v_ : TFind, ((fun x => (fun (f : TFind) => [encTFind f]) x) u_).map nz = ((fun x => (fun (f : TFind) => [encTFind f]) x) v_).map nz → u_ = v_ := by
  intro u_ v_ h
  obtain ⟨⟨f_Thing_Id, f_Thing_Kind, f_Thing_Colour, f_Thing_Size, f_Thing_Worth⟩, f_Place, f_At, f_Finder⟩ := u_
  obtain ⟨⟨f_Thing_Id', f_Thing_Kind', f_Thing_Colour', f_Thing_Size', f_Thing_Worth'⟩, f_Place', f_At', f_Finder'⟩ := v_
  simp [nz_lit, nz1_lit, nz_agg, nz_sl, nz1_sl, encTFind, encTThing] at h
  first | (simp [h]; done) | (obtain ⟨⟩ := h; simp_all; done) | simp_all
@[simp] theorem c52_fn (f_Thing_Id : Int) (f_Thing_Kind : Int) (f_Thing_Colour : Int) (f_Thing_Size : Int) (f_Thing_Worth : Int) (f_Place : Int) (f_At : Int) (f_Finder : Int) : c52.fn [.agg [.lit (.int .i64 f_Thing_Id), .lit (.int .i64 f_Thing_Kind), .lit (.int .i64 f_Thing_Colour), .lit (.int .i64 f_Thing_Size), .lit (.int .i64 f_Thing_Worth), .lit (.int .i64 f_Place), .lit (.int .i64 f_At), .lit (.int .i64 f_Finder)]] [] = some ((fun (f : TFind) => True) ⟨⟨f_Thing_Id, f_Thing_Kind, f_Thing_Colour, f_Thing_Size, f_Thing_Worth⟩, f_Place, f_At, f_Finder⟩, (fun (f : TFind) => (dI (mDueHour f) : D)) ⟨⟨f_Thing_Id, f_Thing_Kind, f_Thing_Colour, f_Thing_Size, f_Thing_Worth⟩, f_Place, f_At, f_Finder⟩, (fun (f : TFind) => []) ⟨⟨f_Thing_Id, f_Thing_Kind, f_Thing_Colour, f_Thing_Size, f_Thing_Worth⟩, f_Place, f_At, f_Finder⟩) :=
  mkCon_fn (fun x y h _ => c52_inj x y h) (⟨⟨f_Thing_Id, f_Thing_Kind, f_Thing_Colour, f_Thing_Size, f_Thing_Worth⟩, f_Place, f_At, f_Finder⟩ : TFind) (by simp [nz, nz1, ML_nil, encTFind, encTThing]) rfl
theorem c52_pc (f : TFind) : PCo Tryd.prog 52 [encTFind f] (Tab.of []) (dI (mDueHour f)) (Tab.of []) := by
  refine pco_of_run [3] (E := ⟨[c51, c69], [], []⟩) (m := false) (base := 0) (Env.ok_cons c51_ok (Env.ok_cons c69_ok Env.ok_nil)) G_ok mix 300 6 Tryd.func52 (by kernel_rfl) rfl (by kernel_rfl) (by kernel_rfl) rfl ?_
  cases h : mIsFind f with
  | true =>
    have h1 := find_at h
    have h2 := keep_bd f.Thing.Kind
    obtain ⟨⟨f_Thing_Id, f_Thing_Kind, f_Thing_Colour, f_Thing_Size, f_Thing_Worth⟩, f_Place, f_At, f_Finder⟩ := f
    simp at h1 h2
    simp [Tryd.f52, mDueHour, h]
    omega
  | false =>
    obtain ⟨⟨f_Thing_Id, f_Thing_Kind, f_Thing_Colour, f_Thing_Size, f_Thing_Worth⟩, f_Place, f_At, f_Finder⟩ := f
    simp [Tryd.f52, mDueHour, h]
theorem c52_ok : c52.ok Tryd.prog := mkCon_ok fun f hpre => c52_pc f
def mIsDue (now : Int) (f : TFind) : Bool := mIsFind f && decide (mDueHour f ≤ now)
/-- loop.example/g03007/spec.IsDue -/
noncomputable def c18 : Con := mkCon 18 false (α := TFind × Int) (fun x => (fun (f : TFind) (now : Int) => [encTFind f, dI now]) x.1 x.2) (fun _ => []) (fun x => (fun (f : TFind) (now : Int) => True) x.1 x.2) (fun x => (fun (f : TFind) (now : Int) => (dB (mIsDue now f) : D)) x.1 x.2) (fun x => (fun (f : TFind) (now : Int) => []) x.1 x.2)
@[simp] theorem c18_f : c18.f = 18 := rfl
@[simp] theorem c18_own : c18.own = false := rfl
theorem c18_inj : ∀ u_ v_ : TFind × Int, ((fun x => (fun (f : TFind) (now : Int) => [encTFind f, dI now]) x.1 x.2) u_).map nz = ((fun x => (fun (f : TFind) (now : Int) => [encTFind f, dI now]) x.1 x.2) v_).map nz → u_ = v_ := by
  intro u_ v_ h
  obtain ⟨⟨⟨f_Thing_Id, f_Thing_Kind, f_Thing_Colour, f_Thing_Size, f_Thing_Worth⟩, f_Place, f_At, f_Finder⟩, now⟩ := u_
  obtain ⟨⟨⟨f_Thing_Id', f_Thing_Kind', f_Thing_Colour', f_Thing_Size', f_Thing_Worth'⟩, f_Place', f_At', f_Finder'⟩, now'⟩ := v_
  simp [nz_lit, nz1_lit, nz_agg, nz_sl, nz1_sl, encTFind, encTThing] at h
  first | (simp [h]; done) | (obtain ⟨⟩ := h; simp_all; done) | simp_all
@[simp] theorem c18_fn (f_Thing_Id : Int) (f_Thing_Kind : Int) (f_Thing_Colour : Int) (f_Thing_Size : Int) (f_Thing_Worth : Int) (f_Place : Int) (f_At : Int) (f_Finder : Int) (now : Int) : c18.fn [.agg [.lit (.int .i64 f_Thing_Id), .lit (.int .i64 f_Thing_Kind), .lit (.int .i64 f_Thing_Colour), .lit (.int .i64 f_Thing_Size), .lit (.int .i64 f_Thing_Worth), .lit (.int .i64 f_Place), .lit (.int .i64 f_At), .lit (.int .i64 f_Finder)], .lit (.int .i64 now)] [] = some ((fun (f : TFind) (now : Int) => True) ⟨⟨f_Thing_Id, f_Thing_Kind, f_Thing_Colour, f_Thing_Size, f_Thing_Worth⟩, f_Place, f_At, f_Finder⟩ now, (fun (f : TFind) (now : Int) => (dB (mIsDue now f) : D)) ⟨⟨f_Thing_Id, f_Thing_Kind, f_Thing_Colour, f_Thing_Size, f_Thing_Worth⟩, f_Place, f_At, f_Finder⟩ now, (fun (f : TFind) (now : Int) => []) ⟨⟨f_Thing_Id, f_Thing_Kind, f_Thing_Colour, f_Thing_Size, f_Thing_Worth⟩, f_Place, f_At, f_Finder⟩ now) :=
  mkCon_fn (fun x y h _ => c18_inj x y h) ((⟨⟨f_Thing_Id, f_Thing_Kind, f_Thing_Colour, f_Thing_Size, f_Thing_Worth⟩, f_Place, f_At, f_Finder⟩, now) : TFind × Int) (by simp [nz, nz1, ML_nil, encTFind, encTThing]) rfl
theorem c18_pc (f : TFind) (now : Int) : PCo Tryd.prog 18 [encTFind f, dI now] (Tab.of []) (dB (mIsDue now f)) (Tab.of []) := by
  obtain ⟨⟨f_Thing_Id, f_Thing_Kind, f_Thing_Colour, f_Thing_Size, f_Thing_Worth⟩, f_Place, f_At, f_Finder⟩ := f
  refine pco_of_run [] (E := ⟨[c39, c40], [], []⟩) (m := false) (base := 0) (Env.ok_cons c39_ok (Env.ok_cons c40_ok Env.ok_nil)) G_ok mix 300 6 Tryd.func18 (by kernel_rfl) rfl (by kernel_rfl) (by kernel_rfl) rfl ?_
  simp [Tryd.f18]
  simp [mIsDue]; first | done | first | rfl | omega | (rw [Bool.eq_iff_iff]; simp; done) | (rw [Bool.eq_iff_iff]; simp; omega) | (rw [Bool.eq_iff_iff]; simp; grind) | grind
theorem c18_ok : c18.ok Tryd.prog := mkCon_ok fun ⟨f, now⟩ hpre => c18_pc f now
/-- loop.example/g03007/impl.IsDue -/
noncomputable def c29 : Con := mkCon 29 false (α := TFind × Int) (fun x => (fun (f : TFind) (now : Int) => [encTFind f, dI now]) x.1 x.2) (fun _ => []) (fun x => (fun (f : TFind) (now : Int) => True) x.1 x.2) (fun x => (fun (f : TFind) (now : Int) => (dB (mIsDue now f) : D)) x.1 x.2) (fun x => (fun (f : TFind) (now : Int) => []) x.1 x.2)
@[simp] theorem c29_f : c29.f = 29 := rfl
@[simp] theorem c29_own : c29.own = false := rfl
theorem c29_inj : ∀ u_ v_ : TFind × Int, ((fun x => (fun (f : TFind) (now : Int) => [encTFind f, dI now]) x.1 x.2) u_).map nz = ((fun x => (fun (f : TFind) (now : Int) => [encTFind f, dI now]) x.1 x.2) v_).map nz → u_ = v_ := by
  intro u_ v_ h
  obtain ⟨⟨⟨f_Thing_Id, f_Thing_Kind, f_Thing_Colour, f_Thing_Size, f_Thing_Worth⟩, f_Place, f_At, f_Finder⟩, now⟩ := u_
  obtain ⟨⟨⟨f_Thing_Id', f_Thing_Kind', f_Thing_Colour', f_Thing_Size', f_Thing_Worth'⟩, f_Place', f_At', f_Finder'⟩, now'⟩ := v_
  simp [nz_lit, nz1_lit, nz_agg, nz_sl, nz1_sl, encTFind, encTThing] at h
  first | (simp [h]; done) | (obtain ⟨⟩ := h; simp_all; done) | simp_all
@[simp] theorem c29_fn (f_Thing_Id : Int) (f_Thing_Kind : Int) (f_Thing_Colour : Int) (f_Thing_Size : Int) (f_Thing_Worth : Int) (f_Place : Int) (f_At : Int) (f_Finder : Int) (now : Int) : c29.fn [.agg [.lit (.int .i64 f_Thing_Id), .lit (.int .i64 f_Thing_Kind), .lit (.int .i64 f_Thing_Colour), .lit (.int .i64 f_Thing_Size), .lit (.int .i64 f_Thing_Worth), .lit (.int .i64 f_Place), .lit (.int .i64 f_At), .lit (.int .i64 f_Finder)], .lit (.int .i64 now)] [] = some ((fun (f : TFind) (now : Int) => True) ⟨⟨f_Thing_Id, f_Thing_Kind, f_Thing_Colour, f_Thing_Size, f_Thing_Worth⟩, f_Place, f_At, f_Finder⟩ now, (fun (f : TFind) (now : Int) => (dB (mIsDue now f) : D)) ⟨⟨f_Thing_Id, f_Thing_Kind, f_Thing_Colour, f_Thing_Size, f_Thing_Worth⟩, f_Place, f_At, f_Finder⟩ now, (fun (f : TFind) (now : Int) => []) ⟨⟨f_Thing_Id, f_Thing_Kind, f_Thing_Colour, f_Thing_Size, f_Thing_Worth⟩, f_Place, f_At, f_Finder⟩ now) :=
  mkCon_fn (fun x y h _ => c29_inj x y h) ((⟨⟨f_Thing_Id, f_Thing_Kind, f_Thing_Colour, f_Thing_Size, f_Thing_Worth⟩, f_Place, f_At, f_Finder⟩, now) : TFind × Int) (by simp [nz, nz1, ML_nil, encTFind, encTThing]) rfl
theorem c29_pc (f : TFind) (now : Int) : PCo Tryd.prog 29 [encTFind f, dI now] (Tab.of []) (dB (mIsDue now f)) (Tab.of []) := by
  obtain ⟨⟨f_Thing_Id, f_Thing_Kind, f_Thing_Colour, f_Thing_Size, f_Thing_Worth⟩, f_Place, f_At, f_Finder⟩ := f
  refine pco_of_run [] (E := ⟨[c51, c52], [], []⟩) (m := false) (base := 0) (Env.ok_cons c51_ok (Env.ok_cons c52_ok Env.ok_nil)) G_ok mix 300 6 Tryd.func29 (by kernel_rfl) rfl (by kernel_rfl) (by kernel_rfl) rfl ?_
  simp [Tryd.f29]
  simp [mIsDue]; first | done | first | rfl | omega | (rw [Bool.eq_iff_iff]; simp; done) | (rw [Bool.eq_iff_iff]; simp; omega) | (rw [Bool.eq_iff_iff]; simp; grind) | grind
theorem c29_ok : c29.ok Tryd.prog := mkCon_ok fun ⟨f, now⟩ hpre => c29_pc f now
def stepDue (now n : Int) (f : TFind) : Int := if now < mDueHour f ∧ 0 ≤ mDueHour f ∧ (n < 0 ∨ mDueHour f < n) then mDueHour f else n
def mNextDue (l : List TFind) (now : Int) : Int := l.foldl (stepDue now) (-1)
def mDaysLeft (f : TFind) (now : Int) : Int := if mIsFind f && mIn now 0 200000 && !mIsDue now f then mCeilDiv (mDueHour f - now) 24 else 0
end Go.Proofs.YtfmbfemojnohcaaDoor
