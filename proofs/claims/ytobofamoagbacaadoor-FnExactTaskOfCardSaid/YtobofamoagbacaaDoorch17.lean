/- Contracts of the functions that the laws run. -/
import Derived.Test.YtobofamoagbacaaDoorch06
import Derived.Test.YtobofamoagbacaaDoorch01
import Derived.Test.YtobofamoagbacaaDoorhelpA
import Derived.Test.YtobofamoagbacaaDoorEngB
namespace Go.Proofs.YtobofamoagbacaaDoor
open Go Go.Eng
set_option linter.unusedSimpArgs false
set_option linter.unusedVariables false
set_option maxRecDepth 10000
set_option maxHeartbeats 1000000
def mKeepDays (k : Int) : Int := if mIn k 1 8 then (if k = 7 then 1 else if k = 4 ∨ k = 5 then 180 else 90) else 0
theorem keep_bd (k : Int) : 0 ≤ mKeepDays k ∧ mKeepDays k ≤ 180 := by
  simp only [mKeepDays]; split <;> (try split) <;> (try split) <;> omega
theorem find_at {f : TFind} (h : mIsFind f = true) : 0 ≤ f.At ∧ f.At ≤ 100000 := by
  simp [mIsFind] at h
  have := mIn_iff.1 h.1.2; omega
/-- loop.example/g03007/spec.KeepDays -/
noncomputable def c16 : Con := mkCon 16 false (α := Int) (fun x => (fun (k : Int) => [dI k]) x) (fun _ => []) (fun x => (fun (k : Int) => True) x) (fun x => (fun (k : Int) => (dI (mKeepDays k) : D)) x) (fun x => (fun (k : Int) => []) x)
@[simp] theorem c16_f : c16.f = 16 := rfl
@[simp] theorem c16_own : c16.own = false := rfl
theorem c16_inj : ∀ u_ v_ : Int, ((fun x => (fun (k : Int) => [dI k]) x) u_).map nz = ((fun x => (fun (k : Int) => [dI k]) x) v_).map nz → u_ = v_ := by
  intro u_ v_ h
  obtain k := u_
  obtain k' := v_
  simp [nz_lit, nz1_lit, nz_agg, nz_sl, nz1_sl] at h
  first | (simp [h]; done) | (obtain ⟨⟩ := h; simp_all; done) | simp_all
@[simp] theorem c16_fn (k : Int) : c16.fn [.lit (.int .i64 k)] [] = some ((fun (k : Int) => True) k, (fun (k : Int) => (dI (mKeepDays k) : D)) k, (fun (k : Int) => []) k) :=
  mkCon_fn (fun x y h _ => c16_inj x y h) (k : Int) (by simp [nz, nz1, ML_nil]) rfl
theorem c16_pc (k : Int) : PCo Tryd.prog 16 [dI k] (Tab.of []) (dI (mKeepDays k)) (Tab.of []) := by
  refine pco_of_run [] (E := ⟨[c64], []⟩) (m := false) (base := 0) (Env.ok_cons c64_ok Env.ok_nil) G_ok mix 300 6 Tryd.func16 (by kernel_rfl) rfl (by kernel_rfl) (by kernel_rfl) rfl ?_
  by_cases h : mIn k 1 8 = true
  · have h2 := mIn_iff.1 h
    obtain rfl | rfl | rfl | rfl | rfl | rfl | rfl | rfl : k = 1 ∨ k = 2 ∨ k = 3 ∨ k = 4 ∨ k = 5 ∨ k = 6 ∨ k = 7 ∨ k = 8 := by omega
    all_goals simp [Tryd.f16, mKeepDays, mIn]
  · simp only [Bool.not_eq_true] at h
    simp [Tryd.f16, mKeepDays, h]
theorem c16_ok : c16.ok Tryd.prog := mkCon_ok fun k hpre => c16_pc k
/-- loop.example/g03007/impl.KeepDays -/
noncomputable def c17 : Con := mkCon 17 false (α := Int) (fun x => (fun (k : Int) => [dI k]) x) (fun _ => []) (fun x => (fun (k : Int) => True) x) (fun x => (fun (k : Int) => (dI (mKeepDays k) : D)) x) (fun x => (fun (k : Int) => []) x)
@[simp] theorem c17_f : c17.f = 17 := rfl
@[simp] theorem c17_own : c17.own = false := rfl
theorem c17_inj : ∀ u_ v_ : Int, ((fun x => (fun (k : Int) => [dI k]) x) u_).map nz = ((fun x => (fun (k : Int) => [dI k]) x) v_).map nz → u_ = v_ := by
  intro u_ v_ h
  obtain k := u_
  obtain k' := v_
  simp [nz_lit, nz1_lit, nz_agg, nz_sl, nz1_sl] at h
  first | (simp [h]; done) | (obtain ⟨⟩ := h; simp_all; done) | simp_all
@[simp] theorem c17_fn (k : Int) : c17.fn [.lit (.int .i64 k)] [] = some ((fun (k : Int) => True) k, (fun (k : Int) => (dI (mKeepDays k) : D)) k, (fun (k : Int) => []) k) :=
  mkCon_fn (fun x y h _ => c17_inj x y h) (k : Int) (by simp [nz, nz1, ML_nil]) rfl
theorem c17_pc (k : Int) : PCo Tryd.prog 17 [dI k] (Tab.of []) (dI (mKeepDays k)) (Tab.of []) := by
  refine pco_of_run [] (E := ⟨[c65], []⟩) (m := false) (base := 0) (Env.ok_cons c65_ok Env.ok_nil) G_ok mix 300 6 Tryd.func17 (by kernel_rfl) rfl (by kernel_rfl) (by kernel_rfl) rfl ?_
  by_cases h : mIn k 1 8 = true
  · have h2 := mIn_iff.1 h
    obtain rfl | rfl | rfl | rfl | rfl | rfl | rfl | rfl : k = 1 ∨ k = 2 ∨ k = 3 ∨ k = 4 ∨ k = 5 ∨ k = 6 ∨ k = 7 ∨ k = 8 := by omega
    all_goals simp [Tryd.f17, mKeepDays, mIn]
  · simp only [Bool.not_eq_true] at h
    simp [Tryd.f17, mKeepDays, h]
theorem c17_ok : c17.ok Tryd.prog := mkCon_ok fun k hpre => c17_pc k
def mDueHour (f : TFind) : Int := if mIsFind f then f.At + 24 * mKeepDays f.Thing.Kind else -1
theorem due_bd (f : TFind) : -1 ≤ mDueHour f ∧ mDueHour f ≤ 104320 := by
  simp only [mDueHour]; split
  · rename_i h
    have h1 := find_at h
    have h2 := keep_bd f.Thing.Kind
    omega
  · omega
/-- loop.example/g03007/spec.DueHour -/
noncomputable def c18 : Con := mkCon 18 false (α := TFind) (fun x => (fun (f : TFind) => [encTFind f]) x) (fun _ => []) (fun x => (fun (f : TFind) => True) x) (fun x => (fun (f : TFind) => (dI (mDueHour f) : D)) x) (fun x => (fun (f : TFind) => []) x)
@[simp] theorem c18_f : c18.f = 18 := rfl
@[simp] theorem c18_own : c18.own = false := rfl
theorem c18_inj : ∀ u_ v_ : TFind, ((fun x => (fun (f : TFind) => [encTFind f]) x) u_).map nz = ((fun x => (fun (f : TFind) => [encTFind f]) x) v_).map nz → u_ = v_ := by
  intro u_ v_ h
  obtain ⟨⟨f_Thing_Id, f_Thing_Kind, f_Thing_Colour, f_Thing_Size, f_Thing_Worth⟩, f_Place, f_At, f_Finder⟩ := u_
  obtain ⟨⟨f_Thing_Id', f_Thing_Kind', f_Thing_Colour', f_Thing_Size', f_Thing_Worth'⟩, f_Place', f_At', f_Finder'⟩ := v_
  simp [nz_lit, nz1_lit, nz_agg, nz_sl, nz1_sl, encTFind, encTThing] at h
  first | (simp [h]; done) | (obtain ⟨⟩ := h; simp_all; done) | simp_all
@[simp] theorem c18_fn (f_Thing_Id : Int) (f_Thing_Kind : Int) (f_Thing_Colour : Int) (f_Thing_Size : Int) (f_Thing_Worth : Int) (f_Place : Int) (f_At : Int) (f_Finder : Int) : c18.fn [.agg [.lit (.int .i64 f_Thing_Id), .lit (.int .i64 f_Thing_Kind), .lit (.int .i64 f_Thing_Colour), .lit (.int .i64 f_Thing_Size), .lit (.int .i64 f_Thing_Worth), .lit (.int .i64 f_Place), .lit (.int .i64 f_At), .lit (.int .i64 f_Finder)]] [] = some ((fun (f : TFind) => True) ⟨⟨f_Thing_Id, f_Thing_Kind, f_Thing_Colour, f_Thing_Size, f_Thing_Worth⟩, f_Place, f_At, f_Finder⟩, (fun (f : TFind) => (dI (mDueHour f) : D)) ⟨⟨f_Thing_Id, f_Thing_Kind, f_Thing_Colour, f_Thing_Size, f_Thing_Worth⟩, f_Place, f_At, f_Finder⟩, (fun (f : TFind) => []) ⟨⟨f_Thing_Id, f_Thing_Kind, f_Thing_Colour, f_Thing_Size, f_Thing_Worth⟩, f_Place, f_At, f_Finder⟩) :=
  mkCon_fn (fun x y h _ => c18_inj x y h) (⟨⟨f_Thing_Id, f_Thing_Kind, f_Thing_Colour, f_Thing_Size, f_Thing_Worth⟩, f_Place, f_At, f_Finder⟩ : TFind) (by simp [nz, nz1, ML_nil, encTFind, encTThing]) rfl
theorem c18_pc (f : TFind) : PCo Tryd.prog 18 [encTFind f] (Tab.of []) (dI (mDueHour f)) (Tab.of []) := by
  refine pco_of_run [3] (E := ⟨[c16, c66], []⟩) (m := false) (base := 0) (Env.ok_cons c16_ok (Env.ok_cons c66_ok Env.ok_nil)) G_ok mix 300 6 Tryd.func18 (by kernel_rfl) rfl (by kernel_rfl) (by kernel_rfl) rfl ?_
  cases h : mIsFind f with
  | true =>
    have h1 := find_at h
    have h2 := keep_bd f.Thing.Kind
    obtain ⟨⟨f_Thing_Id, f_Thing_Kind, f_Thing_Colour, f_Thing_Size, f_Thing_Worth⟩, f_Place, f_At, f_Finder⟩ := f
    simp at h1 h2
    simp [Tryd.f18, mDueHour, h]
    omega
  | false =>
    obtain ⟨⟨f_Thing_Id, f_Thing_Kind, f_Thing_Colour, f_Thing_Size, f_Thing_Worth⟩, f_Place, f_At, f_Finder⟩ := f
    simp [Tryd.f18, mDueHour, h]
theorem c18_ok : c18.ok Tryd.prog := mkCon_ok fun f hpre => c18_pc f
/-- loop.example/g03007/impl.DueHour -/
noncomputable def c20 : Con := mkCon 20 false (α := TFind) (fun x => (fun (f : TFind) => [encTFind f]) x) (fun _ => []) (fun x => (fun (f : TFind) => True) x) (fun x => (fun (f : TFind) => (dI (mDueHour f) : D)) x) (fun x => (fun (f : TFind) => []) x)
@[simp] theorem c20_f : c20.f = 20 := rfl
@[simp] theorem c20_own : c20.own = false := rfl
theorem c20_inj : ∀ u_ v_ : TFind, ((fun x => (fun (f : TFind) => [encTFind f]) x) u_).map nz = ((fun x => (fun (f : TFind) => [encTFind f]) x) v_).map nz → u_ = v_ := by
  intro u_ v_ h
  obtain ⟨⟨f_Thing_Id, f_Thing_Kind, f_Thing_Colour, f_Thing_Size, f_Thing_Worth⟩, f_Place, f_At, f_Finder⟩ := u_
  obtain ⟨⟨f_Thing_Id', f_Thing_Kind', f_Thing_Colour', f_Thing_Size', f_Thing_Worth'⟩, f_Place', f_At', f_Finder'⟩ := v_
  simp [nz_lit, nz1_lit, nz_agg, nz_sl, nz1_sl, encTFind, encTThing] at h
  first | (simp [h]; done) | (obtain ⟨⟩ := h; simp_all; done) | simp_all
@[simp] theorem c20_fn (f_Thing_Id : Int) (f_Thing_Kind : Int) (f_Thing_Colour : Int) (f_Thing_Size : Int) (f_Thing_Worth : Int) (f_Place : Int) (f_At : Int) (f_Finder : Int) : c20.fn [.agg [.lit (.int .i64 f_Thing_Id), .lit (.int .i64 f_Thing_Kind), .lit (.int .i64 f_Thing_Colour), .lit (.int .i64 f_Thing_Size), .lit (.int .i64 f_Thing_Worth), .lit (.int .i64 f_Place), .lit (.int .i64 f_At), .lit (.int .i64 f_Finder)]] [] = some ((fun (f : TFind) => True) ⟨⟨f_Thing_Id, f_Thing_Kind, f_Thing_Colour, f_Thing_Size, f_Thing_Worth⟩, f_Place, f_At, f_Finder⟩, (fun (f : TFind) => (dI (mDueHour f) : D)) ⟨⟨f_Thing_Id, f_Thing_Kind, f_Thing_Colour, f_Thing_Size, f_Thing_Worth⟩, f_Place, f_At, f_Finder⟩, (fun (f : TFind) => []) ⟨⟨f_Thing_Id, f_Thing_Kind, f_Thing_Colour, f_Thing_Size, f_Thing_Worth⟩, f_Place, f_At, f_Finder⟩) :=
  mkCon_fn (fun x y h _ => c20_inj x y h) (⟨⟨f_Thing_Id, f_Thing_Kind, f_Thing_Colour, f_Thing_Size, f_Thing_Worth⟩, f_Place, f_At, f_Finder⟩ : TFind) (by simp [nz, nz1, ML_nil, encTFind, encTThing]) rfl
theorem c20_pc (f : TFind) : PCo Tryd.prog 20 [encTFind f] (Tab.of []) (dI (mDueHour f)) (Tab.of []) := by
  refine pco_of_run [3] (E := ⟨[c17, c68], []⟩) (m := false) (base := 0) (Env.ok_cons c17_ok (Env.ok_cons c68_ok Env.ok_nil)) G_ok mix 300 6 Tryd.func20 (by kernel_rfl) rfl (by kernel_rfl) (by kernel_rfl) rfl ?_
  cases h : mIsFind f with
  | true =>
    have h1 := find_at h
    have h2 := keep_bd f.Thing.Kind
    obtain ⟨⟨f_Thing_Id, f_Thing_Kind, f_Thing_Colour, f_Thing_Size, f_Thing_Worth⟩, f_Place, f_At, f_Finder⟩ := f
    simp at h1 h2
    simp [Tryd.f20, mDueHour, h]
    omega
  | false =>
    obtain ⟨⟨f_Thing_Id, f_Thing_Kind, f_Thing_Colour, f_Thing_Size, f_Thing_Worth⟩, f_Place, f_At, f_Finder⟩ := f
    simp [Tryd.f20, mDueHour, h]
theorem c20_ok : c20.ok Tryd.prog := mkCon_ok fun f hpre => c20_pc f
def mIsDue (now : Int) (f : TFind) : Bool := mIsFind f && decide (mDueHour f ≤ now)
/-- loop.example/g03007/spec.IsDue -/
noncomputable def c21 : Con := mkCon 21 false (α := TFind × Int) (fun x => (fun (f : TFind) (now : Int) => [encTFind f, dI now]) x.1 x.2) (fun _ => []) (fun x => (fun (f : TFind) (now : Int) => True) x.1 x.2) (fun x => (fun (f : TFind) (now : Int) => (dB (mIsDue now f) : D)) x.1 x.2) (fun x => (fun (f : TFind) (now : Int) => []) x.1 x.2)
@[simp] theorem c21_f : c21.f = 21 := rfl
@[simp] theorem c21_own : c21.own = false := rfl
theorem c21_inj : ∀ u_ v_ : TFind × Int, ((fun x => (fun (f : TFind) (now : Int) => [encTFind f, dI now]) x.1 x.2) u_).map nz = ((fun x => (fun (f : TFind) (now : Int) => [encTFind f, dI now]) x.1 x.2) v_).map nz → u_ = v_ := by
  intro u_ v_ h
  obtain ⟨⟨⟨f_Thing_Id, f_Thing_Kind, f_Thing_Colour, f_Thing_Size, f_Thing_Worth⟩, f_Place, f_At, f_Finder⟩, now⟩ := u_
  obtain ⟨⟨⟨f_Thing_Id', f_Thing_Kind', f_Thing_Colour', f_Thing_Size', f_Thing_Worth'⟩, f_Place', f_At', f_Finder'⟩, now'⟩ := v_
  simp [nz_lit, nz1_lit, nz_agg, nz_sl, nz1_sl, encTFind, encTThing] at h
  first | (simp [h]; done) | (obtain ⟨⟩ := h; simp_all; done) | simp_all
@[simp] theorem c21_fn (f_Thing_Id : Int) (f_Thing_Kind : Int) (f_Thing_Colour : Int) (f_Thing_Size : Int) (f_Thing_Worth : Int) (f_Place : Int) (f_At : Int) (f_Finder : Int) (now : Int) : c21.fn [.agg [.lit (.int .i64 f_Thing_Id), .lit (.int .i64 f_Thing_Kind), .lit (.int .i64 f_Thing_Colour), .lit (.int .i64 f_Thing_Size), .lit (.int .i64 f_Thing_Worth), .lit (.int .i64 f_Place), .lit (.int .i64 f_At), .lit (.int .i64 f_Finder)], .lit (.int .i64 now)] [] = some ((fun (f : TFind) (now : Int) => True) ⟨⟨f_Thing_Id, f_Thing_Kind, f_Thing_Colour, f_Thing_Size, f_Thing_Worth⟩, f_Place, f_At, f_Finder⟩ now, (fun (f : TFind) (now : Int) => (dB (mIsDue now f) : D)) ⟨⟨f_Thing_Id, f_Thing_Kind, f_Thing_Colour, f_Thing_Size, f_Thing_Worth⟩, f_Place, f_At, f_Finder⟩ now, (fun (f : TFind) (now : Int) => []) ⟨⟨f_Thing_Id, f_Thing_Kind, f_Thing_Colour, f_Thing_Size, f_Thing_Worth⟩, f_Place, f_At, f_Finder⟩ now) :=
  mkCon_fn (fun x y h _ => c21_inj x y h) ((⟨⟨f_Thing_Id, f_Thing_Kind, f_Thing_Colour, f_Thing_Size, f_Thing_Worth⟩, f_Place, f_At, f_Finder⟩, now) : TFind × Int) (by simp [nz, nz1, ML_nil, encTFind, encTThing]) rfl
theorem c21_pc (f : TFind) (now : Int) : PCo Tryd.prog 21 [encTFind f, dI now] (Tab.of []) (dB (mIsDue now f)) (Tab.of []) := by
  obtain ⟨⟨f_Thing_Id, f_Thing_Kind, f_Thing_Colour, f_Thing_Size, f_Thing_Worth⟩, f_Place, f_At, f_Finder⟩ := f
  refine pco_of_run [] (E := ⟨[c18, c66], []⟩) (m := false) (base := 0) (Env.ok_cons c18_ok (Env.ok_cons c66_ok Env.ok_nil)) G_ok mix 300 6 Tryd.func21 (by kernel_rfl) rfl (by kernel_rfl) (by kernel_rfl) rfl ?_
  simp [Tryd.f21]
  simp [mIsDue]; first | done | first | rfl | omega | (rw [Bool.eq_iff_iff]; simp; done) | (rw [Bool.eq_iff_iff]; simp; omega) | (rw [Bool.eq_iff_iff]; simp; grind) | grind
theorem c21_ok : c21.ok Tryd.prog := mkCon_ok fun ⟨f, now⟩ hpre => c21_pc f now
/-- loop.example/g03007/impl.IsDue -/
noncomputable def c22 : Con := mkCon 22 false (α := TFind × Int) (fun x => (fun (f : TFind) (now : Int) => [encTFind f, dI now]) x.1 x.2) (fun _ => []) (fun x => (fun (f : TFind) (now : Int) => True) x.1 x.2) (fun x => (fun (f : TFind) (now : Int) => (dB (mIsDue now f) : D)) x.1 x.2) (fun x => (fun (f : TFind) (now : Int) => []) x.1 x.2)
@[simp] theorem c22_f : c22.f = 22 := rfl
@[simp] theorem c22_own : c22.own = false := rfl
theorem c22_inj : ∀ u_ v_ : TFind × Int, ((fun x => (fun (f : TFind) (now : Int) => [encTFind f, dI now]) x.1 x.2) u_).map nz = ((fun x => (fun (f : TFind) (now : Int) => [encTFind f, dI now]) x.1 x.2) v_).map nz → u_ = v_ := by
  intro u_ v_ h
  obtain ⟨⟨⟨f_Thing_Id, f_Thing_Kind, f_Thing_Colour, f_Thing_Size, f_Thing_Worth⟩, f_Place, f_At, f_Finder⟩, now⟩ := u_
  obtain ⟨⟨⟨f_Thing_Id', f_Thing_Kind', f_Thing_Colour', f_Thing_Size', f_Thing_Worth'⟩, f_Place', f_At', f_Finder'⟩, now'⟩ := v_
  simp [nz_lit, nz1_lit, nz_agg, nz_sl, nz1_sl, encTFind, encTThing] at h
  first | (simp [h]; done) | (obtain ⟨⟩ := h; simp_all; done) | simp_all
@[simp] theorem c22_fn (f_Thing_Id : Int) (f_Thing_Kind : Int) (f_Thing_Colour : Int) (f_Thing_Size : Int) (f_Thing_Worth : Int) (f_Place : Int) (f_At : Int) (f_Finder : Int) (now : Int) : c22.fn [.agg [.lit (.int .i64 f_Thing_Id), .lit (.int .i64 f_Thing_Kind), .lit (.int .i64 f_Thing_Colour), .lit (.int .i64 f_Thing_Size), .lit (.int .i64 f_Thing_Worth), .lit (.int .i64 f_Place), .lit (.int .i64 f_At), .lit (.int .i64 f_Finder)], .lit (.int .i64 now)] [] = some ((fun (f : TFind) (now : Int) => True) ⟨⟨f_Thing_Id, f_Thing_Kind, f_Thing_Colour, f_Thing_Size, f_Thing_Worth⟩, f_Place, f_At, f_Finder⟩ now, (fun (f : TFind) (now : Int) => (dB (mIsDue now f) : D)) ⟨⟨f_Thing_Id, f_Thing_Kind, f_Thing_Colour, f_Thing_Size, f_Thing_Worth⟩, f_Place, f_At, f_Finder⟩ now, (fun (f : TFind) (now : Int) => []) ⟨⟨f_Thing_Id, f_Thing_Kind, f_Thing_Colour, f_Thing_Size, f_Thing_Worth⟩, f_Place, f_At, f_Finder⟩ now) :=
  mkCon_fn (fun x y h _ => c22_inj x y h) ((⟨⟨f_Thing_Id, f_Thing_Kind, f_Thing_Colour, f_Thing_Size, f_Thing_Worth⟩, f_Place, f_At, f_Finder⟩, now) : TFind × Int) (by simp [nz, nz1, ML_nil, encTFind, encTThing]) rfl
theorem c22_pc (f : TFind) (now : Int) : PCo Tryd.prog 22 [encTFind f, dI now] (Tab.of []) (dB (mIsDue now f)) (Tab.of []) := by
  obtain ⟨⟨f_Thing_Id, f_Thing_Kind, f_Thing_Colour, f_Thing_Size, f_Thing_Worth⟩, f_Place, f_At, f_Finder⟩ := f
  refine pco_of_run [] (E := ⟨[c20, c68], []⟩) (m := false) (base := 0) (Env.ok_cons c20_ok (Env.ok_cons c68_ok Env.ok_nil)) G_ok mix 300 6 Tryd.func22 (by kernel_rfl) rfl (by kernel_rfl) (by kernel_rfl) rfl ?_
  simp [Tryd.f22]
  simp [mIsDue]; first | done | first | rfl | omega | (rw [Bool.eq_iff_iff]; simp; done) | (rw [Bool.eq_iff_iff]; simp; omega) | (rw [Bool.eq_iff_iff]; simp; grind) | grind
theorem c22_ok : c22.ok Tryd.prog := mkCon_ok fun ⟨f, now⟩ hpre => c22_pc f now
def stepDue (now n : Int) (f : TFind) : Int := if now < mDueHour f ∧ 0 ≤ mDueHour f ∧ (n < 0 ∨ mDueHour f < n) then mDueHour f else n
def mNextDue (l : List TFind) (now : Int) : Int := l.foldl (stepDue now) (-1)
/-- loop.example/g03007/spec.NextDue -/
noncomputable def c32 : Con := mkCon 32 false (α := (List TFind) × Int) (fun x => (fun (l : List TFind) (now : Int) => [encLTFind l, dI now]) x.1 x.2) (fun _ => []) (fun x => (fun (l : List TFind) (now : Int) => l.length ≤ 1099511627776) x.1 x.2) (fun x => (fun (l : List TFind) (now : Int) => (dI (mNextDue l now) : D)) x.1 x.2) (fun x => (fun (l : List TFind) (now : Int) => []) x.1 x.2)
@[simp] theorem c32_f : c32.f = 32 := rfl
@[simp] theorem c32_own : c32.own = false := rfl
theorem c32_inj : ∀ u_ v_ : (List TFind) × Int, ((fun x => (fun (l : List TFind) (now : Int) => [encLTFind l, dI now]) x.1 x.2) u_).map nz = ((fun x => (fun (l : List TFind) (now : Int) => [encLTFind l, dI now]) x.1 x.2) v_).map nz → u_ = v_ := by
  intro u_ v_ h
  obtain ⟨l, now⟩ := u_
  obtain ⟨l', now'⟩ := v_
  simp [nz_lit, nz1_lit, nz_agg, nz_sl, nz1_sl, encLTFind] at h
  first | (simp [h]; done) | (obtain ⟨⟩ := h; simp_all; done) | simp_all
@[simp] theorem c32_fn (l : List TFind) (now : Int) : c32.fn [.sl false 8 yTFind (ML encTFind l), .lit (.int .i64 now)] [] = some ((fun (l : List TFind) (now : Int) => l.length ≤ 1099511627776) l now, (fun (l : List TFind) (now : Int) => (dI (mNextDue l now) : D)) l now, (fun (l : List TFind) (now : Int) => []) l now) :=
  mkCon_fn (fun x y h _ => c32_inj x y h) ((l, now) : (List TFind) × Int) (by simp [nz, nz1, ML_nil, encLTFind]) rfl
@[simp] theorem c32_fn1 (s_l : Nat) (z_l : D) (now : Int) : c32.fn [.sl false s_l z_l [], .lit (.int .i64 now)] [] = some ((fun (l : List TFind) (now : Int) => l.length ≤ 1099511627776) [] now, (fun (l : List TFind) (now : Int) => (dI (mNextDue l now) : D)) [] now, (fun (l : List TFind) (now : Int) => []) [] now) :=
  mkCon_fn (fun x y h _ => c32_inj x y h) (([], now) : (List TFind) × Int) (by simp [nz, nz1, ML_nil, encLTFind]) rfl
theorem c32_pc (l : List TFind) (now : Int) (hpre : l.length ≤ 1099511627776) : PCo Tryd.prog 32 [encLTFind l, dI now] (Tab.of []) (dI (mNextDue l now)) (Tab.of []) := by
  refine pco_of_run [] (E := ⟨[c18], []⟩) (m := false) (base := 0) (Env.ok_cons c18_ok Env.ok_nil) G_ok mix 300 6 Tryd.func32 (by kernel_rfl) rfl (by kernel_rfl) (by kernel_rfl) rfl ?_
  simp [Tryd.f32]
  refine loop_inv (fun p : Nat => p ≤ l.length) (fun p => [(0, encLTFind l), (1, dI now), (5, dI ((l.take p).foldl (stepDue now) (-1))), (6, dI p)]) (fun _ => []) 1 (fun p => l.length - p) 0 400 (by simp) (by simp) (by simp) ?_
  intro p hp
  simp
  refine ⟨fun hlt => ?_, fun hge => ?_⟩
  · have hs := foldl_at (f := stepDue now) (s := -1) (d := default) hlt
    have hb := due_bd (l[p]?.getD default)
    repeat' (first | omega | refine And.intro ?_ ?_ | intro _)
    all_goals first | omega | (refine Again.mk (p + 1) (by omega) ?_ (by first | omega | (simp; omega)); simp [hs, stepDue]; split <;> omega) | (refine Again.mk (p + 1) (by omega) ?_ (by first | omega | (simp; omega)); simp [hs, stepDue]; omega)
  · rw [List.take_of_length_le hge]; simp [mNextDue]
theorem c32_ok : c32.ok Tryd.prog := mkCon_ok fun ⟨l, now⟩ hpre => c32_pc l now hpre
/-- loop.example/g03007/impl.NextDue -/
noncomputable def c33 : Con := mkCon 33 false (α := (List TFind) × Int) (fun x => (fun (l : List TFind) (now : Int) => [encLTFind l, dI now]) x.1 x.2) (fun _ => []) (fun x => (fun (l : List TFind) (now : Int) => l.length ≤ 1099511627776) x.1 x.2) (fun x => (fun (l : List TFind) (now : Int) => (dI (mNextDue l now) : D)) x.1 x.2) (fun x => (fun (l : List TFind) (now : Int) => []) x.1 x.2)
@[simp] theorem c33_f : c33.f = 33 := rfl
@[simp] theorem c33_own : c33.own = false := rfl
theorem c33_inj : ∀ u_ v_ : (List TFind) × Int, ((fun x => (fun (l : List TFind) (now : Int) => [encLTFind l, dI now]) x.1 x.2) u_).map nz = ((fun x => (fun (l : List TFind) (now : Int) => [encLTFind l, dI now]) x.1 x.2) v_).map nz → u_ = v_ := by
  intro u_ v_ h
  obtain ⟨l, now⟩ := u_
  obtain ⟨l', now'⟩ := v_
  simp [nz_lit, nz1_lit, nz_agg, nz_sl, nz1_sl, encLTFind] at h
  first | (simp [h]; done) | (obtain ⟨⟩ := h; simp_all; done) | simp_all
@[simp] theorem c33_fn (l : List TFind) (now : Int) : c33.fn [.sl false 8 yTFind (ML encTFind l), .lit (.int .i64 now)] [] = some ((fun (l : List TFind) (now : Int) => l.length ≤ 1099511627776) l now, (fun (l : List TFind) (now : Int) => (dI (mNextDue l now) : D)) l now, (fun (l : List TFind) (now : Int) => []) l now) :=
  mkCon_fn (fun x y h _ => c33_inj x y h) ((l, now) : (List TFind) × Int) (by simp [nz, nz1, ML_nil, encLTFind]) rfl
@[simp] theorem c33_fn1 (s_l : Nat) (z_l : D) (now : Int) : c33.fn [.sl false s_l z_l [], .lit (.int .i64 now)] [] = some ((fun (l : List TFind) (now : Int) => l.length ≤ 1099511627776) [] now, (fun (l : List TFind) (now : Int) => (dI (mNextDue l now) : D)) [] now, (fun (l : List TFind) (now : Int) => []) [] now) :=
  mkCon_fn (fun x y h _ => c33_inj x y h) (([], now) : (List TFind) × Int) (by simp [nz, nz1, ML_nil, encLTFind]) rfl
theorem c33_pc (l : List TFind) (now : Int) (hpre : l.length ≤ 1099511627776) : PCo Tryd.prog 33 [encLTFind l, dI now] (Tab.of []) (dI (mNextDue l now)) (Tab.of []) := by
  refine pco_of_run [] (E := ⟨[c20], []⟩) (m := false) (base := 0) (Env.ok_cons c20_ok Env.ok_nil) G_ok mix 300 6 Tryd.func33 (by kernel_rfl) rfl (by kernel_rfl) (by kernel_rfl) rfl ?_
  simp [Tryd.f33]
  refine loop_inv (fun p : Nat => p ≤ l.length) (fun p => [(1, dI now), (5, dI ((l.take p).foldl (stepDue now) (-1))), (9, encLTFind l), (10, dI l.length), (11, dI p)]) (fun _ => []) 1 (fun p => l.length - p) 0 400 (by simp) (by simp) (by simp) ?_
  intro p hp
  simp
  refine ⟨fun hlt => ?_, fun hge => ?_⟩
  · have hs := foldl_at (f := stepDue now) (s := -1) (d := default) hlt
    have hb := due_bd (l[p]?.getD default)
    repeat' (first | omega | refine And.intro ?_ ?_ | intro _)
    all_goals first | omega | (refine Again.mk (p + 1) (by omega) ?_ (by first | omega | (simp; omega)); simp [hs, stepDue]; split <;> omega) | (refine Again.mk (p + 1) (by omega) ?_ (by first | omega | (simp; omega)); simp [hs, stepDue]; omega)
  · rw [List.take_of_length_le hge]; simp [mNextDue]
theorem c33_ok : c33.ok Tryd.prog := mkCon_ok fun ⟨l, now⟩ hpre => c33_pc l now hpre
def mDaysLeft (f : TFind) (now : Int) : Int := if mIsFind f && mIn now 0 200000 && !mIsDue now f then mCeilDiv (mDueHour f - now) 24 else 0
/-- loop.example/g03007/spec.DaysLeft -/
noncomputable def c34 : Con := mkCon 34 false (α := TFind × Int) (fun x => (fun (f : TFind) (now : Int) => [encTFind f, dI now]) x.1 x.2) (fun _ => []) (fun x => (fun (f : TFind) (now : Int) => True) x.1 x.2) (fun x => (fun (f : TFind) (now : Int) => (dI (mDaysLeft f now) : D)) x.1 x.2) (fun x => (fun (f : TFind) (now : Int) => []) x.1 x.2)
@[simp] theorem c34_f : c34.f = 34 := rfl
@[simp] theorem c34_own : c34.own = false := rfl
theorem c34_inj : ∀ u_ v_ : TFind × Int, ((fun x => (fun (f : TFind) (now : Int) => [encTFind f, dI now]) x.1 x.2) u_).map nz = ((fun x => (fun (f : TFind) (now : Int) => [encTFind f, dI now]) x.1 x.2) v_).map nz → u_ = v_ := by
  intro u_ v_ h
  obtain ⟨⟨⟨f_Thing_Id, f_Thing_Kind, f_Thing_Colour, f_Thing_Size, f_Thing_Worth⟩, f_Place, f_At, f_Finder⟩, now⟩ := u_
  obtain ⟨⟨⟨f_Thing_Id', f_Thing_Kind', f_Thing_Colour', f_Thing_Size', f_Thing_Worth'⟩, f_Place', f_At', f_Finder'⟩, now'⟩ := v_
  simp [nz_lit, nz1_lit, nz_agg, nz_sl, nz1_sl, encTFind, encTThing] at h
  first | (simp [h]; done) | (obtain ⟨⟩ := h; simp_all; done) | simp_all
@[simp] theorem c34_fn (f_Thing_Id : Int) (f_Thing_Kind : Int) (f_Thing_Colour : Int) (f_Thing_Size : Int) (f_Thing_Worth : Int) (f_Place : Int) (f_At : Int) (f_Finder : Int) (now : Int) : c34.fn [.agg [.lit (.int .i64 f_Thing_Id), .lit (.int .i64 f_Thing_Kind), .lit (.int .i64 f_Thing_Colour), .lit (.int .i64 f_Thing_Size), .lit (.int .i64 f_Thing_Worth), .lit (.int .i64 f_Place), .lit (.int .i64 f_At), .lit (.int .i64 f_Finder)], .lit (.int .i64 now)] [] = some ((fun (f : TFind) (now : Int) => True) ⟨⟨f_Thing_Id, f_Thing_Kind, f_Thing_Colour, f_Thing_Size, f_Thing_Worth⟩, f_Place, f_At, f_Finder⟩ now, (fun (f : TFind) (now : Int) => (dI (mDaysLeft f now) : D)) ⟨⟨f_Thing_Id, f_Thing_Kind, f_Thing_Colour, f_Thing_Size, f_Thing_Worth⟩, f_Place, f_At, f_Finder⟩ now, (fun (f : TFind) (now : Int) => []) ⟨⟨f_Thing_Id, f_Thing_Kind, f_Thing_Colour, f_Thing_Size, f_Thing_Worth⟩, f_Place, f_At, f_Finder⟩ now) :=
  mkCon_fn (fun x y h _ => c34_inj x y h) ((⟨⟨f_Thing_Id, f_Thing_Kind, f_Thing_Colour, f_Thing_Size, f_Thing_Worth⟩, f_Place, f_At, f_Finder⟩, now) : TFind × Int) (by simp [nz, nz1, ML_nil, encTFind, encTThing]) rfl
theorem c34_pc (f : TFind) (now : Int) : PCo Tryd.prog 34 [encTFind f, dI now] (Tab.of []) (dI (mDaysLeft f now)) (Tab.of []) := by
  refine pco_of_run [] (E := ⟨[c18, c21, c64, c66, c72], []⟩) (m := false) (base := 0) (Env.ok_cons c18_ok (Env.ok_cons c21_ok (Env.ok_cons c64_ok (Env.ok_cons c66_ok (Env.ok_cons c72_ok Env.ok_nil))))) G_ok mix 300 6 Tryd.func34 (by kernel_rfl) rfl (by kernel_rfl) (by kernel_rfl) rfl ?_
  have hb := due_bd f
  have hd : ∀ a b c, mIsFind f = a → mIn now 0 200000 = b → mIsDue now f = c → mDaysLeft f now = if a && b && !c then mCeilDiv (mDueHour f - now) 24 else 0 := fun a b c h1 h2 h3 => by rw [mDaysLeft, h1, h2, h3]
  cases h1 : mIsFind f <;> cases h2 : mIn now 0 200000 <;> cases h3 : mIsDue now f <;> have e := hd _ _ _ h1 h2 h3
  all_goals
    obtain ⟨⟨f_Thing_Id, f_Thing_Kind, f_Thing_Colour, f_Thing_Size, f_Thing_Worth⟩, f_Place, f_At, f_Finder⟩ := f
    simp at e
    simp [Tryd.f34, h1, h2, h3, e]
    try (have h4 := mIn_iff.1 h2; omega)
theorem c34_ok : c34.ok Tryd.prog := mkCon_ok fun ⟨f, now⟩ hpre => c34_pc f now
/-- loop.example/g03007/impl.DaysLeft -/
noncomputable def c35 : Con := mkCon 35 false (α := TFind × Int) (fun x => (fun (f : TFind) (now : Int) => [encTFind f, dI now]) x.1 x.2) (fun _ => []) (fun x => (fun (f : TFind) (now : Int) => True) x.1 x.2) (fun x => (fun (f : TFind) (now : Int) => (dI (mDaysLeft f now) : D)) x.1 x.2) (fun x => (fun (f : TFind) (now : Int) => []) x.1 x.2)
@[simp] theorem c35_f : c35.f = 35 := rfl
@[simp] theorem c35_own : c35.own = false := rfl
theorem c35_inj : ∀ u_ v_ : TFind × Int, ((fun x => (fun (f : TFind) (now : Int) => [encTFind f, dI now]) x.1 x.2) u_).map nz = ((fun x => (fun (f : TFind) (now : Int) => [encTFind f, dI now]) x.1 x.2) v_).map nz → u_ = v_ := by
  intro u_ v_ h
  obtain ⟨⟨⟨f_Thing_Id, f_Thing_Kind, f_Thing_Colour, f_Thing_Size, f_Thing_Worth⟩, f_Place, f_At, f_Finder⟩, now⟩ := u_
  obtain ⟨⟨⟨f_Thing_Id', f_Thing_Kind', f_Thing_Colour', f_Thing_Size', f_Thing_Worth'⟩, f_Place', f_At', f_Finder'⟩, now'⟩ := v_
  simp [nz_lit, nz1_lit, nz_agg, nz_sl, nz1_sl, encTFind, encTThing] at h
  first | (simp [h]; done) | (obtain ⟨⟩ := h; simp_all; done) | simp_all
@[simp] theorem c35_fn (f_Thing_Id : Int) (f_Thing_Kind : Int) (f_Thing_Colour : Int) (f_Thing_Size : Int) (f_Thing_Worth : Int) (f_Place : Int) (f_At : Int) (f_Finder : Int) (now : Int) : c35.fn [.agg [.lit (.int .i64 f_Thing_Id), .lit (.int .i64 f_Thing_Kind), .lit (.int .i64 f_Thing_Colour), .lit (.int .i64 f_Thing_Size), .lit (.int .i64 f_Thing_Worth), .lit (.int .i64 f_Place), .lit (.int .i64 f_At), .lit (.int .i64 f_Finder)], .lit (.int .i64 now)] [] = some ((fun (f : TFind) (now : Int) => True) ⟨⟨f_Thing_Id, f_Thing_Kind, f_Thing_Colour, f_Thing_Size, f_Thing_Worth⟩, f_Place, f_At, f_Finder⟩ now, (fun (f : TFind) (now : Int) => (dI (mDaysLeft f now) : D)) ⟨⟨f_Thing_Id, f_Thing_Kind, f_Thing_Colour, f_Thing_Size, f_Thing_Worth⟩, f_Place, f_At, f_Finder⟩ now, (fun (f : TFind) (now : Int) => []) ⟨⟨f_Thing_Id, f_Thing_Kind, f_Thing_Colour, f_Thing_Size, f_Thing_Worth⟩, f_Place, f_At, f_Finder⟩ now) :=
  mkCon_fn (fun x y h _ => c35_inj x y h) ((⟨⟨f_Thing_Id, f_Thing_Kind, f_Thing_Colour, f_Thing_Size, f_Thing_Worth⟩, f_Place, f_At, f_Finder⟩, now) : TFind × Int) (by simp [nz, nz1, ML_nil, encTFind, encTThing]) rfl
theorem c35_pc (f : TFind) (now : Int) : PCo Tryd.prog 35 [encTFind f, dI now] (Tab.of []) (dI (mDaysLeft f now)) (Tab.of []) := by
  refine pco_of_run [] (E := ⟨[c20, c22, c65, c68, c73], []⟩) (m := false) (base := 0) (Env.ok_cons c20_ok (Env.ok_cons c22_ok (Env.ok_cons c65_ok (Env.ok_cons c68_ok (Env.ok_cons c73_ok Env.ok_nil))))) G_ok mix 300 6 Tryd.func35 (by kernel_rfl) rfl (by kernel_rfl) (by kernel_rfl) rfl ?_
  have hb := due_bd f
  have hd : ∀ a b c, mIsFind f = a → mIn now 0 200000 = b → mIsDue now f = c → mDaysLeft f now = if a && b && !c then mCeilDiv (mDueHour f - now) 24 else 0 := fun a b c h1 h2 h3 => by rw [mDaysLeft, h1, h2, h3]
  cases h1 : mIsFind f <;> cases h2 : mIn now 0 200000 <;> cases h3 : mIsDue now f <;> have e := hd _ _ _ h1 h2 h3
  all_goals
    obtain ⟨⟨f_Thing_Id, f_Thing_Kind, f_Thing_Colour, f_Thing_Size, f_Thing_Worth⟩, f_Place, f_At, f_Finder⟩ := f
    simp at e
    simp [Tryd.f35, h1, h2, h3, e]
    try (have h4 := mIn_iff.1 h2; omega)
theorem c35_ok : c35.ok Tryd.prog := mkCon_ok fun ⟨f, now⟩ hpre => c35_pc f now
/-- loop.example/g03007/laws.FnExactKeepDays -/
theorem law3 (k : Int) (wk : inR .i64 k) : PCo Tryd.prog 3 [dI k] (Tab.of []) (dB true) (Tab.of []) := by
  refine pco_of_run [] (E := ⟨[c16, c17], []⟩) (m := false) (base := 0) (Env.ok_cons c16_ok (Env.ok_cons c17_ok Env.ok_nil)) G_ok mix 400 6 Tryd.func3 (by kernel_rfl) rfl (by kernel_rfl) (by kernel_rfl) rfl ?_
  simp (config := {maxSteps := 3000000}) [Tryd.f3]
  repeat' (first | omega | assumption | refine And.intro ?_ ?_ | intro _)
  all_goals first | omega | grind | (split at * <;> omega)
theorem law3_pc (D0 : D) (h0 : Sh G 9 3 D0) : PC Tryd.prog 3 [D0] (dB true) [] := by
  obtain ⟨k, rfl, wk⟩ := sh3 (n := 8) h0
  exact law3 k wk
/-- loop.example/g03007/laws.FnExactDueHour -/
theorem law4 (f : TFind) (wf : wfTFind f) : PCo Tryd.prog 4 [encTFind f] (Tab.of []) (dB true) (Tab.of []) := by
  obtain ⟨⟨f_Thing_Id, f_Thing_Kind, f_Thing_Colour, f_Thing_Size, f_Thing_Worth⟩, f_Place, f_At, f_Finder⟩ := f
  refine pco_of_run [] (E := ⟨[c18, c19, c20], []⟩) (m := false) (base := 0) (Env.ok_cons c18_ok (Env.ok_cons c19_ok (Env.ok_cons c20_ok Env.ok_nil))) G_ok mix 400 6 Tryd.func4 (by kernel_rfl) rfl (by kernel_rfl) (by kernel_rfl) rfl ?_
  simp (config := {maxSteps := 3000000}) [Tryd.f4]
  repeat' (first | omega | assumption | refine And.intro ?_ ?_ | intro _)
  all_goals first | omega | grind | (split at * <;> omega)
theorem law4_pc (D0 : D) (h0 : Sh G 9 27 D0) : PC Tryd.prog 4 [D0] (dB true) [] := by
  obtain ⟨f, rfl, wf⟩ := sh27 (n := 6) h0
  exact law4 f wf
/-- loop.example/g03007/laws.FnExactIsDue -/
theorem law5 (f : TFind) (wf : wfTFind f) (now : Int) (wnow : inR .i64 now) : PCo Tryd.prog 5 [encTFind f, dI now] (Tab.of []) (dB true) (Tab.of []) := by
  obtain ⟨⟨f_Thing_Id, f_Thing_Kind, f_Thing_Colour, f_Thing_Size, f_Thing_Worth⟩, f_Place, f_At, f_Finder⟩ := f
  refine pco_of_run [] (E := ⟨[c19, c21, c22], []⟩) (m := false) (base := 0) (Env.ok_cons c19_ok (Env.ok_cons c21_ok (Env.ok_cons c22_ok Env.ok_nil))) G_ok mix 400 6 Tryd.func5 (by kernel_rfl) rfl (by kernel_rfl) (by kernel_rfl) rfl ?_
  simp (config := {maxSteps := 3000000}) [Tryd.f5]
  repeat' (first | omega | assumption | refine And.intro ?_ ?_ | intro _)
  all_goals first | omega | grind | (split at * <;> omega)
theorem law5_pc (D0 : D) (h0 : Sh G 9 27 D0) (D1 : D) (h1 : Sh G 9 3 D1) : PC Tryd.prog 5 [D0, D1] (dB true) [] := by
  obtain ⟨f, rfl, wf⟩ := sh27 (n := 6) h0
  obtain ⟨now, rfl, wnow⟩ := sh3 (n := 8) h1
  exact law5 f wf now wnow
/-- loop.example/g03007/laws.FnExactNextDue -/
theorem law7 (l : List TFind) (wl : wfLTFind l) (now : Int) (wnow : inR .i64 now) : PCo Tryd.prog 7 [encLTFind l, dI now] (Tab.of []) (dB true) (Tab.of []) := by
  refine pco_of_run [] (E := ⟨[c23, c25, c28, c32, c33], []⟩) (m := false) (base := 0) (Env.ok_cons c23_ok (Env.ok_cons c25_ok (Env.ok_cons c28_ok (Env.ok_cons c32_ok (Env.ok_cons c33_ok Env.ok_nil))))) G_ok mix 400 6 Tryd.func7 (by kernel_rfl) rfl (by kernel_rfl) (by kernel_rfl) rfl ?_
  simp (config := {maxSteps := 3000000}) [Tryd.f7]
  have h_l : l.length ≤ maxLen := wl.1
  repeat' (first | omega | assumption | refine And.intro ?_ ?_ | intro _)
  all_goals first | omega | grind | (split at * <;> omega)
theorem law7_pc (D0 : D) (h0 : Sh G 9 36 D0) (D1 : D) (h1 : Sh G 9 3 D1) : PC Tryd.prog 7 [D0, D1] (dB true) [] := by
  obtain ⟨l, rfl, wl⟩ := sh36 (n := 5) h0
  obtain ⟨now, rfl, wnow⟩ := sh3 (n := 8) h1
  exact law7 l wl now wnow
/-- loop.example/g03007/laws.FnExactDaysLeft -/
theorem law8 (f : TFind) (wf : wfTFind f) (now : Int) (wnow : inR .i64 now) : PCo Tryd.prog 8 [encTFind f, dI now] (Tab.of []) (dB true) (Tab.of []) := by
  obtain ⟨⟨f_Thing_Id, f_Thing_Kind, f_Thing_Colour, f_Thing_Size, f_Thing_Worth⟩, f_Place, f_At, f_Finder⟩ := f
  refine pco_of_run [] (E := ⟨[c19, c34, c35], []⟩) (m := false) (base := 0) (Env.ok_cons c19_ok (Env.ok_cons c34_ok (Env.ok_cons c35_ok Env.ok_nil))) G_ok mix 400 6 Tryd.func8 (by kernel_rfl) rfl (by kernel_rfl) (by kernel_rfl) rfl ?_
  simp (config := {maxSteps := 3000000}) [Tryd.f8]
  repeat' (first | omega | assumption | refine And.intro ?_ ?_ | intro _)
  all_goals first | omega | grind | (split at * <;> omega)
theorem law8_pc (D0 : D) (h0 : Sh G 9 27 D0) (D1 : D) (h1 : Sh G 9 3 D1) : PC Tryd.prog 8 [D0, D1] (dB true) [] := by
  obtain ⟨f, rfl, wf⟩ := sh27 (n := 6) h0
  obtain ⟨now, rfl, wnow⟩ := sh3 (n := 8) h1
  exact law8 f wf now wnow

end Go.Proofs.YtobofamoagbacaaDoor
