/- Contracts of the functions that the laws run. -/
import Derived.Test.YtobofamoagbacaaDoorch18g
import Derived.Test.YtobofamoagbacaaDoorhelpB
import Derived.Test.YtobofamoagbacaaDoorEngB
namespace Go.Proofs.YtobofamoagbacaaDoor
open Go Go.Eng
set_option linter.unusedSimpArgs false
set_option linter.unusedVariables false
set_option maxRecDepth 10000
set_option maxHeartbeats 1000000
def mLastDay (l : List Bool) (f : TFind) : Int := if mIsFind f then mNext l ((mDueHour f).tdiv 24) else -1
theorem due_div {f : TFind} : -1 ≤ (mDueHour f).tdiv 24 ∧ (mDueHour f).tdiv 24 ≤ 104320 := by
  have h := due_bd f
  by_cases h0 : 0 ≤ mDueHour f
  · have := tdiv_bd h0 (show (0 : Int) < 24 by omega); omega
  · have : mDueHour f = -1 := by omega
    rw [this]; decide
/-- loop.example/g03007/impl.dayOf -/
noncomputable def c80 : Con := mkCon 80 false (α := Int) (fun x => (fun (h : Int) => [dI h]) x) (fun _ => []) (fun x => (fun (h : Int) => -1 ≤ h.tdiv 24 ∧ h.tdiv 24 ≤ 1000000) x) (fun x => (fun (h : Int) => (dI (h.tdiv 24) : D)) x) (fun x => (fun (h : Int) => []) x)
@[simp] theorem c80_f : c80.f = 80 := rfl
@[simp] theorem c80_own : c80.own = false := rfl
theorem c80_inj : ∀ u_ v_ : Int, ((fun x => (fun (h : Int) => [dI h]) x) u_).map nz = ((fun x => (fun (h : Int) => [dI h]) x) v_).map nz → u_ = v_ := by
  intro u_ v_ h
  obtain h := u_
  obtain h' := v_
  simp [nz_lit, nz1_lit, nz_agg, nz_sl, nz1_sl] at h
  first | (simp [h]; done) | (obtain ⟨⟩ := h; simp_all; done) | simp_all
@[simp] theorem c80_fn (h : Int) : c80.fn [.lit (.int .i64 h)] [] = some ((fun (h : Int) => -1 ≤ h.tdiv 24 ∧ h.tdiv 24 ≤ 1000000) h, (fun (h : Int) => (dI (h.tdiv 24) : D)) h, (fun (h : Int) => []) h) :=
  mkCon_fn (fun x y h _ => c80_inj x y h) (h : Int) (by simp [nz, nz1, ML_nil]) rfl
theorem c80_pc (h : Int) (hpre : -1 ≤ h.tdiv 24 ∧ h.tdiv 24 ≤ 1000000) : PCo Tryd.prog 80 [dI h] (Tab.of []) (dI (h.tdiv 24)) (Tab.of []) := by
  refine pco_of_run [] (E := ⟨[], []⟩) (m := false) (base := 0) Env.ok_nil G_ok mix 300 6 Tryd.func80 (by kernel_rfl) rfl (by kernel_rfl) (by kernel_rfl) rfl ?_
  simp [Tryd.f80]
  all_goals first | omega | (rw [Bool.eq_iff_iff]; simp; omega) | grind
theorem c80_ok : c80.ok Tryd.prog := mkCon_ok fun h hpre => c80_pc h hpre
/-- loop.example/g03007/spec.LastDay -/
noncomputable def c46 : Con := mkCon 46 false (α := (List Bool) × TFind) (fun x => (fun (l : List Bool) (f : TFind) => [encLB l, encTFind f]) x.1 x.2) (fun _ => []) (fun x => (fun (l : List Bool) (f : TFind) => l.length ≤ 1099511627776) x.1 x.2) (fun x => (fun (l : List Bool) (f : TFind) => (dI (mLastDay l f) : D)) x.1 x.2) (fun x => (fun (l : List Bool) (f : TFind) => []) x.1 x.2)
@[simp] theorem c46_f : c46.f = 46 := rfl
@[simp] theorem c46_own : c46.own = false := rfl
theorem c46_inj : ∀ u_ v_ : (List Bool) × TFind, ((fun x => (fun (l : List Bool) (f : TFind) => [encLB l, encTFind f]) x.1 x.2) u_).map nz = ((fun x => (fun (l : List Bool) (f : TFind) => [encLB l, encTFind f]) x.1 x.2) v_).map nz → u_ = v_ := by
  intro u_ v_ h
  obtain ⟨l, ⟨⟨f_Thing_Id, f_Thing_Kind, f_Thing_Colour, f_Thing_Size, f_Thing_Worth⟩, f_Place, f_At, f_Finder⟩⟩ := u_
  obtain ⟨l', ⟨⟨f_Thing_Id', f_Thing_Kind', f_Thing_Colour', f_Thing_Size', f_Thing_Worth'⟩, f_Place', f_At', f_Finder'⟩⟩ := v_
  simp [nz_lit, nz1_lit, nz_agg, nz_sl, nz1_sl, encLB, encTFind, encTThing] at h
  first | (simp [h]; done) | (obtain ⟨⟩ := h; simp_all; done) | simp_all
@[simp] theorem c46_fn (l : List Bool) (f_Thing_Id : Int) (f_Thing_Kind : Int) (f_Thing_Colour : Int) (f_Thing_Size : Int) (f_Thing_Worth : Int) (f_Place : Int) (f_At : Int) (f_Finder : Int) : c46.fn [.sl false 1 (.lit (.bool false)) (ML dB l), .agg [.lit (.int .i64 f_Thing_Id), .lit (.int .i64 f_Thing_Kind), .lit (.int .i64 f_Thing_Colour), .lit (.int .i64 f_Thing_Size), .lit (.int .i64 f_Thing_Worth), .lit (.int .i64 f_Place), .lit (.int .i64 f_At), .lit (.int .i64 f_Finder)]] [] = some ((fun (l : List Bool) (f : TFind) => l.length ≤ 1099511627776) l ⟨⟨f_Thing_Id, f_Thing_Kind, f_Thing_Colour, f_Thing_Size, f_Thing_Worth⟩, f_Place, f_At, f_Finder⟩, (fun (l : List Bool) (f : TFind) => (dI (mLastDay l f) : D)) l ⟨⟨f_Thing_Id, f_Thing_Kind, f_Thing_Colour, f_Thing_Size, f_Thing_Worth⟩, f_Place, f_At, f_Finder⟩, (fun (l : List Bool) (f : TFind) => []) l ⟨⟨f_Thing_Id, f_Thing_Kind, f_Thing_Colour, f_Thing_Size, f_Thing_Worth⟩, f_Place, f_At, f_Finder⟩) :=
  mkCon_fn (fun x y h _ => c46_inj x y h) ((l, ⟨⟨f_Thing_Id, f_Thing_Kind, f_Thing_Colour, f_Thing_Size, f_Thing_Worth⟩, f_Place, f_At, f_Finder⟩) : (List Bool) × TFind) (by simp [nz, nz1, ML_nil, encLB, encTFind, encTThing]) rfl
@[simp] theorem c46_fn1 (s_l : Nat) (z_l : D) (f_Thing_Id : Int) (f_Thing_Kind : Int) (f_Thing_Colour : Int) (f_Thing_Size : Int) (f_Thing_Worth : Int) (f_Place : Int) (f_At : Int) (f_Finder : Int) : c46.fn [.sl false s_l z_l [], .agg [.lit (.int .i64 f_Thing_Id), .lit (.int .i64 f_Thing_Kind), .lit (.int .i64 f_Thing_Colour), .lit (.int .i64 f_Thing_Size), .lit (.int .i64 f_Thing_Worth), .lit (.int .i64 f_Place), .lit (.int .i64 f_At), .lit (.int .i64 f_Finder)]] [] = some ((fun (l : List Bool) (f : TFind) => l.length ≤ 1099511627776) [] ⟨⟨f_Thing_Id, f_Thing_Kind, f_Thing_Colour, f_Thing_Size, f_Thing_Worth⟩, f_Place, f_At, f_Finder⟩, (fun (l : List Bool) (f : TFind) => (dI (mLastDay l f) : D)) [] ⟨⟨f_Thing_Id, f_Thing_Kind, f_Thing_Colour, f_Thing_Size, f_Thing_Worth⟩, f_Place, f_At, f_Finder⟩, (fun (l : List Bool) (f : TFind) => []) [] ⟨⟨f_Thing_Id, f_Thing_Kind, f_Thing_Colour, f_Thing_Size, f_Thing_Worth⟩, f_Place, f_At, f_Finder⟩) :=
  mkCon_fn (fun x y h _ => c46_inj x y h) (([], ⟨⟨f_Thing_Id, f_Thing_Kind, f_Thing_Colour, f_Thing_Size, f_Thing_Worth⟩, f_Place, f_At, f_Finder⟩) : (List Bool) × TFind) (by simp [nz, nz1, ML_nil, encLB, encTFind, encTThing]) rfl
theorem c46_pc (l : List Bool) (f : TFind) (hpre : l.length ≤ 1099511627776) : PCo Tryd.prog 46 [encLB l, encTFind f] (Tab.of []) (dI (mLastDay l f)) (Tab.of []) := by
  refine pco_of_run [] (E := ⟨[c18, c66, c78], []⟩) (m := false) (base := 0) (Env.ok_cons c18_ok (Env.ok_cons c66_ok (Env.ok_cons c78_ok Env.ok_nil))) G_ok mix 300 6 Tryd.func46 (by kernel_rfl) rfl (by kernel_rfl) (by kernel_rfl) rfl ?_
  have hb := due_bd f
  have hd := due_div (f := f)
  cases h : mIsFind f with
  | true =>
    have e : mLastDay l f = mNext l ((mDueHour f).tdiv 24) := by rw [mLastDay, if_pos h]
    rw [e]
    obtain ⟨⟨f_Thing_Id, f_Thing_Kind, f_Thing_Colour, f_Thing_Size, f_Thing_Worth⟩, f_Place, f_At, f_Finder⟩ := f
    simp [Tryd.f46, h]
    repeat' (first | omega | refine And.intro ?_ ?_ | intro _)
  | false =>
    have e : mLastDay l f = -1 := by rw [mLastDay, if_neg (by simp [h])]
    rw [e]
    obtain ⟨⟨f_Thing_Id, f_Thing_Kind, f_Thing_Colour, f_Thing_Size, f_Thing_Worth⟩, f_Place, f_At, f_Finder⟩ := f
    simp [Tryd.f46, h]
theorem c46_ok : c46.ok Tryd.prog := mkCon_ok fun ⟨l, f⟩ hpre => c46_pc l f hpre
/-- loop.example/g03007/impl.LastDay -/
noncomputable def c48 : Con := mkCon 48 false (α := (List Bool) × TFind) (fun x => (fun (l : List Bool) (f : TFind) => [encLB l, encTFind f]) x.1 x.2) (fun _ => []) (fun x => (fun (l : List Bool) (f : TFind) => l.length ≤ 1099511627776) x.1 x.2) (fun x => (fun (l : List Bool) (f : TFind) => (dI (mLastDay l f) : D)) x.1 x.2) (fun x => (fun (l : List Bool) (f : TFind) => []) x.1 x.2)
@[simp] theorem c48_f : c48.f = 48 := rfl
@[simp] theorem c48_own : c48.own = false := rfl
theorem c48_inj : ∀ u_ v_ : (List Bool) × TFind, ((fun x => (fun (l : List Bool) (f : TFind) => [encLB l, encTFind f]) x.1 x.2) u_).map nz = ((fun x => (fun (l : List Bool) (f : TFind) => [encLB l, encTFind f]) x.1 x.2) v_).map nz → u_ = v_ := by
  intro u_ v_ h
  obtain ⟨l, ⟨⟨f_Thing_Id, f_Thing_Kind, f_Thing_Colour, f_Thing_Size, f_Thing_Worth⟩, f_Place, f_At, f_Finder⟩⟩ := u_
  obtain ⟨l', ⟨⟨f_Thing_Id', f_Thing_Kind', f_Thing_Colour', f_Thing_Size', f_Thing_Worth'⟩, f_Place', f_At', f_Finder'⟩⟩ := v_
  simp [nz_lit, nz1_lit, nz_agg, nz_sl, nz1_sl, encLB, encTFind, encTThing] at h
  first | (simp [h]; done) | (obtain ⟨⟩ := h; simp_all; done) | simp_all
@[simp] theorem c48_fn (l : List Bool) (f_Thing_Id : Int) (f_Thing_Kind : Int) (f_Thing_Colour : Int) (f_Thing_Size : Int) (f_Thing_Worth : Int) (f_Place : Int) (f_At : Int) (f_Finder : Int) : c48.fn [.sl false 1 (.lit (.bool false)) (ML dB l), .agg [.lit (.int .i64 f_Thing_Id), .lit (.int .i64 f_Thing_Kind), .lit (.int .i64 f_Thing_Colour), .lit (.int .i64 f_Thing_Size), .lit (.int .i64 f_Thing_Worth), .lit (.int .i64 f_Place), .lit (.int .i64 f_At), .lit (.int .i64 f_Finder)]] [] = some ((fun (l : List Bool) (f : TFind) => l.length ≤ 1099511627776) l ⟨⟨f_Thing_Id, f_Thing_Kind, f_Thing_Colour, f_Thing_Size, f_Thing_Worth⟩, f_Place, f_At, f_Finder⟩, (fun (l : List Bool) (f : TFind) => (dI (mLastDay l f) : D)) l ⟨⟨f_Thing_Id, f_Thing_Kind, f_Thing_Colour, f_Thing_Size, f_Thing_Worth⟩, f_Place, f_At, f_Finder⟩, (fun (l : List Bool) (f : TFind) => []) l ⟨⟨f_Thing_Id, f_Thing_Kind, f_Thing_Colour, f_Thing_Size, f_Thing_Worth⟩, f_Place, f_At, f_Finder⟩) :=
  mkCon_fn (fun x y h _ => c48_inj x y h) ((l, ⟨⟨f_Thing_Id, f_Thing_Kind, f_Thing_Colour, f_Thing_Size, f_Thing_Worth⟩, f_Place, f_At, f_Finder⟩) : (List Bool) × TFind) (by simp [nz, nz1, ML_nil, encLB, encTFind, encTThing]) rfl
@[simp] theorem c48_fn1 (s_l : Nat) (z_l : D) (f_Thing_Id : Int) (f_Thing_Kind : Int) (f_Thing_Colour : Int) (f_Thing_Size : Int) (f_Thing_Worth : Int) (f_Place : Int) (f_At : Int) (f_Finder : Int) : c48.fn [.sl false s_l z_l [], .agg [.lit (.int .i64 f_Thing_Id), .lit (.int .i64 f_Thing_Kind), .lit (.int .i64 f_Thing_Colour), .lit (.int .i64 f_Thing_Size), .lit (.int .i64 f_Thing_Worth), .lit (.int .i64 f_Place), .lit (.int .i64 f_At), .lit (.int .i64 f_Finder)]] [] = some ((fun (l : List Bool) (f : TFind) => l.length ≤ 1099511627776) [] ⟨⟨f_Thing_Id, f_Thing_Kind, f_Thing_Colour, f_Thing_Size, f_Thing_Worth⟩, f_Place, f_At, f_Finder⟩, (fun (l : List Bool) (f : TFind) => (dI (mLastDay l f) : D)) [] ⟨⟨f_Thing_Id, f_Thing_Kind, f_Thing_Colour, f_Thing_Size, f_Thing_Worth⟩, f_Place, f_At, f_Finder⟩, (fun (l : List Bool) (f : TFind) => []) [] ⟨⟨f_Thing_Id, f_Thing_Kind, f_Thing_Colour, f_Thing_Size, f_Thing_Worth⟩, f_Place, f_At, f_Finder⟩) :=
  mkCon_fn (fun x y h _ => c48_inj x y h) (([], ⟨⟨f_Thing_Id, f_Thing_Kind, f_Thing_Colour, f_Thing_Size, f_Thing_Worth⟩, f_Place, f_At, f_Finder⟩) : (List Bool) × TFind) (by simp [nz, nz1, ML_nil, encLB, encTFind, encTThing]) rfl
theorem c48_pc (l : List Bool) (f : TFind) (hpre : l.length ≤ 1099511627776) : PCo Tryd.prog 48 [encLB l, encTFind f] (Tab.of []) (dI (mLastDay l f)) (Tab.of []) := by
  refine pco_of_run [] (E := ⟨[c20, c68, c79, c80], []⟩) (m := false) (base := 0) (Env.ok_cons c20_ok (Env.ok_cons c68_ok (Env.ok_cons c79_ok (Env.ok_cons c80_ok Env.ok_nil)))) G_ok mix 300 6 Tryd.func48 (by kernel_rfl) rfl (by kernel_rfl) (by kernel_rfl) rfl ?_
  have hb := due_bd f
  have hd := due_div (f := f)
  cases h : mIsFind f with
  | true =>
    have e : mLastDay l f = mNext l ((mDueHour f).tdiv 24) := by rw [mLastDay, if_pos h]
    rw [e]
    obtain ⟨⟨f_Thing_Id, f_Thing_Kind, f_Thing_Colour, f_Thing_Size, f_Thing_Worth⟩, f_Place, f_At, f_Finder⟩ := f
    simp [Tryd.f48, h]
    repeat' (first | omega | refine And.intro ?_ ?_ | intro _)
  | false =>
    have e : mLastDay l f = -1 := by rw [mLastDay, if_neg (by simp [h])]
    rw [e]
    obtain ⟨⟨f_Thing_Id, f_Thing_Kind, f_Thing_Colour, f_Thing_Size, f_Thing_Worth⟩, f_Place, f_At, f_Finder⟩ := f
    simp [Tryd.f48, h]
theorem c48_ok : c48.ok Tryd.prog := mkCon_ok fun ⟨l, f⟩ hpre => c48_pc l f hpre
/-- loop.example/g03007/laws.FnExactLastDay -/
theorem law12 (l : List Bool) (wl : wfLB l) (f : TFind) (wf : wfTFind f) : PCo Tryd.prog 12 [encLB l, encTFind f] (Tab.of []) (dB true) (Tab.of []) := by
  obtain ⟨⟨f_Thing_Id, f_Thing_Kind, f_Thing_Colour, f_Thing_Size, f_Thing_Worth⟩, f_Place, f_At, f_Finder⟩ := f
  refine pco_of_run [1003, 2000046, 2000048, 2000049] (E := ⟨[c19, c46, c47, c48, c49], []⟩) (m := false) (base := 0) (Env.ok_cons c19_ok (Env.ok_cons c46_ok (Env.ok_cons c47_ok (Env.ok_cons c48_ok (Env.ok_cons c49_ok Env.ok_nil))))) G_ok mix 400 6 Tryd.func12 (by kernel_rfl) rfl (by kernel_rfl) (by kernel_rfl) rfl ?_
  simp (config := {maxSteps := 3000000}) [Tryd.f12]
  omega
theorem law12_pc (D0 : D) (h0 : Sh G 9 59 D0) (D1 : D) (h1 : Sh G 9 27 D1) : PC Tryd.prog 12 [D0, D1] (dB true) [] := by
  obtain ⟨l, rfl, wl⟩ := sh59 (n := 7) h0
  obtain ⟨f, rfl, wf⟩ := sh27 (n := 6) h1
  exact law12 l wl f wf
/-- loop.example/g03007/laws.FnExactFatesOf -/
theorem law11 (f : List TFind) (wf : wfLTFind f) (l : List TClaim) (wl : wfLTClaim l) (now : Int) (wnow : inR .i64 now) : PCo Tryd.prog 11 [encLTFind f, encLTClaim l, dI now] (Tab.of []) (dB true) (Tab.of []) := by
  refine pco_of_run [] (E := ⟨[c23, c25, c27, c28, c29, c30, c31, c36, c38, c40, c43, c44, c45], []⟩) (m := false) (base := 0) (Env.ok_cons c23_ok (Env.ok_cons c25_ok (Env.ok_cons c27_ok (Env.ok_cons c28_ok (Env.ok_cons c29_ok (Env.ok_cons c30_ok (Env.ok_cons c31_ok (Env.ok_cons c36_ok (Env.ok_cons c38_ok (Env.ok_cons c40_ok (Env.ok_cons c43_ok (Env.ok_cons c44_ok (Env.ok_cons c45_ok Env.ok_nil))))))))))))) G_ok mix 400 6 Tryd.func11 (by kernel_rfl) rfl (by kernel_rfl) (by kernel_rfl) rfl ?_
  simp (config := {maxSteps := 3000000}) [Tryd.f11]
  have h1 := mFates_len f l now
  have h2 := wf.1
  have h3 := wl.1
  refine ⟨h2, fun ha => ?_⟩
  have hf : (f.length : Int) ≤ 1048576 := by split at ha <;> omega
  rw [if_neg (show ¬ (1048576 - (f.length : Int) < 0) by omega)] at *
  refine ⟨⟨h3, by omega, by omega⟩, fun hb => ?_⟩
  have hl : (l.length : Int) ≤ 1048576 := by split at hb <;> omega
  repeat' (first | omega | refine And.intro ?_ ?_ | intro _)
theorem law11_pc (D0 : D) (h0 : Sh G 9 36 D0) (D1 : D) (h1 : Sh G 9 48 D1) (D2 : D) (h2 : Sh G 9 3 D2) : PC Tryd.prog 11 [D0, D1, D2] (dB true) [] := by
  obtain ⟨f, rfl, wf⟩ := sh36 (n := 5) h0
  obtain ⟨l, rfl, wl⟩ := sh48 (n := 6) h1
  obtain ⟨now, rfl, wnow⟩ := sh3 (n := 8) h2
  exact law11 f wf l wl now wnow

end Go.Proofs.YtobofamoagbacaaDoor
