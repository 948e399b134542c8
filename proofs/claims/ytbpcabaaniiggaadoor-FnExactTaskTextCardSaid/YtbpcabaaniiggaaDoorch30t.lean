/- Contracts of the functions that the laws run. -/
import Derived.Test.YtbpcabaaniiggaaDoorch18
import Derived.Test.YtbpcabaaniiggaaDoorch01f
import Derived.Test.YtbpcabaaniiggaaDoorEngB
namespace Go.Proofs.YtbpcabaaniiggaaDoor
open Go Go.Eng
set_option linter.unusedSimpArgs false
set_option linter.unusedVariables false
set_option maxRecDepth 10000
set_option maxHeartbeats 1000000
def mTaskText (x : TTask) : ByteArray := if mFate x.Fate = ⟨#[]⟩ then ⟨#[]⟩ else (((mFate x.Fate ++ ⟨#[32]⟩) ++ mInt x.Thing) ++ ⟨#[32, 111, 110, 32]⟩) ++ mInt x.Day
theorem fate_size (i : Int) : (mFate i).size ≤ 6 := by
  simp only [mFate, mTextAt]
  split
  · rename_i h
    have h2 := mIn_iff.1 h
    simp [fateNames] at h2
    obtain rfl | rfl | rfl | rfl | rfl | rfl : i = 0 ∨ i = 1 ∨ i = 2 ∨ i = 3 ∨ i = 4 ∨ i = 5 := by omega
    all_goals (simp [fateNames, ByteArray.size])
  · simp [ByteArray.size]
/-- loop.example/g03007/spec.TaskText -/
noncomputable def c31 : Con := mkCon 31 false (α := TTask) (fun x => (fun (x : TTask) => [encTTask x]) x) (fun _ => []) (fun x => (fun (x : TTask) => (-9223372036854775808 ≤ x.Thing ∧ x.Thing ≤ 9223372036854775807) ∧ (-9223372036854775808 ≤ x.Day ∧ x.Day ≤ 9223372036854775807)) x) (fun x => (fun (x : TTask) => (dS (mTaskText x) : D)) x) (fun x => (fun (x : TTask) => []) x)
@[simp] theorem c31_f : c31.f = 31 := rfl
@[simp] theorem c31_own : c31.own = false := rfl
theorem c31_inj : ∀ u_ v_ : TTask, ((fun x => (fun (x : TTask) => [encTTask x]) x) u_).map nz = ((fun x => (fun (x : TTask) => [encTTask x]) x) v_).map nz → u_ = v_ := by
  intro u_ v_ h
  obtain ⟨x_Thing, x_Fate, x_Day⟩ := u_
  obtain ⟨x_Thing', x_Fate', x_Day'⟩ := v_
  simp [nz_lit, nz1_lit, nz_agg, nz_sl, nz1_sl, encTTask] at h
  first | (simp [h]; done) | (obtain ⟨⟩ := h; simp_all; done) | simp_all
@[simp] theorem c31_fn (x_Thing : Int) (x_Fate : Int) (x_Day : Int) : c31.fn [.agg [.lit (.int .i64 x_Thing), .lit (.int .i64 x_Fate), .lit (.int .i64 x_Day)]] [] = some ((fun (x : TTask) => (-9223372036854775808 ≤ x.Thing ∧ x.Thing ≤ 9223372036854775807) ∧ (-9223372036854775808 ≤ x.Day ∧ x.Day ≤ 9223372036854775807)) ⟨x_Thing, x_Fate, x_Day⟩, (fun (x : TTask) => (dS (mTaskText x) : D)) ⟨x_Thing, x_Fate, x_Day⟩, (fun (x : TTask) => []) ⟨x_Thing, x_Fate, x_Day⟩) :=
  mkCon_fn (fun x y h _ => c31_inj x y h) (⟨x_Thing, x_Fate, x_Day⟩ : TTask) (by simp [nz, nz1, ML_nil, encTTask]) rfl
theorem c31_pc (x : TTask) (hpre : (-9223372036854775808 ≤ x.Thing ∧ x.Thing ≤ 9223372036854775807) ∧ (-9223372036854775808 ≤ x.Day ∧ x.Day ≤ 9223372036854775807)) : PCo Tryd.prog 31 [encTTask x] (Tab.of []) (dS (mTaskText x)) (Tab.of []) := by
  obtain ⟨x_Thing, x_Fate, x_Day⟩ := x
  refine pco_of_run [3] (E := ⟨[c14, c69], []⟩) (m := false) (base := 0) (Env.ok_cons c14_ok (Env.ok_cons c69_ok Env.ok_nil)) G_ok mix 300 6 Tryd.func31 (by kernel_rfl) rfl (by kernel_rfl) (by kernel_rfl) rfl ?_
  simp [Tryd.f31]
  have h1 := fate_size x_Fate
  have h2 := mInt_size hpre.1
  have h3 := mInt_size hpre.2
  obtain ⟨pre1, pre2⟩ := hpre
  simp at pre1 pre2 h2 h3
  have z1 : (⟨#[32]⟩ : ByteArray).size = 1 := rfl
  have z2 : (⟨#[32, 111, 110, 32]⟩ : ByteArray).size = 4 := rfl
  rw [z1, z2]
  refine ⟨fun h => by simp [mTaskText, h], fun h => ⟨?_, by simp [mTaskText, h]⟩⟩
  repeat' (first | omega | refine And.intro ?_ ?_ | intro _)
theorem c31_ok : c31.ok Tryd.prog := mkCon_ok fun x hpre => c31_pc x hpre
/-- loop.example/g03007/impl.TaskText -/
noncomputable def c33 : Con := mkCon 33 false (α := TTask) (fun x => (fun (x : TTask) => [encTTask x]) x) (fun _ => []) (fun x => (fun (x : TTask) => (-9223372036854775808 ≤ x.Thing ∧ x.Thing ≤ 9223372036854775807) ∧ (-9223372036854775808 ≤ x.Day ∧ x.Day ≤ 9223372036854775807)) x) (fun x => (fun (x : TTask) => (dS (mTaskText x) : D)) x) (fun x => (fun (x : TTask) => []) x)
@[simp] theorem c33_f : c33.f = 33 := rfl
@[simp] theorem c33_own : c33.own = false := rfl
theorem c33_inj : ∀ u_ v_ : TTask, ((fun x => (fun (x : TTask) => [encTTask x]) x) u_).map nz = ((fun x => (fun (x : TTask) => [encTTask x]) x) v_).map nz → u_ = v_ := by
  intro u_ v_ h
  obtain ⟨x_Thing, x_Fate, x_Day⟩ := u_
  obtain ⟨x_Thing', x_Fate', x_Day'⟩ := v_
  simp [nz_lit, nz1_lit, nz_agg, nz_sl, nz1_sl, encTTask] at h
  first | (simp [h]; done) | (obtain ⟨⟩ := h; simp_all; done) | simp_all
@[simp] theorem c33_fn (x_Thing : Int) (x_Fate : Int) (x_Day : Int) : c33.fn [.agg [.lit (.int .i64 x_Thing), .lit (.int .i64 x_Fate), .lit (.int .i64 x_Day)]] [] = some ((fun (x : TTask) => (-9223372036854775808 ≤ x.Thing ∧ x.Thing ≤ 9223372036854775807) ∧ (-9223372036854775808 ≤ x.Day ∧ x.Day ≤ 9223372036854775807)) ⟨x_Thing, x_Fate, x_Day⟩, (fun (x : TTask) => (dS (mTaskText x) : D)) ⟨x_Thing, x_Fate, x_Day⟩, (fun (x : TTask) => []) ⟨x_Thing, x_Fate, x_Day⟩) :=
  mkCon_fn (fun x y h _ => c33_inj x y h) (⟨x_Thing, x_Fate, x_Day⟩ : TTask) (by simp [nz, nz1, ML_nil, encTTask]) rfl
theorem c33_pc (x : TTask) (hpre : (-9223372036854775808 ≤ x.Thing ∧ x.Thing ≤ 9223372036854775807) ∧ (-9223372036854775808 ≤ x.Day ∧ x.Day ≤ 9223372036854775807)) : PCo Tryd.prog 33 [encTTask x] (Tab.of []) (dS (mTaskText x)) (Tab.of []) := by
  obtain ⟨x_Thing, x_Fate, x_Day⟩ := x
  refine pco_of_run [4] (E := ⟨[c15, c70], []⟩) (m := false) (base := 0) (Env.ok_cons c15_ok (Env.ok_cons c70_ok Env.ok_nil)) G_ok mix 300 6 Tryd.func33 (by kernel_rfl) rfl (by kernel_rfl) (by kernel_rfl) rfl ?_
  simp [Tryd.f33]
  have h1 := fate_size x_Fate
  have h2 := mInt_size hpre.1
  have h3 := mInt_size hpre.2
  obtain ⟨pre1, pre2⟩ := hpre
  simp at pre1 pre2 h2 h3
  have z1 : (⟨#[32]⟩ : ByteArray).size = 1 := rfl
  have z2 : (⟨#[32, 111, 110, 32]⟩ : ByteArray).size = 4 := rfl
  rw [z1, z2]
  refine ⟨fun h => by simp [mTaskText, h], fun h => ⟨?_, by simp [mTaskText, h]⟩⟩
  repeat' (first | omega | refine And.intro ?_ ?_ | intro _)
theorem c33_ok : c33.ok Tryd.prog := mkCon_ok fun x hpre => c33_pc x hpre
/-- loop.example/g03007/laws.toTask -/
noncomputable def c32 : Con := mkCon 32 false (α := TTask) (fun x => (fun (x : TTask) => [encTTask x]) x) (fun _ => []) (fun x => (fun (x : TTask) => True) x) (fun x => (fun (x : TTask) => (encTTask x : D)) x) (fun x => (fun (x : TTask) => []) x)
@[simp] theorem c32_f : c32.f = 32 := rfl
@[simp] theorem c32_own : c32.own = false := rfl
theorem c32_inj : ∀ u_ v_ : TTask, ((fun x => (fun (x : TTask) => [encTTask x]) x) u_).map nz = ((fun x => (fun (x : TTask) => [encTTask x]) x) v_).map nz → u_ = v_ := by
  intro u_ v_ h
  obtain ⟨x_Thing, x_Fate, x_Day⟩ := u_
  obtain ⟨x_Thing', x_Fate', x_Day'⟩ := v_
  simp [nz_lit, nz1_lit, nz_agg, nz_sl, nz1_sl, encTTask] at h
  first | (simp [h]; done) | (obtain ⟨⟩ := h; simp_all; done) | simp_all
@[simp] theorem c32_fn (x_Thing : Int) (x_Fate : Int) (x_Day : Int) : c32.fn [.agg [.lit (.int .i64 x_Thing), .lit (.int .i64 x_Fate), .lit (.int .i64 x_Day)]] [] = some ((fun (x : TTask) => True) ⟨x_Thing, x_Fate, x_Day⟩, (fun (x : TTask) => (encTTask x : D)) ⟨x_Thing, x_Fate, x_Day⟩, (fun (x : TTask) => []) ⟨x_Thing, x_Fate, x_Day⟩) :=
  mkCon_fn (fun x y h _ => c32_inj x y h) (⟨x_Thing, x_Fate, x_Day⟩ : TTask) (by simp [nz, nz1, ML_nil, encTTask]) rfl
theorem c32_pc (x : TTask) : PCo Tryd.prog 32 [encTTask x] (Tab.of []) (encTTask x) (Tab.of []) := by
  obtain ⟨x_Thing, x_Fate, x_Day⟩ := x
  refine pco_of_run [] (E := ⟨[], []⟩) (m := false) (base := 0) Env.ok_nil G_ok mix 300 6 Tryd.func32 (by kernel_rfl) rfl (by kernel_rfl) (by kernel_rfl) rfl ?_
  simp [Tryd.f32]
  all_goals first | omega | (rw [Bool.eq_iff_iff]; simp; omega) | grind
theorem c32_ok : c32.ok Tryd.prog := mkCon_ok fun x hpre => c32_pc x
/-- loop.example/g03007/laws.FnExactTaskText -/
theorem law8 (x : TTask) (wx : wfTTask x) : PCo Tryd.prog 8 [encTTask x] (Tab.of []) (dB true) (Tab.of []) := by
  obtain ⟨x_Thing, x_Fate, x_Day⟩ := x
  refine pco_of_run [] (E := ⟨[c31, c32, c33], []⟩) (m := false) (base := 0) (Env.ok_cons c31_ok (Env.ok_cons c32_ok (Env.ok_cons c33_ok Env.ok_nil))) G_ok mix 400 6 Tryd.func8 (by kernel_rfl) rfl (by kernel_rfl) (by kernel_rfl) rfl ?_
  simp (config := {maxSteps := 3000000}) [Tryd.f8]
  have h1 := wx.1
  have h2 := wx.2.2
  simp [inR] at h1 h2
  omega
theorem law8_pc (D0 : D) (h0 : Sh G 9 55 D0) : PC Tryd.prog 8 [D0] (dB true) [] := by
  obtain ⟨x, rfl, wx⟩ := sh55 (n := 7) h0
  exact law8 x wx

end Go.Proofs.YtbpcabaaniiggaaDoor
