/- Contracts of the functions that the laws run. -/
import Derived.Test.Ytnnieeojfdjcoaach11
import Derived.Test.YtnnieeojfdjcoaaEngB
namespace Go.Proofs.Ytnnieeojfdjcoaa
open Go Go.Eng
set_option linter.unusedSimpArgs false
set_option linter.unusedVariables false
set_option maxRecDepth 10000
set_option maxHeartbeats 1000000
/-- loop.example/g03007/laws.toTrial -/
noncomputable def c51 : Con := mkCon 51 false (α := TTrial) (fun x => (fun (a : TTrial) => [encTTrial a]) x) (fun _ => []) (fun x => (fun (a : TTrial) => True) x) (fun x => (fun (a : TTrial) => (encTTrial a : D)) x) (fun x => (fun (a : TTrial) => []) x)
@[simp] theorem c51_f : c51.f = 51 := rfl
@[simp] theorem c51_own : c51.own = false := rfl
theorem c51_inj : ∀ u_ v_ : TTrial, ((fun x => (fun (a : TTrial) => [encTTrial a]) x) u_).map nz = ((fun x => (fun (a : TTrial) => [encTTrial a]) x) v_).map nz → u_ = v_ := by
  intro u_ v_ h
  obtain ⟨a_Claim, a_Asked, a_Right, a_Wrong⟩ := u_
  obtain ⟨a_Claim', a_Asked', a_Right', a_Wrong'⟩ := v_
  simp [nz_lit, nz1_lit, nz_agg, nz_sl, nz1_sl, encTTrial] at h
  first | (simp [h]; done) | (obtain ⟨⟩ := h; simp_all; done) | simp_all
@[simp] theorem c51_fn (a_Claim : Int) (a_Asked : Int) (a_Right : Int) (a_Wrong : Int) : c51.fn [.agg [.lit (.int .i64 a_Claim), .lit (.int .i64 a_Asked), .lit (.int .i64 a_Right), .lit (.int .i64 a_Wrong)]] [] = some ((fun (a : TTrial) => True) ⟨a_Claim, a_Asked, a_Right, a_Wrong⟩, (fun (a : TTrial) => (encTTrial a : D)) ⟨a_Claim, a_Asked, a_Right, a_Wrong⟩, (fun (a : TTrial) => []) ⟨a_Claim, a_Asked, a_Right, a_Wrong⟩) :=
  mkCon_fn (fun x y h _ => c51_inj x y h) (⟨a_Claim, a_Asked, a_Right, a_Wrong⟩ : TTrial) (by simp [nz, nz1, ML_nil, encTTrial]) rfl
theorem c51_pc (a : TTrial) : PCo Try.prog 51 [encTTrial a] (Tab.of []) (encTTrial a) (Tab.of []) := by
  obtain ⟨a_Claim, a_Asked, a_Right, a_Wrong⟩ := a
  refine pco_of_run [] (E := ⟨[], []⟩) (m := false) (base := 0) Env.ok_nil G_ok mix 300 6 Try.func51 (by kernel_rfl) rfl (by kernel_rfl) (by kernel_rfl) rfl ?_
  simp [Try.f51]
  all_goals first | omega | (rw [Bool.eq_iff_iff]; simp; omega) | grind
theorem c51_ok : c51.ok Try.prog := mkCon_ok fun a hpre => c51_pc a
/-- loop.example/g03007/laws.eqTrial -/
noncomputable def c61 : Con := mkCon 61 false (α := TTrial × TTrial) (fun x => (fun (a : TTrial) (b : TTrial) => [encTTrial a, encTTrial b]) x.1 x.2) (fun _ => []) (fun x => (fun (a : TTrial) (b : TTrial) => True) x.1 x.2) (fun x => (fun (a : TTrial) (b : TTrial) => (dB (decide (a = b)) : D)) x.1 x.2) (fun x => (fun (a : TTrial) (b : TTrial) => []) x.1 x.2)
@[simp] theorem c61_f : c61.f = 61 := rfl
@[simp] theorem c61_own : c61.own = false := rfl
theorem c61_inj : ∀ u_ v_ : TTrial × TTrial, ((fun x => (fun (a : TTrial) (b : TTrial) => [encTTrial a, encTTrial b]) x.1 x.2) u_).map nz = ((fun x => (fun (a : TTrial) (b : TTrial) => [encTTrial a, encTTrial b]) x.1 x.2) v_).map nz → u_ = v_ := by
  intro u_ v_ h
  obtain ⟨⟨a_Claim, a_Asked, a_Right, a_Wrong⟩, ⟨b_Claim, b_Asked, b_Right, b_Wrong⟩⟩ := u_
  obtain ⟨⟨a_Claim', a_Asked', a_Right', a_Wrong'⟩, ⟨b_Claim', b_Asked', b_Right', b_Wrong'⟩⟩ := v_
  simp [nz_lit, nz1_lit, nz_agg, nz_sl, nz1_sl, encTTrial] at h
  first | (simp [h]; done) | (obtain ⟨⟩ := h; simp_all; done) | simp_all
@[simp] theorem c61_fn (a_Claim : Int) (a_Asked : Int) (a_Right : Int) (a_Wrong : Int) (b_Claim : Int) (b_Asked : Int) (b_Right : Int) (b_Wrong : Int) : c61.fn [.agg [.lit (.int .i64 a_Claim), .lit (.int .i64 a_Asked), .lit (.int .i64 a_Right), .lit (.int .i64 a_Wrong)], .agg [.lit (.int .i64 b_Claim), .lit (.int .i64 b_Asked), .lit (.int .i64 b_Right), .lit (.int .i64 b_Wrong)]] [] = some ((fun (a : TTrial) (b : TTrial) => True) ⟨a_Claim, a_Asked, a_Right, a_Wrong⟩ ⟨b_Claim, b_Asked, b_Right, b_Wrong⟩, (fun (a : TTrial) (b : TTrial) => (dB (decide (a = b)) : D)) ⟨a_Claim, a_Asked, a_Right, a_Wrong⟩ ⟨b_Claim, b_Asked, b_Right, b_Wrong⟩, (fun (a : TTrial) (b : TTrial) => []) ⟨a_Claim, a_Asked, a_Right, a_Wrong⟩ ⟨b_Claim, b_Asked, b_Right, b_Wrong⟩) :=
  mkCon_fn (fun x y h _ => c61_inj x y h) ((⟨a_Claim, a_Asked, a_Right, a_Wrong⟩, ⟨b_Claim, b_Asked, b_Right, b_Wrong⟩) : TTrial × TTrial) (by simp [nz, nz1, ML_nil, encTTrial]) rfl
theorem c61_pc (a : TTrial) (b : TTrial) : PCo Try.prog 61 [encTTrial a, encTTrial b] (Tab.of []) (dB (decide (a = b))) (Tab.of []) := by
  obtain ⟨a_Claim, a_Asked, a_Right, a_Wrong⟩ := a
  obtain ⟨b_Claim, b_Asked, b_Right, b_Wrong⟩ := b
  refine pco_of_run [] (E := ⟨[], []⟩) (m := false) (base := 0) Env.ok_nil G_ok mix 300 6 Try.func61 (by kernel_rfl) rfl (by kernel_rfl) (by kernel_rfl) rfl ?_
  simp [Try.f61]
  all_goals first | omega | (rw [Bool.eq_iff_iff]; simp; omega) | grind
theorem c61_ok : c61.ok Try.prog := mkCon_ok fun ⟨a, b⟩ hpre => c61_pc a b
def mIsTrial (x : TTrial) : Bool := mIn x.Claim 1 999 && mIn x.Right 0 100 && mIn x.Wrong 0 100 && decide (x.Asked = x.Right + x.Wrong)
/-- loop.example/g03007/spec.IsTrial -/
noncomputable def c50 : Con := mkCon 50 false (α := TTrial) (fun x => (fun (x : TTrial) => [encTTrial x]) x) (fun _ => []) (fun x => (fun (x : TTrial) => True) x) (fun x => (fun (x : TTrial) => (dB (mIsTrial x) : D)) x) (fun x => (fun (x : TTrial) => []) x)
@[simp] theorem c50_f : c50.f = 50 := rfl
@[simp] theorem c50_own : c50.own = false := rfl
theorem c50_inj : ∀ u_ v_ : TTrial, ((fun x => (fun (x : TTrial) => [encTTrial x]) x) u_).map nz = ((fun x => (fun (x : TTrial) => [encTTrial x]) x) v_).map nz → u_ = v_ := by
  intro u_ v_ h
  obtain ⟨x_Claim, x_Asked, x_Right, x_Wrong⟩ := u_
  obtain ⟨x_Claim', x_Asked', x_Right', x_Wrong'⟩ := v_
  simp [nz_lit, nz1_lit, nz_agg, nz_sl, nz1_sl, encTTrial] at h
  first | (simp [h]; done) | (obtain ⟨⟩ := h; simp_all; done) | simp_all
@[simp] theorem c50_fn (x_Claim : Int) (x_Asked : Int) (x_Right : Int) (x_Wrong : Int) : c50.fn [.agg [.lit (.int .i64 x_Claim), .lit (.int .i64 x_Asked), .lit (.int .i64 x_Right), .lit (.int .i64 x_Wrong)]] [] = some ((fun (x : TTrial) => True) ⟨x_Claim, x_Asked, x_Right, x_Wrong⟩, (fun (x : TTrial) => (dB (mIsTrial x) : D)) ⟨x_Claim, x_Asked, x_Right, x_Wrong⟩, (fun (x : TTrial) => []) ⟨x_Claim, x_Asked, x_Right, x_Wrong⟩) :=
  mkCon_fn (fun x y h _ => c50_inj x y h) (⟨x_Claim, x_Asked, x_Right, x_Wrong⟩ : TTrial) (by simp [nz, nz1, ML_nil, encTTrial]) rfl
theorem c50_pc (x : TTrial) : PCo Try.prog 50 [encTTrial x] (Tab.of []) (dB (mIsTrial x)) (Tab.of []) := by
  obtain ⟨x_Claim, x_Asked, x_Right, x_Wrong⟩ := x
  refine pco_of_run [] (E := ⟨[c118], []⟩) (m := false) (base := 0) (Env.ok_cons c118_ok Env.ok_nil) G_ok mix 300 6 Try.func50 (by kernel_rfl) rfl (by kernel_rfl) (by kernel_rfl) rfl ?_
  simp [Try.f50]
  simp [mIsTrial]
  refine ⟨fun _ h1 h2 => ?_, by first | rfl | omega | (rw [Bool.eq_iff_iff]; simp; done) | (rw [Bool.eq_iff_iff]; simp; omega) | (rw [Bool.eq_iff_iff]; simp; grind) | grind⟩
  have := mIn_iff.1 h1; have := mIn_iff.1 h2; omega
theorem c50_ok : c50.ok Try.prog := mkCon_ok fun x hpre => c50_pc x
/-- loop.example/g03007/impl.IsTrial -/
noncomputable def c52 : Con := mkCon 52 false (α := TTrial) (fun x => (fun (x : TTrial) => [encTTrial x]) x) (fun _ => []) (fun x => (fun (x : TTrial) => True) x) (fun x => (fun (x : TTrial) => (dB (mIsTrial x) : D)) x) (fun x => (fun (x : TTrial) => []) x)
@[simp] theorem c52_f : c52.f = 52 := rfl
@[simp] theorem c52_own : c52.own = false := rfl
theorem c52_inj : ∀ u_ v_ : TTrial, ((fun x => (fun (x : TTrial) => [encTTrial x]) x) u_).map nz = ((fun x => (fun (x : TTrial) => [encTTrial x]) x) v_).map nz → u_ = v_ := by
  intro u_ v_ h
  obtain ⟨x_Claim, x_Asked, x_Right, x_Wrong⟩ := u_
  obtain ⟨x_Claim', x_Asked', x_Right', x_Wrong'⟩ := v_
  simp [nz_lit, nz1_lit, nz_agg, nz_sl, nz1_sl, encTTrial] at h
  first | (simp [h]; done) | (obtain ⟨⟩ := h; simp_all; done) | simp_all
@[simp] theorem c52_fn (x_Claim : Int) (x_Asked : Int) (x_Right : Int) (x_Wrong : Int) : c52.fn [.agg [.lit (.int .i64 x_Claim), .lit (.int .i64 x_Asked), .lit (.int .i64 x_Right), .lit (.int .i64 x_Wrong)]] [] = some ((fun (x : TTrial) => True) ⟨x_Claim, x_Asked, x_Right, x_Wrong⟩, (fun (x : TTrial) => (dB (mIsTrial x) : D)) ⟨x_Claim, x_Asked, x_Right, x_Wrong⟩, (fun (x : TTrial) => []) ⟨x_Claim, x_Asked, x_Right, x_Wrong⟩) :=
  mkCon_fn (fun x y h _ => c52_inj x y h) (⟨x_Claim, x_Asked, x_Right, x_Wrong⟩ : TTrial) (by simp [nz, nz1, ML_nil, encTTrial]) rfl
theorem c52_pc (x : TTrial) : PCo Try.prog 52 [encTTrial x] (Tab.of []) (dB (mIsTrial x)) (Tab.of []) := by
  obtain ⟨x_Claim, x_Asked, x_Right, x_Wrong⟩ := x
  refine pco_of_run [] (E := ⟨[c127], []⟩) (m := false) (base := 0) (Env.ok_cons c127_ok Env.ok_nil) G_ok mix 300 6 Try.func52 (by kernel_rfl) rfl (by kernel_rfl) (by kernel_rfl) rfl ?_
  simp [Try.f52]
  simp [mIsTrial]
  refine ⟨fun _ h1 h2 => ?_, by first | rfl | omega | (rw [Bool.eq_iff_iff]; simp; done) | (rw [Bool.eq_iff_iff]; simp; omega) | (rw [Bool.eq_iff_iff]; simp; grind) | grind⟩
  have := mIn_iff.1 h1; have := mIn_iff.1 h2; omega
theorem c52_ok : c52.ok Try.prog := mkCon_ok fun x hpre => c52_pc x
/-- loop.example/g03007/laws.FnExactIsTrial -/
theorem law9 (x : TTrial) (wx : wfTTrial x) : PCo Try.prog 9 [encTTrial x] (Tab.of []) (dB true) (Tab.of []) := by
  obtain ⟨x_Claim, x_Asked, x_Right, x_Wrong⟩ := x
  refine pco_of_run [] (E := ⟨[c50, c51, c52], []⟩) (m := false) (base := 0) (Env.ok_cons c50_ok (Env.ok_cons c51_ok (Env.ok_cons c52_ok Env.ok_nil))) G_ok mix 400 6 Try.func9 (by kernel_rfl) rfl (by kernel_rfl) (by kernel_rfl) rfl ?_
  simp [Try.f9]
  repeat' (first | omega | assumption | refine And.intro ?_ ?_ | intro _)
  all_goals first | omega | grind | (split at * <;> omega)
theorem law9_pc (D0 : D) (h0 : Sh G 9 42 D0) : PC Try.prog 9 [D0] (dB true) [] := by
  obtain ⟨x, rfl, wx⟩ := sh42 (n := 7) h0
  exact law9 x wx
/-- loop.example/g03007/spec.NeedFor -/
noncomputable def c53 : Con := mkCon 53 false (α := (List TMark)) (fun x => (fun (l : List TMark) => [encLTMark l]) x) (fun _ => []) (fun x => (fun (l : List TMark) => l.length ≤ 1073741823) x) (fun x => (fun (l : List TMark) => (dI (min 3 l.length) : D)) x) (fun x => (fun (l : List TMark) => []) x)
@[simp] theorem c53_f : c53.f = 53 := rfl
@[simp] theorem c53_own : c53.own = false := rfl
theorem c53_inj : ∀ u_ v_ : (List TMark), ((fun x => (fun (l : List TMark) => [encLTMark l]) x) u_).map nz = ((fun x => (fun (l : List TMark) => [encLTMark l]) x) v_).map nz → u_ = v_ := by
  intro u_ v_ h
  obtain l := u_
  obtain l' := v_
  simp [nz_lit, nz1_lit, nz_agg, nz_sl, nz1_sl, encLTMark] at h
  first | (simp [h]; done) | (obtain ⟨⟩ := h; simp_all; done) | simp_all
@[simp] theorem c53_fn (l : List TMark) : c53.fn [.sl false 2 yTMark (ML encTMark l)] [] = some ((fun (l : List TMark) => l.length ≤ 1073741823) l, (fun (l : List TMark) => (dI (min 3 l.length) : D)) l, (fun (l : List TMark) => []) l) :=
  mkCon_fn (fun x y h _ => c53_inj x y h) (l : (List TMark)) (by simp [nz, nz1, ML_nil, encLTMark]) rfl
@[simp] theorem c53_fn1 (s_l : Nat) (z_l : D) : c53.fn [.sl false s_l z_l []] [] = some ((fun (l : List TMark) => l.length ≤ 1073741823) [], (fun (l : List TMark) => (dI (min 3 l.length) : D)) [], (fun (l : List TMark) => []) []) :=
  mkCon_fn (fun x y h _ => c53_inj x y h) ([] : (List TMark)) (by simp [nz, nz1, ML_nil, encLTMark]) rfl
theorem c53_pc (l : List TMark) (hpre : l.length ≤ 1073741823) : PCo Try.prog 53 [encLTMark l] (Tab.of []) (dI (min 3 l.length)) (Tab.of []) := by
  refine pco_of_run [] (E := ⟨[c131], []⟩) (m := false) (base := 0) (Env.ok_cons c131_ok Env.ok_nil) G_ok mix 300 6 Try.func53 (by kernel_rfl) rfl (by kernel_rfl) (by kernel_rfl) rfl ?_
  simp [Try.f53]
  all_goals first | omega | (rw [Bool.eq_iff_iff]; simp; omega) | grind
theorem c53_ok : c53.ok Try.prog := mkCon_ok fun l hpre => c53_pc l hpre
/-- loop.example/g03007/impl.NeedFor -/
noncomputable def c54 : Con := mkCon 54 false (α := (List TMark)) (fun x => (fun (l : List TMark) => [encLTMark l]) x) (fun _ => []) (fun x => (fun (l : List TMark) => l.length ≤ 1073741823) x) (fun x => (fun (l : List TMark) => (dI (min 3 l.length) : D)) x) (fun x => (fun (l : List TMark) => []) x)
@[simp] theorem c54_f : c54.f = 54 := rfl
@[simp] theorem c54_own : c54.own = false := rfl
theorem c54_inj : ∀ u_ v_ : (List TMark), ((fun x => (fun (l : List TMark) => [encLTMark l]) x) u_).map nz = ((fun x => (fun (l : List TMark) => [encLTMark l]) x) v_).map nz → u_ = v_ := by
  intro u_ v_ h
  obtain l := u_
  obtain l' := v_
  simp [nz_lit, nz1_lit, nz_agg, nz_sl, nz1_sl, encLTMark] at h
  first | (simp [h]; done) | (obtain ⟨⟩ := h; simp_all; done) | simp_all
@[simp] theorem c54_fn (l : List TMark) : c54.fn [.sl false 2 yTMark (ML encTMark l)] [] = some ((fun (l : List TMark) => l.length ≤ 1073741823) l, (fun (l : List TMark) => (dI (min 3 l.length) : D)) l, (fun (l : List TMark) => []) l) :=
  mkCon_fn (fun x y h _ => c54_inj x y h) (l : (List TMark)) (by simp [nz, nz1, ML_nil, encLTMark]) rfl
@[simp] theorem c54_fn1 (s_l : Nat) (z_l : D) : c54.fn [.sl false s_l z_l []] [] = some ((fun (l : List TMark) => l.length ≤ 1073741823) [], (fun (l : List TMark) => (dI (min 3 l.length) : D)) [], (fun (l : List TMark) => []) []) :=
  mkCon_fn (fun x y h _ => c54_inj x y h) ([] : (List TMark)) (by simp [nz, nz1, ML_nil, encLTMark]) rfl
theorem c54_pc (l : List TMark) (hpre : l.length ≤ 1073741823) : PCo Try.prog 54 [encLTMark l] (Tab.of []) (dI (min 3 l.length)) (Tab.of []) := by
  refine pco_of_run [] (E := ⟨[c132], []⟩) (m := false) (base := 0) (Env.ok_cons c132_ok Env.ok_nil) G_ok mix 300 6 Try.func54 (by kernel_rfl) rfl (by kernel_rfl) (by kernel_rfl) rfl ?_
  simp [Try.f54]
  all_goals first | omega | (rw [Bool.eq_iff_iff]; simp; omega) | grind
theorem c54_ok : c54.ok Try.prog := mkCon_ok fun l hpre => c54_pc l hpre
/-- loop.example/g03007/laws.FnExactNeedFor -/
theorem law10 (l : List TMark) (wl : wfLTMark l) : PCo Try.prog 10 [encLTMark l] (Tab.of []) (dB true) (Tab.of []) := by
  refine pco_of_run [] (E := ⟨[c32, c34, c36, c53, c54], []⟩) (m := false) (base := 0) (Env.ok_cons c32_ok (Env.ok_cons c34_ok (Env.ok_cons c36_ok (Env.ok_cons c53_ok (Env.ok_cons c54_ok Env.ok_nil))))) G_ok mix 400 6 Try.func10 (by kernel_rfl) rfl (by kernel_rfl) (by kernel_rfl) rfl ?_
  simp [Try.f10]
  have h1 : l.length ≤ maxLen := wl.1
  refine ⟨h1, fun h => ?_⟩
  split at h <;> omega
theorem law10_pc (D0 : D) (h0 : Sh G 9 22 D0) : PC Try.prog 10 [D0] (dB true) [] := by
  obtain ⟨l, rfl, wl⟩ := sh22 (n := 6) h0
  exact law10 l wl
def mTrialState (l : List TMark) (x : TTrial) : Int := if mIsTrial x = false ∨ mAreMarks l = false ∨ 1 < x.Wrong then 2 else if 0 < l.length ∧ min 3 (l.length : Int) ≤ x.Right then 1 else 0
/-- loop.example/g03007/spec.TrialState -/
noncomputable def c55 : Con := mkCon 55 false (α := (List TMark) × TTrial) (fun x => (fun (l : List TMark) (x : TTrial) => [encLTMark l, encTTrial x]) x.1 x.2) (fun _ => []) (fun x => (fun (l : List TMark) (x : TTrial) => l.length ≤ 1073741823) x.1 x.2) (fun x => (fun (l : List TMark) (x : TTrial) => (dI (mTrialState l x) : D)) x.1 x.2) (fun x => (fun (l : List TMark) (x : TTrial) => []) x.1 x.2)
@[simp] theorem c55_f : c55.f = 55 := rfl
@[simp] theorem c55_own : c55.own = false := rfl
theorem c55_inj : ∀ u_ v_ : (List TMark) × TTrial, ((fun x => (fun (l : List TMark) (x : TTrial) => [encLTMark l, encTTrial x]) x.1 x.2) u_).map nz = ((fun x => (fun (l : List TMark) (x : TTrial) => [encLTMark l, encTTrial x]) x.1 x.2) v_).map nz → u_ = v_ := by
  intro u_ v_ h
  obtain ⟨l, ⟨x_Claim, x_Asked, x_Right, x_Wrong⟩⟩ := u_
  obtain ⟨l', ⟨x_Claim', x_Asked', x_Right', x_Wrong'⟩⟩ := v_
  simp [nz_lit, nz1_lit, nz_agg, nz_sl, nz1_sl, encLTMark, encTTrial] at h
  first | (simp [h]; done) | (obtain ⟨⟩ := h; simp_all; done) | simp_all
@[simp] theorem c55_fn (l : List TMark) (x_Claim : Int) (x_Asked : Int) (x_Right : Int) (x_Wrong : Int) : c55.fn [.sl false 2 yTMark (ML encTMark l), .agg [.lit (.int .i64 x_Claim), .lit (.int .i64 x_Asked), .lit (.int .i64 x_Right), .lit (.int .i64 x_Wrong)]] [] = some ((fun (l : List TMark) (x : TTrial) => l.length ≤ 1073741823) l ⟨x_Claim, x_Asked, x_Right, x_Wrong⟩, (fun (l : List TMark) (x : TTrial) => (dI (mTrialState l x) : D)) l ⟨x_Claim, x_Asked, x_Right, x_Wrong⟩, (fun (l : List TMark) (x : TTrial) => []) l ⟨x_Claim, x_Asked, x_Right, x_Wrong⟩) :=
  mkCon_fn (fun x y h _ => c55_inj x y h) ((l, ⟨x_Claim, x_Asked, x_Right, x_Wrong⟩) : (List TMark) × TTrial) (by simp [nz, nz1, ML_nil, encLTMark, encTTrial]) rfl
@[simp] theorem c55_fn1 (s_l : Nat) (z_l : D) (x_Claim : Int) (x_Asked : Int) (x_Right : Int) (x_Wrong : Int) : c55.fn [.sl false s_l z_l [], .agg [.lit (.int .i64 x_Claim), .lit (.int .i64 x_Asked), .lit (.int .i64 x_Right), .lit (.int .i64 x_Wrong)]] [] = some ((fun (l : List TMark) (x : TTrial) => l.length ≤ 1073741823) [] ⟨x_Claim, x_Asked, x_Right, x_Wrong⟩, (fun (l : List TMark) (x : TTrial) => (dI (mTrialState l x) : D)) [] ⟨x_Claim, x_Asked, x_Right, x_Wrong⟩, (fun (l : List TMark) (x : TTrial) => []) [] ⟨x_Claim, x_Asked, x_Right, x_Wrong⟩) :=
  mkCon_fn (fun x y h _ => c55_inj x y h) (([], ⟨x_Claim, x_Asked, x_Right, x_Wrong⟩) : (List TMark) × TTrial) (by simp [nz, nz1, ML_nil, encLTMark, encTTrial]) rfl
theorem c55_pc (l : List TMark) (x : TTrial) (hpre : l.length ≤ 1073741823) : PCo Try.prog 55 [encLTMark l, encTTrial x] (Tab.of []) (dI (mTrialState l x)) (Tab.of []) := by
  obtain ⟨x_Claim, x_Asked, x_Right, x_Wrong⟩ := x
  refine pco_of_run [3] (E := ⟨[c33, c50, c53], []⟩) (m := false) (base := 0) (Env.ok_cons c33_ok (Env.ok_cons c50_ok (Env.ok_cons c53_ok Env.ok_nil))) G_ok mix 300 6 Try.func55 (by kernel_rfl) rfl (by kernel_rfl) (by kernel_rfl) rfl ?_
  simp [Try.f55]
  refine ⟨fun _ => by omega, fun h => by grind [mTrialState], fun h1 h2 h3 => ⟨fun _ => hpre, fun h4 h5 => by grind [mTrialState], fun h4 => by grind [mTrialState]⟩⟩
theorem c55_ok : c55.ok Try.prog := mkCon_ok fun ⟨l, x⟩ hpre => c55_pc l x hpre
/-- loop.example/g03007/impl.TrialState -/
noncomputable def c56 : Con := mkCon 56 false (α := (List TMark) × TTrial) (fun x => (fun (l : List TMark) (x : TTrial) => [encLTMark l, encTTrial x]) x.1 x.2) (fun _ => []) (fun x => (fun (l : List TMark) (x : TTrial) => l.length ≤ 1073741823) x.1 x.2) (fun x => (fun (l : List TMark) (x : TTrial) => (dI (mTrialState l x) : D)) x.1 x.2) (fun x => (fun (l : List TMark) (x : TTrial) => []) x.1 x.2)
@[simp] theorem c56_f : c56.f = 56 := rfl
@[simp] theorem c56_own : c56.own = false := rfl
theorem c56_inj : ∀ u_ v_ : (List TMark) × TTrial, ((fun x => (fun (l : List TMark) (x : TTrial) => [encLTMark l, encTTrial x]) x.1 x.2) u_).map nz = ((fun x => (fun (l : List TMark) (x : TTrial) => [encLTMark l, encTTrial x]) x.1 x.2) v_).map nz → u_ = v_ := by
  intro u_ v_ h
  obtain ⟨l, ⟨x_Claim, x_Asked, x_Right, x_Wrong⟩⟩ := u_
  obtain ⟨l', ⟨x_Claim', x_Asked', x_Right', x_Wrong'⟩⟩ := v_
  simp [nz_lit, nz1_lit, nz_agg, nz_sl, nz1_sl, encLTMark, encTTrial] at h
  first | (simp [h]; done) | (obtain ⟨⟩ := h; simp_all; done) | simp_all
@[simp] theorem c56_fn (l : List TMark) (x_Claim : Int) (x_Asked : Int) (x_Right : Int) (x_Wrong : Int) : c56.fn [.sl false 2 yTMark (ML encTMark l), .agg [.lit (.int .i64 x_Claim), .lit (.int .i64 x_Asked), .lit (.int .i64 x_Right), .lit (.int .i64 x_Wrong)]] [] = some ((fun (l : List TMark) (x : TTrial) => l.length ≤ 1073741823) l ⟨x_Claim, x_Asked, x_Right, x_Wrong⟩, (fun (l : List TMark) (x : TTrial) => (dI (mTrialState l x) : D)) l ⟨x_Claim, x_Asked, x_Right, x_Wrong⟩, (fun (l : List TMark) (x : TTrial) => []) l ⟨x_Claim, x_Asked, x_Right, x_Wrong⟩) :=
  mkCon_fn (fun x y h _ => c56_inj x y h) ((l, ⟨x_Claim, x_Asked, x_Right, x_Wrong⟩) : (List TMark) × TTrial) (by simp [nz, nz1, ML_nil, encLTMark, encTTrial]) rfl
@[simp] theorem c56_fn1 (s_l : Nat) (z_l : D) (x_Claim : Int) (x_Asked : Int) (x_Right : Int) (x_Wrong : Int) : c56.fn [.sl false s_l z_l [], .agg [.lit (.int .i64 x_Claim), .lit (.int .i64 x_Asked), .lit (.int .i64 x_Right), .lit (.int .i64 x_Wrong)]] [] = some ((fun (l : List TMark) (x : TTrial) => l.length ≤ 1073741823) [] ⟨x_Claim, x_Asked, x_Right, x_Wrong⟩, (fun (l : List TMark) (x : TTrial) => (dI (mTrialState l x) : D)) [] ⟨x_Claim, x_Asked, x_Right, x_Wrong⟩, (fun (l : List TMark) (x : TTrial) => []) [] ⟨x_Claim, x_Asked, x_Right, x_Wrong⟩) :=
  mkCon_fn (fun x y h _ => c56_inj x y h) (([], ⟨x_Claim, x_Asked, x_Right, x_Wrong⟩) : (List TMark) × TTrial) (by simp [nz, nz1, ML_nil, encLTMark, encTTrial]) rfl
theorem c56_pc (l : List TMark) (x : TTrial) (hpre : l.length ≤ 1073741823) : PCo Try.prog 56 [encLTMark l, encTTrial x] (Tab.of []) (dI (mTrialState l x)) (Tab.of []) := by
  obtain ⟨x_Claim, x_Asked, x_Right, x_Wrong⟩ := x
  refine pco_of_run [3] (E := ⟨[c35, c52, c54], []⟩) (m := false) (base := 0) (Env.ok_cons c35_ok (Env.ok_cons c52_ok (Env.ok_cons c54_ok Env.ok_nil))) G_ok mix 300 6 Try.func56 (by kernel_rfl) rfl (by kernel_rfl) (by kernel_rfl) rfl ?_
  simp [Try.f56]
  refine ⟨fun _ => by omega, fun h => by grind [mTrialState], fun h1 h2 h3 => ⟨fun _ => hpre, fun h4 h5 => by grind [mTrialState], fun h4 => by grind [mTrialState]⟩⟩
theorem c56_ok : c56.ok Try.prog := mkCon_ok fun ⟨l, x⟩ hpre => c56_pc l x hpre
/-- loop.example/g03007/laws.FnExactTrialState -/
theorem law11 (l : List TMark) (wl : wfLTMark l) (x : TTrial) (wx : wfTTrial x) : PCo Try.prog 11 [encLTMark l, encTTrial x] (Tab.of []) (dB true) (Tab.of []) := by
  obtain ⟨x_Claim, x_Asked, x_Right, x_Wrong⟩ := x
  refine pco_of_run [5] (E := ⟨[c32, c34, c36, c51, c55, c56], []⟩) (m := false) (base := 0) (Env.ok_cons c32_ok (Env.ok_cons c34_ok (Env.ok_cons c36_ok (Env.ok_cons c51_ok (Env.ok_cons c55_ok (Env.ok_cons c56_ok Env.ok_nil)))))) G_ok mix 400 6 Try.func11 (by kernel_rfl) rfl (by kernel_rfl) (by kernel_rfl) rfl ?_
  simp [Try.f11]
  have h1 : l.length ≤ maxLen := wl.1
  refine ⟨h1, fun h => ?_⟩
  split at h <;> omega
theorem law11_pc (D0 : D) (h0 : Sh G 9 22 D0) (D1 : D) (h1 : Sh G 9 42 D1) : PC Try.prog 11 [D0, D1] (dB true) [] := by
  obtain ⟨l, rfl, wl⟩ := sh22 (n := 6) h0
  obtain ⟨x, rfl, wx⟩ := sh42 (n := 7) h1
  exact law11 l wl x wx
def mNextQ (l : List TMark) (x : TTrial) : Int := if mTrialState l x = 0 then mQuestion l x.Claim x.Asked else 0
/-- loop.example/g03007/spec.NextQuestion -/
noncomputable def c57 : Con := mkCon 57 false (α := (List TMark) × TTrial) (fun x => (fun (l : List TMark) (x : TTrial) => [encLTMark l, encTTrial x]) x.1 x.2) (fun _ => []) (fun x => (fun (l : List TMark) (x : TTrial) => l.length ≤ 1073741823) x.1 x.2) (fun x => (fun (l : List TMark) (x : TTrial) => (dI (mNextQ l x) : D)) x.1 x.2) (fun x => (fun (l : List TMark) (x : TTrial) => []) x.1 x.2)
@[simp] theorem c57_f : c57.f = 57 := rfl
@[simp] theorem c57_own : c57.own = false := rfl
theorem c57_inj : ∀ u_ v_ : (List TMark) × TTrial, ((fun x => (fun (l : List TMark) (x : TTrial) => [encLTMark l, encTTrial x]) x.1 x.2) u_).map nz = ((fun x => (fun (l : List TMark) (x : TTrial) => [encLTMark l, encTTrial x]) x.1 x.2) v_).map nz → u_ = v_ := by
  intro u_ v_ h
  obtain ⟨l, ⟨x_Claim, x_Asked, x_Right, x_Wrong⟩⟩ := u_
  obtain ⟨l', ⟨x_Claim', x_Asked', x_Right', x_Wrong'⟩⟩ := v_
  simp [nz_lit, nz1_lit, nz_agg, nz_sl, nz1_sl, encLTMark, encTTrial] at h
  first | (simp [h]; done) | (obtain ⟨⟩ := h; simp_all; done) | simp_all
@[simp] theorem c57_fn (l : List TMark) (x_Claim : Int) (x_Asked : Int) (x_Right : Int) (x_Wrong : Int) : c57.fn [.sl false 2 yTMark (ML encTMark l), .agg [.lit (.int .i64 x_Claim), .lit (.int .i64 x_Asked), .lit (.int .i64 x_Right), .lit (.int .i64 x_Wrong)]] [] = some ((fun (l : List TMark) (x : TTrial) => l.length ≤ 1073741823) l ⟨x_Claim, x_Asked, x_Right, x_Wrong⟩, (fun (l : List TMark) (x : TTrial) => (dI (mNextQ l x) : D)) l ⟨x_Claim, x_Asked, x_Right, x_Wrong⟩, (fun (l : List TMark) (x : TTrial) => []) l ⟨x_Claim, x_Asked, x_Right, x_Wrong⟩) :=
  mkCon_fn (fun x y h _ => c57_inj x y h) ((l, ⟨x_Claim, x_Asked, x_Right, x_Wrong⟩) : (List TMark) × TTrial) (by simp [nz, nz1, ML_nil, encLTMark, encTTrial]) rfl
@[simp] theorem c57_fn1 (s_l : Nat) (z_l : D) (x_Claim : Int) (x_Asked : Int) (x_Right : Int) (x_Wrong : Int) : c57.fn [.sl false s_l z_l [], .agg [.lit (.int .i64 x_Claim), .lit (.int .i64 x_Asked), .lit (.int .i64 x_Right), .lit (.int .i64 x_Wrong)]] [] = some ((fun (l : List TMark) (x : TTrial) => l.length ≤ 1073741823) [] ⟨x_Claim, x_Asked, x_Right, x_Wrong⟩, (fun (l : List TMark) (x : TTrial) => (dI (mNextQ l x) : D)) [] ⟨x_Claim, x_Asked, x_Right, x_Wrong⟩, (fun (l : List TMark) (x : TTrial) => []) [] ⟨x_Claim, x_Asked, x_Right, x_Wrong⟩) :=
  mkCon_fn (fun x y h _ => c57_inj x y h) (([], ⟨x_Claim, x_Asked, x_Right, x_Wrong⟩) : (List TMark) × TTrial) (by simp [nz, nz1, ML_nil, encLTMark, encTTrial]) rfl
theorem c57_pc (l : List TMark) (x : TTrial) (hpre : l.length ≤ 1073741823) : PCo Try.prog 57 [encLTMark l, encTTrial x] (Tab.of []) (dI (mNextQ l x)) (Tab.of []) := by
  obtain ⟨x_Claim, x_Asked, x_Right, x_Wrong⟩ := x
  refine pco_of_run [] (E := ⟨[c43, c55], []⟩) (m := false) (base := 0) (Env.ok_cons c43_ok (Env.ok_cons c55_ok Env.ok_nil)) G_ok mix 300 6 Try.func57 (by kernel_rfl) rfl (by kernel_rfl) (by kernel_rfl) rfl ?_
  simp [Try.f57]
  exact ⟨hpre, fun h => ⟨hpre, by simp [mNextQ, h]⟩, fun h => by simp [mNextQ, h]⟩
theorem c57_ok : c57.ok Try.prog := mkCon_ok fun ⟨l, x⟩ hpre => c57_pc l x hpre
/-- loop.example/g03007/impl.NextQuestion -/
noncomputable def c58 : Con := mkCon 58 false (α := (List TMark) × TTrial) (fun x => (fun (l : List TMark) (x : TTrial) => [encLTMark l, encTTrial x]) x.1 x.2) (fun _ => []) (fun x => (fun (l : List TMark) (x : TTrial) => l.length ≤ 1073741823) x.1 x.2) (fun x => (fun (l : List TMark) (x : TTrial) => (dI (mNextQ l x) : D)) x.1 x.2) (fun x => (fun (l : List TMark) (x : TTrial) => []) x.1 x.2)
@[simp] theorem c58_f : c58.f = 58 := rfl
@[simp] theorem c58_own : c58.own = false := rfl
theorem c58_inj : ∀ u_ v_ : (List TMark) × TTrial, ((fun x => (fun (l : List TMark) (x : TTrial) => [encLTMark l, encTTrial x]) x.1 x.2) u_).map nz = ((fun x => (fun (l : List TMark) (x : TTrial) => [encLTMark l, encTTrial x]) x.1 x.2) v_).map nz → u_ = v_ := by
  intro u_ v_ h
  obtain ⟨l, ⟨x_Claim, x_Asked, x_Right, x_Wrong⟩⟩ := u_
  obtain ⟨l', ⟨x_Claim', x_Asked', x_Right', x_Wrong'⟩⟩ := v_
  simp [nz_lit, nz1_lit, nz_agg, nz_sl, nz1_sl, encLTMark, encTTrial] at h
  first | (simp [h]; done) | (obtain ⟨⟩ := h; simp_all; done) | simp_all
@[simp] theorem c58_fn (l : List TMark) (x_Claim : Int) (x_Asked : Int) (x_Right : Int) (x_Wrong : Int) : c58.fn [.sl false 2 yTMark (ML encTMark l), .agg [.lit (.int .i64 x_Claim), .lit (.int .i64 x_Asked), .lit (.int .i64 x_Right), .lit (.int .i64 x_Wrong)]] [] = some ((fun (l : List TMark) (x : TTrial) => l.length ≤ 1073741823) l ⟨x_Claim, x_Asked, x_Right, x_Wrong⟩, (fun (l : List TMark) (x : TTrial) => (dI (mNextQ l x) : D)) l ⟨x_Claim, x_Asked, x_Right, x_Wrong⟩, (fun (l : List TMark) (x : TTrial) => []) l ⟨x_Claim, x_Asked, x_Right, x_Wrong⟩) :=
  mkCon_fn (fun x y h _ => c58_inj x y h) ((l, ⟨x_Claim, x_Asked, x_Right, x_Wrong⟩) : (List TMark) × TTrial) (by simp [nz, nz1, ML_nil, encLTMark, encTTrial]) rfl
@[simp] theorem c58_fn1 (s_l : Nat) (z_l : D) (x_Claim : Int) (x_Asked : Int) (x_Right : Int) (x_Wrong : Int) : c58.fn [.sl false s_l z_l [], .agg [.lit (.int .i64 x_Claim), .lit (.int .i64 x_Asked), .lit (.int .i64 x_Right), .lit (.int .i64 x_Wrong)]] [] = some ((fun (l : List TMark) (x : TTrial) => l.length ≤ 1073741823) [] ⟨x_Claim, x_Asked, x_Right, x_Wrong⟩, (fun (l : List TMark) (x : TTrial) => (dI (mNextQ l x) : D)) [] ⟨x_Claim, x_Asked, x_Right, x_Wrong⟩, (fun (l : List TMark) (x : TTrial) => []) [] ⟨x_Claim, x_Asked, x_Right, x_Wrong⟩) :=
  mkCon_fn (fun x y h _ => c58_inj x y h) (([], ⟨x_Claim, x_Asked, x_Right, x_Wrong⟩) : (List TMark) × TTrial) (by simp [nz, nz1, ML_nil, encLTMark, encTTrial]) rfl
theorem c58_pc (l : List TMark) (x : TTrial) (hpre : l.length ≤ 1073741823) : PCo Try.prog 58 [encLTMark l, encTTrial x] (Tab.of []) (dI (mNextQ l x)) (Tab.of []) := by
  obtain ⟨x_Claim, x_Asked, x_Right, x_Wrong⟩ := x
  refine pco_of_run [] (E := ⟨[c44, c56], []⟩) (m := false) (base := 0) (Env.ok_cons c44_ok (Env.ok_cons c56_ok Env.ok_nil)) G_ok mix 300 6 Try.func58 (by kernel_rfl) rfl (by kernel_rfl) (by kernel_rfl) rfl ?_
  simp [Try.f58]
  exact ⟨hpre, fun h => ⟨hpre, by simp [mNextQ, h]⟩, fun h => by simp [mNextQ, h]⟩
theorem c58_ok : c58.ok Try.prog := mkCon_ok fun ⟨l, x⟩ hpre => c58_pc l x hpre
/-- loop.example/g03007/laws.FnExactNextQuestion -/
theorem law12 (l : List TMark) (wl : wfLTMark l) (x : TTrial) (wx : wfTTrial x) : PCo Try.prog 12 [encLTMark l, encTTrial x] (Tab.of []) (dB true) (Tab.of []) := by
  obtain ⟨x_Claim, x_Asked, x_Right, x_Wrong⟩ := x
  refine pco_of_run [5] (E := ⟨[c32, c34, c36, c51, c57, c58], []⟩) (m := false) (base := 0) (Env.ok_cons c32_ok (Env.ok_cons c34_ok (Env.ok_cons c36_ok (Env.ok_cons c51_ok (Env.ok_cons c57_ok (Env.ok_cons c58_ok Env.ok_nil)))))) G_ok mix 400 6 Try.func12 (by kernel_rfl) rfl (by kernel_rfl) (by kernel_rfl) rfl ?_
  simp [Try.f12]
  have h1 : l.length ≤ maxLen := wl.1
  refine ⟨h1, fun h => ?_⟩
  split at h <;> omega
theorem law12_pc (D0 : D) (h0 : Sh G 9 22 D0) (D1 : D) (h1 : Sh G 9 42 D1) : PC Try.prog 12 [D0, D1] (dB true) [] := by
  obtain ⟨l, rfl, wl⟩ := sh22 (n := 6) h0
  obtain ⟨x, rfl, wx⟩ := sh42 (n := 7) h1
  exact law12 l wl x wx

end Go.Proofs.Ytnnieeojfdjcoaa
