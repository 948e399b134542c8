/- Contracts of the functions that the laws run. -/
import Derived.Test.Ytpnfkjbnhholfaach11
import Derived.Test.YtpnfkjbnhholfaaEngB
namespace Go.Proofs.Ytpnfkjbnhholfaa
open Go Go.Eng
set_option linter.unusedSimpArgs false
set_option linter.unusedVariables false
set_option maxRecDepth 10000
set_option maxHeartbeats 1000000
def mIsTrial (x : TTrial) : Bool := mIn x.Claim 1 999 && mIn x.Right 0 100 && mIn x.Wrong 0 100 && decide (x.Asked = x.Right + x.Wrong)
/-- loop.example/g03007/spec.IsTrial -/
noncomputable def c193 : Con := mkCon 193 false (α := TTrial) (fun x => (fun (x : TTrial) => [encTTrial x]) x) (fun _ => []) (fun x => (fun (x : TTrial) => True) x) (fun x => (fun (x : TTrial) => (dB (mIsTrial x) : D)) x) (fun x => (fun (x : TTrial) => []) x)
@[simp] theorem c193_f : c193.f = 193 := rfl
@[simp] theorem c193_own : c193.own = false := rfl
theorem c193_inj : ∀ u_ v_ : TTrial, ((fun x => (fun (x : TTrial) => [encTTrial x]) x) u_).map nz = ((fun x => (fun (x : TTrial) => [encTTrial x]) x) v_).map nz → u_ = v_ := by
  intro u_ v_ h
  obtain ⟨x_Claim, x_Asked, x_Right, x_Wrong⟩ := u_
  obtain ⟨x_Claim', x_Asked', x_Right', x_Wrong'⟩ := v_
  simp [nz_lit, nz1_lit, nz_agg, nz_sl, nz1_sl, encTTrial] at h
  first | (simp [h]; done) | (obtain ⟨⟩ := h; simp_all; done) | simp_all
@[simp] theorem c193_fn (x_Claim : Int) (x_Asked : Int) (x_Right : Int) (x_Wrong : Int) : c193.fn [.agg [.lit (.int .i64 x_Claim), .lit (.int .i64 x_Asked), .lit (.int .i64 x_Right), .lit (.int .i64 x_Wrong)]] [] = some ((fun (x : TTrial) => True) ⟨x_Claim, x_Asked, x_Right, x_Wrong⟩, (fun (x : TTrial) => (dB (mIsTrial x) : D)) ⟨x_Claim, x_Asked, x_Right, x_Wrong⟩, (fun (x : TTrial) => []) ⟨x_Claim, x_Asked, x_Right, x_Wrong⟩) :=
  mkCon_fn (fun x y h _ => c193_inj x y h) (⟨x_Claim, x_Asked, x_Right, x_Wrong⟩ : TTrial) (by simp [nz, nz1, ML_nil, encTTrial]) rfl
theorem c193_pc (x : TTrial) : PCo Try.prog 193 [encTTrial x] (Tab.of []) (dB (mIsTrial x)) (Tab.of []) := by
  obtain ⟨x_Claim, x_Asked, x_Right, x_Wrong⟩ := x
  refine pco_of_run [] (E := ⟨[c108], [], []⟩) (m := false) (base := 0) (Env.ok_cons c108_ok Env.ok_nil) G_ok mix 300 6 Try.func193 (by kernel_rfl) rfl (by kernel_rfl) (by kernel_rfl) rfl ?_
  simp [Try.f193]
  simp [mIsTrial]
  refine ⟨fun _ h1 h2 => ?_, by first | rfl | omega | (rw [Bool.eq_iff_iff]; simp; done) | (rw [Bool.eq_iff_iff]; simp; omega) | (rw [Bool.eq_iff_iff]; simp; grind) | grind⟩
  have := mIn_iff.1 h1; have := mIn_iff.1 h2; omega
theorem c193_ok : c193.ok Try.prog := mkCon_ok fun x hpre => c193_pc x
/-- loop.example/g03007/impl.IsTrial -/
noncomputable def c24 : Con := mkCon 24 false (α := TTrial) (fun x => (fun (x : TTrial) => [encTTrial x]) x) (fun _ => []) (fun x => (fun (x : TTrial) => True) x) (fun x => (fun (x : TTrial) => (dB (mIsTrial x) : D)) x) (fun x => (fun (x : TTrial) => []) x)
@[simp] theorem c24_f : c24.f = 24 := rfl
@[simp] theorem c24_own : c24.own = false := rfl
theorem c24_inj : ∀ u_ v_ : TTrial, ((fun x => (fun (x : TTrial) => [encTTrial x]) x) u_).map nz = ((fun x => (fun (x : TTrial) => [encTTrial x]) x) v_).map nz → u_ = v_ := by
  intro u_ v_ h
  obtain ⟨x_Claim, x_Asked, x_Right, x_Wrong⟩ := u_
  obtain ⟨x_Claim', x_Asked', x_Right', x_Wrong'⟩ := v_
  simp [nz_lit, nz1_lit, nz_agg, nz_sl, nz1_sl, encTTrial] at h
  first | (simp [h]; done) | (obtain ⟨⟩ := h; simp_all; done) | simp_all
@[simp] theorem c24_fn (x_Claim : Int) (x_Asked : Int) (x_Right : Int) (x_Wrong : Int) : c24.fn [.agg [.lit (.int .i64 x_Claim), .lit (.int .i64 x_Asked), .lit (.int .i64 x_Right), .lit (.int .i64 x_Wrong)]] [] = some ((fun (x : TTrial) => True) ⟨x_Claim, x_Asked, x_Right, x_Wrong⟩, (fun (x : TTrial) => (dB (mIsTrial x) : D)) ⟨x_Claim, x_Asked, x_Right, x_Wrong⟩, (fun (x : TTrial) => []) ⟨x_Claim, x_Asked, x_Right, x_Wrong⟩) :=
  mkCon_fn (fun x y h _ => c24_inj x y h) (⟨x_Claim, x_Asked, x_Right, x_Wrong⟩ : TTrial) (by simp [nz, nz1, ML_nil, encTTrial]) rfl
theorem c24_pc (x : TTrial) : PCo Try.prog 24 [encTTrial x] (Tab.of []) (dB (mIsTrial x)) (Tab.of []) := by
  obtain ⟨x_Claim, x_Asked, x_Right, x_Wrong⟩ := x
  refine pco_of_run [] (E := ⟨[c84], [], []⟩) (m := false) (base := 0) (Env.ok_cons c84_ok Env.ok_nil) G_ok mix 300 6 Try.func24 (by kernel_rfl) rfl (by kernel_rfl) (by kernel_rfl) rfl ?_
  simp [Try.f24]
  simp [mIsTrial]
  refine ⟨fun _ h1 h2 => ?_, by first | rfl | omega | (rw [Bool.eq_iff_iff]; simp; done) | (rw [Bool.eq_iff_iff]; simp; omega) | (rw [Bool.eq_iff_iff]; simp; grind) | grind⟩
  have := mIn_iff.1 h1; have := mIn_iff.1 h2; omega
theorem c24_ok : c24.ok Try.prog := mkCon_ok fun x hpre => c24_pc x
/-- loop.example/g03007/spec.NeedFor -/
noncomputable def c195 : Con := mkCon 195 false (α := (List TMark)) (fun x => (fun (l : List TMark) => [encLTMark l]) x) (fun _ => []) (fun x => (fun (l : List TMark) => l.length ≤ 1073741823) x) (fun x => (fun (l : List TMark) => (dI (min 3 l.length) : D)) x) (fun x => (fun (l : List TMark) => []) x)
@[simp] theorem c195_f : c195.f = 195 := rfl
@[simp] theorem c195_own : c195.own = false := rfl
theorem c195_inj : ∀ u_ v_ : (List TMark), ((fun x => (fun (l : List TMark) => [encLTMark l]) x) u_).map nz = ((fun x => (fun (l : List TMark) => [encLTMark l]) x) v_).map nz → u_ = v_ := by
  intro u_ v_ h
  obtain l := u_
  obtain l' := v_
  simp [nz_lit, nz1_lit, nz_agg, nz_sl, nz1_sl, encLTMark] at h
  first | (simp [h]; done) | (obtain ⟨⟩ := h; simp_all; done) | simp_all
@[simp] theorem c195_fn (l : List TMark) : c195.fn [.sl false 2 yTMark (ML encTMark l)] [] = some ((fun (l : List TMark) => l.length ≤ 1073741823) l, (fun (l : List TMark) => (dI (min 3 l.length) : D)) l, (fun (l : List TMark) => []) l) :=
  mkCon_fn (fun x y h _ => c195_inj x y h) (l : (List TMark)) (by simp [nz, nz1, ML_nil, encLTMark]) rfl
@[simp] theorem c195_fn1 (s_l : Nat) (z_l : D) : c195.fn [.sl false s_l z_l []] [] = some ((fun (l : List TMark) => l.length ≤ 1073741823) [], (fun (l : List TMark) => (dI (min 3 l.length) : D)) [], (fun (l : List TMark) => []) []) :=
  mkCon_fn (fun x y h _ => c195_inj x y h) ([] : (List TMark)) (by simp [nz, nz1, ML_nil, encLTMark]) rfl
theorem c195_pc (l : List TMark) (hpre : l.length ≤ 1073741823) : PCo Try.prog 195 [encLTMark l] (Tab.of []) (dI (min 3 l.length)) (Tab.of []) := by
  refine pco_of_run [] (E := ⟨[c222], [], []⟩) (m := false) (base := 0) (Env.ok_cons c222_ok Env.ok_nil) G_ok mix 300 6 Try.func195 (by kernel_rfl) rfl (by kernel_rfl) (by kernel_rfl) rfl ?_
  simp [Try.f195]
  all_goals first | omega | (rw [Bool.eq_iff_iff]; simp; omega) | grind
theorem c195_ok : c195.ok Try.prog := mkCon_ok fun l hpre => c195_pc l hpre
/-- loop.example/g03007/impl.NeedFor -/
noncomputable def c27 : Con := mkCon 27 false (α := (List TMark)) (fun x => (fun (l : List TMark) => [encLTMark l]) x) (fun _ => []) (fun x => (fun (l : List TMark) => l.length ≤ 1073741823) x) (fun x => (fun (l : List TMark) => (dI (min 3 l.length) : D)) x) (fun x => (fun (l : List TMark) => []) x)
@[simp] theorem c27_f : c27.f = 27 := rfl
@[simp] theorem c27_own : c27.own = false := rfl
theorem c27_inj : ∀ u_ v_ : (List TMark), ((fun x => (fun (l : List TMark) => [encLTMark l]) x) u_).map nz = ((fun x => (fun (l : List TMark) => [encLTMark l]) x) v_).map nz → u_ = v_ := by
  intro u_ v_ h
  obtain l := u_
  obtain l' := v_
  simp [nz_lit, nz1_lit, nz_agg, nz_sl, nz1_sl, encLTMark] at h
  first | (simp [h]; done) | (obtain ⟨⟩ := h; simp_all; done) | simp_all
@[simp] theorem c27_fn (l : List TMark) : c27.fn [.sl false 2 yTMark (ML encTMark l)] [] = some ((fun (l : List TMark) => l.length ≤ 1073741823) l, (fun (l : List TMark) => (dI (min 3 l.length) : D)) l, (fun (l : List TMark) => []) l) :=
  mkCon_fn (fun x y h _ => c27_inj x y h) (l : (List TMark)) (by simp [nz, nz1, ML_nil, encLTMark]) rfl
@[simp] theorem c27_fn1 (s_l : Nat) (z_l : D) : c27.fn [.sl false s_l z_l []] [] = some ((fun (l : List TMark) => l.length ≤ 1073741823) [], (fun (l : List TMark) => (dI (min 3 l.length) : D)) [], (fun (l : List TMark) => []) []) :=
  mkCon_fn (fun x y h _ => c27_inj x y h) ([] : (List TMark)) (by simp [nz, nz1, ML_nil, encLTMark]) rfl
theorem c27_pc (l : List TMark) (hpre : l.length ≤ 1073741823) : PCo Try.prog 27 [encLTMark l] (Tab.of []) (dI (min 3 l.length)) (Tab.of []) := by
  refine pco_of_run [] (E := ⟨[c93], [], []⟩) (m := false) (base := 0) (Env.ok_cons c93_ok Env.ok_nil) G_ok mix 300 6 Try.func27 (by kernel_rfl) rfl (by kernel_rfl) (by kernel_rfl) rfl ?_
  simp [Try.f27]
  all_goals first | omega | (rw [Bool.eq_iff_iff]; simp; omega) | grind
theorem c27_ok : c27.ok Try.prog := mkCon_ok fun l hpre => c27_pc l hpre
def mTrialState (l : List TMark) (x : TTrial) : Int := if mIsTrial x = false ∨ mAreMarks l = false ∨ 1 < x.Wrong then 2 else if 0 < l.length ∧ min 3 (l.length : Int) ≤ x.Right then 1 else 0
/-- loop.example/g03007/spec.TrialState -/
noncomputable def c151 : Con := mkCon 151 false (α := (List TMark) × TTrial) (fun x => (fun (l : List TMark) (x : TTrial) => [encLTMark l, encTTrial x]) x.1 x.2) (fun _ => []) (fun x => (fun (l : List TMark) (x : TTrial) => l.length ≤ 1073741823) x.1 x.2) (fun x => (fun (l : List TMark) (x : TTrial) => (dI (mTrialState l x) : D)) x.1 x.2) (fun x => (fun (l : List TMark) (x : TTrial) => []) x.1 x.2)
@[simp] theorem c151_f : c151.f = 151 := rfl
@[simp] theorem c151_own : c151.own = false := rfl
theorem c151_inj : ∀ u_ v_ : (List TMark) × TTrial, ((fun x => (fun (l : List TMark) (x : TTrial) => [encLTMark l, encTTrial x]) x.1 x.2) u_).map nz = ((fun x => (fun (l : List TMark) (x : TTrial) => [encLTMark l, encTTrial x]) x.1 x.2) v_).map nz → u_ = v_ := by
  intro u_ v_ h
  obtain ⟨l, ⟨x_Claim, x_Asked, x_Right, x_Wrong⟩⟩ := u_
  obtain ⟨l', ⟨x_Claim', x_Asked', x_Right', x_Wrong'⟩⟩ := v_
  simp [nz_lit, nz1_lit, nz_agg, nz_sl, nz1_sl, encLTMark, encTTrial] at h
  first | (simp [h]; done) | (obtain ⟨⟩ := h; simp_all; done) | simp_all
@[simp] theorem c151_fn (l : List TMark) (x_Claim : Int) (x_Asked : Int) (x_Right : Int) (x_Wrong : Int) : c151.fn [.sl false 2 yTMark (ML encTMark l), .agg [.lit (.int .i64 x_Claim), .lit (.int .i64 x_Asked), .lit (.int .i64 x_Right), .lit (.int .i64 x_Wrong)]] [] = some ((fun (l : List TMark) (x : TTrial) => l.length ≤ 1073741823) l ⟨x_Claim, x_Asked, x_Right, x_Wrong⟩, (fun (l : List TMark) (x : TTrial) => (dI (mTrialState l x) : D)) l ⟨x_Claim, x_Asked, x_Right, x_Wrong⟩, (fun (l : List TMark) (x : TTrial) => []) l ⟨x_Claim, x_Asked, x_Right, x_Wrong⟩) :=
  mkCon_fn (fun x y h _ => c151_inj x y h) ((l, ⟨x_Claim, x_Asked, x_Right, x_Wrong⟩) : (List TMark) × TTrial) (by simp [nz, nz1, ML_nil, encLTMark, encTTrial]) rfl
@[simp] theorem c151_fn1 (s_l : Nat) (z_l : D) (x_Claim : Int) (x_Asked : Int) (x_Right : Int) (x_Wrong : Int) : c151.fn [.sl false s_l z_l [], .agg [.lit (.int .i64 x_Claim), .lit (.int .i64 x_Asked), .lit (.int .i64 x_Right), .lit (.int .i64 x_Wrong)]] [] = some ((fun (l : List TMark) (x : TTrial) => l.length ≤ 1073741823) [] ⟨x_Claim, x_Asked, x_Right, x_Wrong⟩, (fun (l : List TMark) (x : TTrial) => (dI (mTrialState l x) : D)) [] ⟨x_Claim, x_Asked, x_Right, x_Wrong⟩, (fun (l : List TMark) (x : TTrial) => []) [] ⟨x_Claim, x_Asked, x_Right, x_Wrong⟩) :=
  mkCon_fn (fun x y h _ => c151_inj x y h) (([], ⟨x_Claim, x_Asked, x_Right, x_Wrong⟩) : (List TMark) × TTrial) (by simp [nz, nz1, ML_nil, encLTMark, encTTrial]) rfl
theorem c151_pc (l : List TMark) (x : TTrial) (hpre : l.length ≤ 1073741823) : PCo Try.prog 151 [encLTMark l, encTTrial x] (Tab.of []) (dI (mTrialState l x)) (Tab.of []) := by
  obtain ⟨x_Claim, x_Asked, x_Right, x_Wrong⟩ := x
  refine pco_of_run [3] (E := ⟨[c193, c194, c195], [], []⟩) (m := false) (base := 0) (Env.ok_cons c193_ok (Env.ok_cons c194_ok (Env.ok_cons c195_ok Env.ok_nil))) G_ok mix 300 6 Try.func151 (by kernel_rfl) rfl (by kernel_rfl) (by kernel_rfl) rfl ?_
  simp [Try.f151]
  refine ⟨fun _ => by omega, fun h => by grind [mTrialState], fun h1 h2 h3 => ⟨fun _ => hpre, fun h4 h5 => by grind [mTrialState], fun h4 => by grind [mTrialState]⟩⟩
theorem c151_ok : c151.ok Try.prog := mkCon_ok fun ⟨l, x⟩ hpre => c151_pc l x hpre
/-- loop.example/g03007/impl.TrialState -/
noncomputable def c25 : Con := mkCon 25 false (α := (List TMark) × TTrial) (fun x => (fun (l : List TMark) (x : TTrial) => [encLTMark l, encTTrial x]) x.1 x.2) (fun _ => []) (fun x => (fun (l : List TMark) (x : TTrial) => l.length ≤ 1073741823) x.1 x.2) (fun x => (fun (l : List TMark) (x : TTrial) => (dI (mTrialState l x) : D)) x.1 x.2) (fun x => (fun (l : List TMark) (x : TTrial) => []) x.1 x.2)
@[simp] theorem c25_f : c25.f = 25 := rfl
@[simp] theorem c25_own : c25.own = false := rfl
theorem c25_inj : ∀ u_ v_ : (List TMark) × TTrial, ((fun x => (fun (l : List TMark) (x : TTrial) => [encLTMark l, encTTrial x]) x.1 x.2) u_).map nz = ((fun x => (fun (l : List TMark) (x : TTrial) => [encLTMark l, encTTrial x]) x.1 x.2) v_).map nz → u_ = v_ := by
  intro u_ v_ h
  obtain ⟨l, ⟨x_Claim, x_Asked, x_Right, x_Wrong⟩⟩ := u_
  obtain ⟨l', ⟨x_Claim', x_Asked', x_Right', x_Wrong'⟩⟩ := v_
  simp [nz_lit, nz1_lit, nz_agg, nz_sl, nz1_sl, encLTMark, encTTrial] at h
  first | (simp [h]; done) | (obtain ⟨⟩ := h; simp_all; done) | simp_all
@[simp] theorem c25_fn (l : List TMark) (x_Claim : Int) (x_Asked : Int) (x_Right : Int) (x_Wrong : Int) : c25.fn [.sl false 2 yTMark (ML encTMark l), .agg [.lit (.int .i64 x_Claim), .lit (.int .i64 x_Asked), .lit (.int .i64 x_Right), .lit (.int .i64 x_Wrong)]] [] = some ((fun (l : List TMark) (x : TTrial) => l.length ≤ 1073741823) l ⟨x_Claim, x_Asked, x_Right, x_Wrong⟩, (fun (l : List TMark) (x : TTrial) => (dI (mTrialState l x) : D)) l ⟨x_Claim, x_Asked, x_Right, x_Wrong⟩, (fun (l : List TMark) (x : TTrial) => []) l ⟨x_Claim, x_Asked, x_Right, x_Wrong⟩) :=
  mkCon_fn (fun x y h _ => c25_inj x y h) ((l, ⟨x_Claim, x_Asked, x_Right, x_Wrong⟩) : (List TMark) × TTrial) (by simp [nz, nz1, ML_nil, encLTMark, encTTrial]) rfl
@[simp] theorem c25_fn1 (s_l : Nat) (z_l : D) (x_Claim : Int) (x_Asked : Int) (x_Right : Int) (x_Wrong : Int) : c25.fn [.sl false s_l z_l [], .agg [.lit (.int .i64 x_Claim), .lit (.int .i64 x_Asked), .lit (.int .i64 x_Right), .lit (.int .i64 x_Wrong)]] [] = some ((fun (l : List TMark) (x : TTrial) => l.length ≤ 1073741823) [] ⟨x_Claim, x_Asked, x_Right, x_Wrong⟩, (fun (l : List TMark) (x : TTrial) => (dI (mTrialState l x) : D)) [] ⟨x_Claim, x_Asked, x_Right, x_Wrong⟩, (fun (l : List TMark) (x : TTrial) => []) [] ⟨x_Claim, x_Asked, x_Right, x_Wrong⟩) :=
  mkCon_fn (fun x y h _ => c25_inj x y h) (([], ⟨x_Claim, x_Asked, x_Right, x_Wrong⟩) : (List TMark) × TTrial) (by simp [nz, nz1, ML_nil, encLTMark, encTTrial]) rfl
theorem c25_pc (l : List TMark) (x : TTrial) (hpre : l.length ≤ 1073741823) : PCo Try.prog 25 [encLTMark l, encTTrial x] (Tab.of []) (dI (mTrialState l x)) (Tab.of []) := by
  obtain ⟨x_Claim, x_Asked, x_Right, x_Wrong⟩ := x
  refine pco_of_run [3] (E := ⟨[c24, c26, c27], [], []⟩) (m := false) (base := 0) (Env.ok_cons c24_ok (Env.ok_cons c26_ok (Env.ok_cons c27_ok Env.ok_nil))) G_ok mix 300 6 Try.func25 (by kernel_rfl) rfl (by kernel_rfl) (by kernel_rfl) rfl ?_
  simp [Try.f25]
  refine ⟨fun _ => by omega, fun h => by grind [mTrialState], fun h1 h2 h3 => ⟨fun _ => hpre, fun h4 h5 => by grind [mTrialState], fun h4 => by grind [mTrialState]⟩⟩
theorem c25_ok : c25.ok Try.prog := mkCon_ok fun ⟨l, x⟩ hpre => c25_pc l x hpre
def mNextQ (l : List TMark) (x : TTrial) : Int := if mTrialState l x = 0 then mQuestion l x.Claim x.Asked else 0
/-- loop.example/g03007/spec.NextQuestion -/
noncomputable def c87 : Con := mkCon 87 false (α := (List TMark) × TTrial) (fun x => (fun (l : List TMark) (x : TTrial) => [encLTMark l, encTTrial x]) x.1 x.2) (fun _ => []) (fun x => (fun (l : List TMark) (x : TTrial) => l.length ≤ 1073741823) x.1 x.2) (fun x => (fun (l : List TMark) (x : TTrial) => (dI (mNextQ l x) : D)) x.1 x.2) (fun x => (fun (l : List TMark) (x : TTrial) => []) x.1 x.2)
@[simp] theorem c87_f : c87.f = 87 := rfl
@[simp] theorem c87_own : c87.own = false := rfl
theorem c87_inj : ∀ u_ v_ : (List TMark) × TTrial, ((fun x => (fun (l : List TMark) (x : TTrial) => [encLTMark l, encTTrial x]) x.1 x.2) u_).map nz = ((fun x => (fun (l : List TMark) (x : TTrial) => [encLTMark l, encTTrial x]) x.1 x.2) v_).map nz → u_ = v_ := by
  intro u_ v_ h
  obtain ⟨l, ⟨x_Claim, x_Asked, x_Right, x_Wrong⟩⟩ := u_
  obtain ⟨l', ⟨x_Claim', x_Asked', x_Right', x_Wrong'⟩⟩ := v_
  simp [nz_lit, nz1_lit, nz_agg, nz_sl, nz1_sl, encLTMark, encTTrial] at h
  first | (simp [h]; done) | (obtain ⟨⟩ := h; simp_all; done) | simp_all
@[simp] theorem c87_fn (l : List TMark) (x_Claim : Int) (x_Asked : Int) (x_Right : Int) (x_Wrong : Int) : c87.fn [.sl false 2 yTMark (ML encTMark l), .agg [.lit (.int .i64 x_Claim), .lit (.int .i64 x_Asked), .lit (.int .i64 x_Right), .lit (.int .i64 x_Wrong)]] [] = some ((fun (l : List TMark) (x : TTrial) => l.length ≤ 1073741823) l ⟨x_Claim, x_Asked, x_Right, x_Wrong⟩, (fun (l : List TMark) (x : TTrial) => (dI (mNextQ l x) : D)) l ⟨x_Claim, x_Asked, x_Right, x_Wrong⟩, (fun (l : List TMark) (x : TTrial) => []) l ⟨x_Claim, x_Asked, x_Right, x_Wrong⟩) :=
  mkCon_fn (fun x y h _ => c87_inj x y h) ((l, ⟨x_Claim, x_Asked, x_Right, x_Wrong⟩) : (List TMark) × TTrial) (by simp [nz, nz1, ML_nil, encLTMark, encTTrial]) rfl
@[simp] theorem c87_fn1 (s_l : Nat) (z_l : D) (x_Claim : Int) (x_Asked : Int) (x_Right : Int) (x_Wrong : Int) : c87.fn [.sl false s_l z_l [], .agg [.lit (.int .i64 x_Claim), .lit (.int .i64 x_Asked), .lit (.int .i64 x_Right), .lit (.int .i64 x_Wrong)]] [] = some ((fun (l : List TMark) (x : TTrial) => l.length ≤ 1073741823) [] ⟨x_Claim, x_Asked, x_Right, x_Wrong⟩, (fun (l : List TMark) (x : TTrial) => (dI (mNextQ l x) : D)) [] ⟨x_Claim, x_Asked, x_Right, x_Wrong⟩, (fun (l : List TMark) (x : TTrial) => []) [] ⟨x_Claim, x_Asked, x_Right, x_Wrong⟩) :=
  mkCon_fn (fun x y h _ => c87_inj x y h) (([], ⟨x_Claim, x_Asked, x_Right, x_Wrong⟩) : (List TMark) × TTrial) (by simp [nz, nz1, ML_nil, encLTMark, encTTrial]) rfl
theorem c87_pc (l : List TMark) (x : TTrial) (hpre : l.length ≤ 1073741823) : PCo Try.prog 87 [encLTMark l, encTTrial x] (Tab.of []) (dI (mNextQ l x)) (Tab.of []) := by
  obtain ⟨x_Claim, x_Asked, x_Right, x_Wrong⟩ := x
  refine pco_of_run [] (E := ⟨[c151, c152], [], []⟩) (m := false) (base := 0) (Env.ok_cons c151_ok (Env.ok_cons c152_ok Env.ok_nil)) G_ok mix 300 6 Try.func87 (by kernel_rfl) rfl (by kernel_rfl) (by kernel_rfl) rfl ?_
  simp [Try.f87]
  exact ⟨hpre, fun h => ⟨hpre, by simp [mNextQ, h]⟩, fun h => by simp [mNextQ, h]⟩
theorem c87_ok : c87.ok Try.prog := mkCon_ok fun ⟨l, x⟩ hpre => c87_pc l x hpre
/-- loop.example/g03007/impl.NextQuestion -/
noncomputable def c23 : Con := mkCon 23 false (α := (List TMark) × TTrial) (fun x => (fun (l : List TMark) (x : TTrial) => [encLTMark l, encTTrial x]) x.1 x.2) (fun _ => []) (fun x => (fun (l : List TMark) (x : TTrial) => l.length ≤ 1073741823) x.1 x.2) (fun x => (fun (l : List TMark) (x : TTrial) => (dI (mNextQ l x) : D)) x.1 x.2) (fun x => (fun (l : List TMark) (x : TTrial) => []) x.1 x.2)
@[simp] theorem c23_f : c23.f = 23 := rfl
@[simp] theorem c23_own : c23.own = false := rfl
theorem c23_inj : ∀ u_ v_ : (List TMark) × TTrial, ((fun x => (fun (l : List TMark) (x : TTrial) => [encLTMark l, encTTrial x]) x.1 x.2) u_).map nz = ((fun x => (fun (l : List TMark) (x : TTrial) => [encLTMark l, encTTrial x]) x.1 x.2) v_).map nz → u_ = v_ := by
  intro u_ v_ h
  obtain ⟨l, ⟨x_Claim, x_Asked, x_Right, x_Wrong⟩⟩ := u_
  obtain ⟨l', ⟨x_Claim', x_Asked', x_Right', x_Wrong'⟩⟩ := v_
  simp [nz_lit, nz1_lit, nz_agg, nz_sl, nz1_sl, encLTMark, encTTrial] at h
  first | (simp [h]; done) | (obtain ⟨⟩ := h; simp_all; done) | simp_all
@[simp] theorem c23_fn (l : List TMark) (x_Claim : Int) (x_Asked : Int) (x_Right : Int) (x_Wrong : Int) : c23.fn [.sl false 2 yTMark (ML encTMark l), .agg [.lit (.int .i64 x_Claim), .lit (.int .i64 x_Asked), .lit (.int .i64 x_Right), .lit (.int .i64 x_Wrong)]] [] = some ((fun (l : List TMark) (x : TTrial) => l.length ≤ 1073741823) l ⟨x_Claim, x_Asked, x_Right, x_Wrong⟩, (fun (l : List TMark) (x : TTrial) => (dI (mNextQ l x) : D)) l ⟨x_Claim, x_Asked, x_Right, x_Wrong⟩, (fun (l : List TMark) (x : TTrial) => []) l ⟨x_Claim, x_Asked, x_Right, x_Wrong⟩) :=
  mkCon_fn (fun x y h _ => c23_inj x y h) ((l, ⟨x_Claim, x_Asked, x_Right, x_Wrong⟩) : (List TMark) × TTrial) (by simp [nz, nz1, ML_nil, encLTMark, encTTrial]) rfl
@[simp] theorem c23_fn1 (s_l : Nat) (z_l : D) (x_Claim : Int) (x_Asked : Int) (x_Right : Int) (x_Wrong : Int) : c23.fn [.sl false s_l z_l [], .agg [.lit (.int .i64 x_Claim), .lit (.int .i64 x_Asked), .lit (.int .i64 x_Right), .lit (.int .i64 x_Wrong)]] [] = some ((fun (l : List TMark) (x : TTrial) => l.length ≤ 1073741823) [] ⟨x_Claim, x_Asked, x_Right, x_Wrong⟩, (fun (l : List TMark) (x : TTrial) => (dI (mNextQ l x) : D)) [] ⟨x_Claim, x_Asked, x_Right, x_Wrong⟩, (fun (l : List TMark) (x : TTrial) => []) [] ⟨x_Claim, x_Asked, x_Right, x_Wrong⟩) :=
  mkCon_fn (fun x y h _ => c23_inj x y h) (([], ⟨x_Claim, x_Asked, x_Right, x_Wrong⟩) : (List TMark) × TTrial) (by simp [nz, nz1, ML_nil, encLTMark, encTTrial]) rfl
theorem c23_pc (l : List TMark) (x : TTrial) (hpre : l.length ≤ 1073741823) : PCo Try.prog 23 [encLTMark l, encTTrial x] (Tab.of []) (dI (mNextQ l x)) (Tab.of []) := by
  obtain ⟨x_Claim, x_Asked, x_Right, x_Wrong⟩ := x
  refine pco_of_run [] (E := ⟨[c25, c89], [], []⟩) (m := false) (base := 0) (Env.ok_cons c25_ok (Env.ok_cons c89_ok Env.ok_nil)) G_ok mix 300 6 Try.func23 (by kernel_rfl) rfl (by kernel_rfl) (by kernel_rfl) rfl ?_
  simp [Try.f23]
  exact ⟨hpre, fun h => ⟨hpre, by simp [mNextQ, h]⟩, fun h => by simp [mNextQ, h]⟩
theorem c23_ok : c23.ok Try.prog := mkCon_ok fun ⟨l, x⟩ hpre => c23_pc l x hpre
end Go.Proofs.Ytpnfkjbnhholfaa
