/- Contracts of the functions that the laws run. -/
import Derived.Test.Ytnncheloiiannaach31b
import Derived.Test.Ytnncheloiiannaach06
import Derived.Test.YtnncheloiiannaahelpA
import Derived.Test.Ytnncheloiiannaagen
import Derived.Test.YtnncheloiiannaaEngB
namespace Go.Proofs.Ytnncheloiiannaa
open Go Go.Eng
set_option linter.unusedSimpArgs false
set_option linter.unusedVariables false
set_option maxRecDepth 10000
set_option maxHeartbeats 1000000
/-- loop.example/g03007/laws.toSlot -/
noncomputable def c39 : Con := mkCon 39 false (α := TSlot) (fun x => (fun (a : TSlot) => [encTSlot a]) x) (fun _ => []) (fun x => (fun (a : TSlot) => True) x) (fun x => (fun (a : TSlot) => (encTSlot a : D)) x) (fun x => (fun (a : TSlot) => []) x)
@[simp] theorem c39_f : c39.f = 39 := rfl
@[simp] theorem c39_own : c39.own = false := rfl
theorem c39_inj : ∀ u_ v_ : TSlot, ((fun x => (fun (a : TSlot) => [encTSlot a]) x) u_).map nz = ((fun x => (fun (a : TSlot) => [encTSlot a]) x) v_).map nz → u_ = v_ := by
  intro u_ v_ h
  obtain ⟨a_Id, a_Size, a_Thing⟩ := u_
  obtain ⟨a_Id', a_Size', a_Thing'⟩ := v_
  simp [nz_lit, nz1_lit, nz_agg, nz_sl, nz1_sl, encTSlot] at h
  first | (simp [h]; done) | (obtain ⟨⟩ := h; simp_all; done) | simp_all
@[simp] theorem c39_fn (a_Id : Int) (a_Size : Int) (a_Thing : Int) : c39.fn [.agg [.lit (.int .i64 a_Id), .lit (.int .i64 a_Size), .lit (.int .i64 a_Thing)]] [] = some ((fun (a : TSlot) => True) ⟨a_Id, a_Size, a_Thing⟩, (fun (a : TSlot) => (encTSlot a : D)) ⟨a_Id, a_Size, a_Thing⟩, (fun (a : TSlot) => []) ⟨a_Id, a_Size, a_Thing⟩) :=
  mkCon_fn (fun x y h _ => c39_inj x y h) (⟨a_Id, a_Size, a_Thing⟩ : TSlot) (by simp [nz, nz1, ML_nil, encTSlot]) rfl
theorem c39_pc (a : TSlot) : PCo Try.prog 39 [encTSlot a] (Tab.of []) (encTSlot a) (Tab.of []) := by
  obtain ⟨a_Id, a_Size, a_Thing⟩ := a
  refine pco_of_run [] (E := ⟨[], [], []⟩) (m := false) (base := 0) Env.ok_nil G_ok mix 300 6 Try.func39 (by kernel_rfl) rfl (by kernel_rfl) (by kernel_rfl) rfl ?_
  simp [Try.f39]
  all_goals first | omega | (rw [Bool.eq_iff_iff]; simp; omega) | grind
theorem c39_ok : c39.ok Try.prog := mkCon_ok fun a hpre => c39_pc a
/-- loop.example/g03007/laws.eqSlot -/
noncomputable def c50 : Con := mkCon 50 false (α := TSlot × TSlot) (fun x => (fun (a : TSlot) (b : TSlot) => [encTSlot a, encTSlot b]) x.1 x.2) (fun _ => []) (fun x => (fun (a : TSlot) (b : TSlot) => True) x.1 x.2) (fun x => (fun (a : TSlot) (b : TSlot) => (dB (decide (a = b)) : D)) x.1 x.2) (fun x => (fun (a : TSlot) (b : TSlot) => []) x.1 x.2)
@[simp] theorem c50_f : c50.f = 50 := rfl
@[simp] theorem c50_own : c50.own = false := rfl
theorem c50_inj : ∀ u_ v_ : TSlot × TSlot, ((fun x => (fun (a : TSlot) (b : TSlot) => [encTSlot a, encTSlot b]) x.1 x.2) u_).map nz = ((fun x => (fun (a : TSlot) (b : TSlot) => [encTSlot a, encTSlot b]) x.1 x.2) v_).map nz → u_ = v_ := by
  intro u_ v_ h
  obtain ⟨⟨a_Id, a_Size, a_Thing⟩, ⟨b_Id, b_Size, b_Thing⟩⟩ := u_
  obtain ⟨⟨a_Id', a_Size', a_Thing'⟩, ⟨b_Id', b_Size', b_Thing'⟩⟩ := v_
  simp [nz_lit, nz1_lit, nz_agg, nz_sl, nz1_sl, encTSlot] at h
  first | (simp [h]; done) | (obtain ⟨⟩ := h; simp_all; done) | simp_all
@[simp] theorem c50_fn (a_Id : Int) (a_Size : Int) (a_Thing : Int) (b_Id : Int) (b_Size : Int) (b_Thing : Int) : c50.fn [.agg [.lit (.int .i64 a_Id), .lit (.int .i64 a_Size), .lit (.int .i64 a_Thing)], .agg [.lit (.int .i64 b_Id), .lit (.int .i64 b_Size), .lit (.int .i64 b_Thing)]] [] = some ((fun (a : TSlot) (b : TSlot) => True) ⟨a_Id, a_Size, a_Thing⟩ ⟨b_Id, b_Size, b_Thing⟩, (fun (a : TSlot) (b : TSlot) => (dB (decide (a = b)) : D)) ⟨a_Id, a_Size, a_Thing⟩ ⟨b_Id, b_Size, b_Thing⟩, (fun (a : TSlot) (b : TSlot) => []) ⟨a_Id, a_Size, a_Thing⟩ ⟨b_Id, b_Size, b_Thing⟩) :=
  mkCon_fn (fun x y h _ => c50_inj x y h) ((⟨a_Id, a_Size, a_Thing⟩, ⟨b_Id, b_Size, b_Thing⟩) : TSlot × TSlot) (by simp [nz, nz1, ML_nil, encTSlot]) rfl
theorem c50_pc (a : TSlot) (b : TSlot) : PCo Try.prog 50 [encTSlot a, encTSlot b] (Tab.of []) (dB (decide (a = b))) (Tab.of []) := by
  obtain ⟨a_Id, a_Size, a_Thing⟩ := a
  obtain ⟨b_Id, b_Size, b_Thing⟩ := b
  refine pco_of_run [] (E := ⟨[], [], []⟩) (m := false) (base := 0) Env.ok_nil G_ok mix 300 6 Try.func50 (by kernel_rfl) rfl (by kernel_rfl) (by kernel_rfl) rfl ?_
  simp [Try.f50]
  all_goals first | omega | (rw [Bool.eq_iff_iff]; simp; omega) | grind
theorem c50_ok : c50.ok Try.prog := mkCon_ok fun ⟨a, b⟩ hpre => c50_pc a b
/-- loop.example/g03007/laws.toClaim -/
noncomputable def c40 : Con := mkCon 40 false (α := TClaim) (fun x => (fun (a : TClaim) => [encTClaim a]) x) (fun _ => []) (fun x => (fun (a : TClaim) => True) x) (fun x => (fun (a : TClaim) => (encTClaim a : D)) x) (fun x => (fun (a : TClaim) => []) x)
@[simp] theorem c40_f : c40.f = 40 := rfl
@[simp] theorem c40_own : c40.own = false := rfl
theorem c40_inj : ∀ u_ v_ : TClaim, ((fun x => (fun (a : TClaim) => [encTClaim a]) x) u_).map nz = ((fun x => (fun (a : TClaim) => [encTClaim a]) x) v_).map nz → u_ = v_ := by
  intro u_ v_ h
  obtain ⟨a_Id, a_Who, a_Thing, a_At, a_State⟩ := u_
  obtain ⟨a_Id', a_Who', a_Thing', a_At', a_State'⟩ := v_
  simp [nz_lit, nz1_lit, nz_agg, nz_sl, nz1_sl, encTClaim] at h
  first | (simp [h]; done) | (obtain ⟨⟩ := h; simp_all; done) | simp_all
@[simp] theorem c40_fn (a_Id : Int) (a_Who : Int) (a_Thing : Int) (a_At : Int) (a_State : Int) : c40.fn [.agg [.lit (.int .i64 a_Id), .lit (.int .i64 a_Who), .lit (.int .i64 a_Thing), .lit (.int .i64 a_At), .lit (.int .i64 a_State)]] [] = some ((fun (a : TClaim) => True) ⟨a_Id, a_Who, a_Thing, a_At, a_State⟩, (fun (a : TClaim) => (encTClaim a : D)) ⟨a_Id, a_Who, a_Thing, a_At, a_State⟩, (fun (a : TClaim) => []) ⟨a_Id, a_Who, a_Thing, a_At, a_State⟩) :=
  mkCon_fn (fun x y h _ => c40_inj x y h) (⟨a_Id, a_Who, a_Thing, a_At, a_State⟩ : TClaim) (by simp [nz, nz1, ML_nil, encTClaim]) rfl
theorem c40_pc (a : TClaim) : PCo Try.prog 40 [encTClaim a] (Tab.of []) (encTClaim a) (Tab.of []) := by
  obtain ⟨a_Id, a_Who, a_Thing, a_At, a_State⟩ := a
  refine pco_of_run [] (E := ⟨[], [], []⟩) (m := false) (base := 0) Env.ok_nil G_ok mix 300 6 Try.func40 (by kernel_rfl) rfl (by kernel_rfl) (by kernel_rfl) rfl ?_
  simp [Try.f40]
  all_goals first | omega | (rw [Bool.eq_iff_iff]; simp; omega) | grind
theorem c40_ok : c40.ok Try.prog := mkCon_ok fun a hpre => c40_pc a
/-- loop.example/g03007/laws.eqClaim -/
noncomputable def c51 : Con := mkCon 51 false (α := TClaim × TClaim) (fun x => (fun (a : TClaim) (b : TClaim) => [encTClaim a, encTClaim b]) x.1 x.2) (fun _ => []) (fun x => (fun (a : TClaim) (b : TClaim) => True) x.1 x.2) (fun x => (fun (a : TClaim) (b : TClaim) => (dB (decide (a = b)) : D)) x.1 x.2) (fun x => (fun (a : TClaim) (b : TClaim) => []) x.1 x.2)
@[simp] theorem c51_f : c51.f = 51 := rfl
@[simp] theorem c51_own : c51.own = false := rfl
theorem c51_inj : ∀ u_ v_ : TClaim × TClaim, ((fun x => (fun (a : TClaim) (b : TClaim) => [encTClaim a, encTClaim b]) x.1 x.2) u_).map nz = ((fun x => (fun (a : TClaim) (b : TClaim) => [encTClaim a, encTClaim b]) x.1 x.2) v_).map nz → u_ = v_ := by
  intro u_ v_ h
  obtain ⟨⟨a_Id, a_Who, a_Thing, a_At, a_State⟩, ⟨b_Id, b_Who, b_Thing, b_At, b_State⟩⟩ := u_
  obtain ⟨⟨a_Id', a_Who', a_Thing', a_At', a_State'⟩, ⟨b_Id', b_Who', b_Thing', b_At', b_State'⟩⟩ := v_
  simp [nz_lit, nz1_lit, nz_agg, nz_sl, nz1_sl, encTClaim] at h
  first | (simp [h]; done) | (obtain ⟨⟩ := h; simp_all; done) | simp_all
@[simp] theorem c51_fn (a_Id : Int) (a_Who : Int) (a_Thing : Int) (a_At : Int) (a_State : Int) (b_Id : Int) (b_Who : Int) (b_Thing : Int) (b_At : Int) (b_State : Int) : c51.fn [.agg [.lit (.int .i64 a_Id), .lit (.int .i64 a_Who), .lit (.int .i64 a_Thing), .lit (.int .i64 a_At), .lit (.int .i64 a_State)], .agg [.lit (.int .i64 b_Id), .lit (.int .i64 b_Who), .lit (.int .i64 b_Thing), .lit (.int .i64 b_At), .lit (.int .i64 b_State)]] [] = some ((fun (a : TClaim) (b : TClaim) => True) ⟨a_Id, a_Who, a_Thing, a_At, a_State⟩ ⟨b_Id, b_Who, b_Thing, b_At, b_State⟩, (fun (a : TClaim) (b : TClaim) => (dB (decide (a = b)) : D)) ⟨a_Id, a_Who, a_Thing, a_At, a_State⟩ ⟨b_Id, b_Who, b_Thing, b_At, b_State⟩, (fun (a : TClaim) (b : TClaim) => []) ⟨a_Id, a_Who, a_Thing, a_At, a_State⟩ ⟨b_Id, b_Who, b_Thing, b_At, b_State⟩) :=
  mkCon_fn (fun x y h _ => c51_inj x y h) ((⟨a_Id, a_Who, a_Thing, a_At, a_State⟩, ⟨b_Id, b_Who, b_Thing, b_At, b_State⟩) : TClaim × TClaim) (by simp [nz, nz1, ML_nil, encTClaim]) rfl
theorem c51_pc (a : TClaim) (b : TClaim) : PCo Try.prog 51 [encTClaim a, encTClaim b] (Tab.of []) (dB (decide (a = b))) (Tab.of []) := by
  obtain ⟨a_Id, a_Who, a_Thing, a_At, a_State⟩ := a
  obtain ⟨b_Id, b_Who, b_Thing, b_At, b_State⟩ := b
  refine pco_of_run [] (E := ⟨[], [], []⟩) (m := false) (base := 0) Env.ok_nil G_ok mix 300 6 Try.func51 (by kernel_rfl) rfl (by kernel_rfl) (by kernel_rfl) rfl ?_
  simp [Try.f51]
  all_goals first | omega | (rw [Bool.eq_iff_iff]; simp; omega) | grind
theorem c51_ok : c51.ok Try.prog := mkCon_ok fun ⟨a, b⟩ hpre => c51_pc a b
/-- loop.example/g03007/laws.toTrial -/
noncomputable def c41 : Con := mkCon 41 false (α := TTrial) (fun x => (fun (a : TTrial) => [encTTrial a]) x) (fun _ => []) (fun x => (fun (a : TTrial) => True) x) (fun x => (fun (a : TTrial) => (encTTrial a : D)) x) (fun x => (fun (a : TTrial) => []) x)
@[simp] theorem c41_f : c41.f = 41 := rfl
@[simp] theorem c41_own : c41.own = false := rfl
theorem c41_inj : ∀ u_ v_ : TTrial, ((fun x => (fun (a : TTrial) => [encTTrial a]) x) u_).map nz = ((fun x => (fun (a : TTrial) => [encTTrial a]) x) v_).map nz → u_ = v_ := by
  intro u_ v_ h
  obtain ⟨a_Claim, a_Asked, a_Right, a_Wrong⟩ := u_
  obtain ⟨a_Claim', a_Asked', a_Right', a_Wrong'⟩ := v_
  simp [nz_lit, nz1_lit, nz_agg, nz_sl, nz1_sl, encTTrial] at h
  first | (simp [h]; done) | (obtain ⟨⟩ := h; simp_all; done) | simp_all
@[simp] theorem c41_fn (a_Claim : Int) (a_Asked : Int) (a_Right : Int) (a_Wrong : Int) : c41.fn [.agg [.lit (.int .i64 a_Claim), .lit (.int .i64 a_Asked), .lit (.int .i64 a_Right), .lit (.int .i64 a_Wrong)]] [] = some ((fun (a : TTrial) => True) ⟨a_Claim, a_Asked, a_Right, a_Wrong⟩, (fun (a : TTrial) => (encTTrial a : D)) ⟨a_Claim, a_Asked, a_Right, a_Wrong⟩, (fun (a : TTrial) => []) ⟨a_Claim, a_Asked, a_Right, a_Wrong⟩) :=
  mkCon_fn (fun x y h _ => c41_inj x y h) (⟨a_Claim, a_Asked, a_Right, a_Wrong⟩ : TTrial) (by simp [nz, nz1, ML_nil, encTTrial]) rfl
theorem c41_pc (a : TTrial) : PCo Try.prog 41 [encTTrial a] (Tab.of []) (encTTrial a) (Tab.of []) := by
  obtain ⟨a_Claim, a_Asked, a_Right, a_Wrong⟩ := a
  refine pco_of_run [] (E := ⟨[], [], []⟩) (m := false) (base := 0) Env.ok_nil G_ok mix 300 6 Try.func41 (by kernel_rfl) rfl (by kernel_rfl) (by kernel_rfl) rfl ?_
  simp [Try.f41]
  all_goals first | omega | (rw [Bool.eq_iff_iff]; simp; omega) | grind
theorem c41_ok : c41.ok Try.prog := mkCon_ok fun a hpre => c41_pc a
/-- loop.example/g03007/laws.eqTrial -/
noncomputable def c52 : Con := mkCon 52 false (α := TTrial × TTrial) (fun x => (fun (a : TTrial) (b : TTrial) => [encTTrial a, encTTrial b]) x.1 x.2) (fun _ => []) (fun x => (fun (a : TTrial) (b : TTrial) => True) x.1 x.2) (fun x => (fun (a : TTrial) (b : TTrial) => (dB (decide (a = b)) : D)) x.1 x.2) (fun x => (fun (a : TTrial) (b : TTrial) => []) x.1 x.2)
@[simp] theorem c52_f : c52.f = 52 := rfl
@[simp] theorem c52_own : c52.own = false := rfl
theorem c52_inj : ∀ u_ v_ : TTrial × TTrial, ((fun x => (fun (a : TTrial) (b : TTrial) => [encTTrial a, encTTrial b]) x.1 x.2) u_).map nz = ((fun x => (fun (a : TTrial) (b : TTrial) => [encTTrial a, encTTrial b]) x.1 x.2) v_).map nz → u_ = v_ := by
  intro u_ v_ h
  obtain ⟨⟨a_Claim, a_Asked, a_Right, a_Wrong⟩, ⟨b_Claim, b_Asked, b_Right, b_Wrong⟩⟩ := u_
  obtain ⟨⟨a_Claim', a_Asked', a_Right', a_Wrong'⟩, ⟨b_Claim', b_Asked', b_Right', b_Wrong'⟩⟩ := v_
  simp [nz_lit, nz1_lit, nz_agg, nz_sl, nz1_sl, encTTrial] at h
  first | (simp [h]; done) | (obtain ⟨⟩ := h; simp_all; done) | simp_all
@[simp] theorem c52_fn (a_Claim : Int) (a_Asked : Int) (a_Right : Int) (a_Wrong : Int) (b_Claim : Int) (b_Asked : Int) (b_Right : Int) (b_Wrong : Int) : c52.fn [.agg [.lit (.int .i64 a_Claim), .lit (.int .i64 a_Asked), .lit (.int .i64 a_Right), .lit (.int .i64 a_Wrong)], .agg [.lit (.int .i64 b_Claim), .lit (.int .i64 b_Asked), .lit (.int .i64 b_Right), .lit (.int .i64 b_Wrong)]] [] = some ((fun (a : TTrial) (b : TTrial) => True) ⟨a_Claim, a_Asked, a_Right, a_Wrong⟩ ⟨b_Claim, b_Asked, b_Right, b_Wrong⟩, (fun (a : TTrial) (b : TTrial) => (dB (decide (a = b)) : D)) ⟨a_Claim, a_Asked, a_Right, a_Wrong⟩ ⟨b_Claim, b_Asked, b_Right, b_Wrong⟩, (fun (a : TTrial) (b : TTrial) => []) ⟨a_Claim, a_Asked, a_Right, a_Wrong⟩ ⟨b_Claim, b_Asked, b_Right, b_Wrong⟩) :=
  mkCon_fn (fun x y h _ => c52_inj x y h) ((⟨a_Claim, a_Asked, a_Right, a_Wrong⟩, ⟨b_Claim, b_Asked, b_Right, b_Wrong⟩) : TTrial × TTrial) (by simp [nz, nz1, ML_nil, encTTrial]) rfl
theorem c52_pc (a : TTrial) (b : TTrial) : PCo Try.prog 52 [encTTrial a, encTTrial b] (Tab.of []) (dB (decide (a = b))) (Tab.of []) := by
  obtain ⟨a_Claim, a_Asked, a_Right, a_Wrong⟩ := a
  obtain ⟨b_Claim, b_Asked, b_Right, b_Wrong⟩ := b
  refine pco_of_run [] (E := ⟨[], [], []⟩) (m := false) (base := 0) Env.ok_nil G_ok mix 300 6 Try.func52 (by kernel_rfl) rfl (by kernel_rfl) (by kernel_rfl) rfl ?_
  simp [Try.f52]
  all_goals first | omega | (rw [Bool.eq_iff_iff]; simp; omega) | grind
theorem c52_ok : c52.ok Try.prog := mkCon_ok fun ⟨a, b⟩ hpre => c52_pc a b
/-- loop.example/g03007/laws.toHand -/
noncomputable def c42 : Con := mkCon 42 false (α := THand) (fun x => (fun (a : THand) => [encTHand a]) x) (fun _ => []) (fun x => (fun (a : THand) => True) x) (fun x => (fun (a : THand) => (encTHand a : D)) x) (fun x => (fun (a : THand) => []) x)
@[simp] theorem c42_f : c42.f = 42 := rfl
@[simp] theorem c42_own : c42.own = false := rfl
theorem c42_inj : ∀ u_ v_ : THand, ((fun x => (fun (a : THand) => [encTHand a]) x) u_).map nz = ((fun x => (fun (a : THand) => [encTHand a]) x) v_).map nz → u_ = v_ := by
  intro u_ v_ h
  obtain ⟨a_Thing, a_Holder, a_Who, a_At, a_Seal⟩ := u_
  obtain ⟨a_Thing', a_Holder', a_Who', a_At', a_Seal'⟩ := v_
  simp [nz_lit, nz1_lit, nz_agg, nz_sl, nz1_sl, encTHand] at h
  first | (simp [h]; done) | (obtain ⟨⟩ := h; simp_all; done) | simp_all
@[simp] theorem c42_fn (a_Thing : Int) (a_Holder : Int) (a_Who : Int) (a_At : Int) (a_Seal : Int) : c42.fn [.agg [.lit (.int .i64 a_Thing), .lit (.int .i64 a_Holder), .lit (.int .i64 a_Who), .lit (.int .i64 a_At), .lit (.int .i64 a_Seal)]] [] = some ((fun (a : THand) => True) ⟨a_Thing, a_Holder, a_Who, a_At, a_Seal⟩, (fun (a : THand) => (encTHand a : D)) ⟨a_Thing, a_Holder, a_Who, a_At, a_Seal⟩, (fun (a : THand) => []) ⟨a_Thing, a_Holder, a_Who, a_At, a_Seal⟩) :=
  mkCon_fn (fun x y h _ => c42_inj x y h) (⟨a_Thing, a_Holder, a_Who, a_At, a_Seal⟩ : THand) (by simp [nz, nz1, ML_nil, encTHand]) rfl
theorem c42_pc (a : THand) : PCo Try.prog 42 [encTHand a] (Tab.of []) (encTHand a) (Tab.of []) := by
  obtain ⟨a_Thing, a_Holder, a_Who, a_At, a_Seal⟩ := a
  refine pco_of_run [] (E := ⟨[], [], []⟩) (m := false) (base := 0) Env.ok_nil G_ok mix 300 6 Try.func42 (by kernel_rfl) rfl (by kernel_rfl) (by kernel_rfl) rfl ?_
  simp [Try.f42]
  all_goals first | omega | (rw [Bool.eq_iff_iff]; simp; omega) | grind
theorem c42_ok : c42.ok Try.prog := mkCon_ok fun a hpre => c42_pc a
/-- loop.example/g03007/laws.eqHand -/
noncomputable def c53 : Con := mkCon 53 false (α := THand × THand) (fun x => (fun (a : THand) (b : THand) => [encTHand a, encTHand b]) x.1 x.2) (fun _ => []) (fun x => (fun (a : THand) (b : THand) => True) x.1 x.2) (fun x => (fun (a : THand) (b : THand) => (dB (decide (a = b)) : D)) x.1 x.2) (fun x => (fun (a : THand) (b : THand) => []) x.1 x.2)
@[simp] theorem c53_f : c53.f = 53 := rfl
@[simp] theorem c53_own : c53.own = false := rfl
theorem c53_inj : ∀ u_ v_ : THand × THand, ((fun x => (fun (a : THand) (b : THand) => [encTHand a, encTHand b]) x.1 x.2) u_).map nz = ((fun x => (fun (a : THand) (b : THand) => [encTHand a, encTHand b]) x.1 x.2) v_).map nz → u_ = v_ := by
  intro u_ v_ h
  obtain ⟨⟨a_Thing, a_Holder, a_Who, a_At, a_Seal⟩, ⟨b_Thing, b_Holder, b_Who, b_At, b_Seal⟩⟩ := u_
  obtain ⟨⟨a_Thing', a_Holder', a_Who', a_At', a_Seal'⟩, ⟨b_Thing', b_Holder', b_Who', b_At', b_Seal'⟩⟩ := v_
  simp [nz_lit, nz1_lit, nz_agg, nz_sl, nz1_sl, encTHand] at h
  first | (simp [h]; done) | (obtain ⟨⟩ := h; simp_all; done) | simp_all
@[simp] theorem c53_fn (a_Thing : Int) (a_Holder : Int) (a_Who : Int) (a_At : Int) (a_Seal : Int) (b_Thing : Int) (b_Holder : Int) (b_Who : Int) (b_At : Int) (b_Seal : Int) : c53.fn [.agg [.lit (.int .i64 a_Thing), .lit (.int .i64 a_Holder), .lit (.int .i64 a_Who), .lit (.int .i64 a_At), .lit (.int .i64 a_Seal)], .agg [.lit (.int .i64 b_Thing), .lit (.int .i64 b_Holder), .lit (.int .i64 b_Who), .lit (.int .i64 b_At), .lit (.int .i64 b_Seal)]] [] = some ((fun (a : THand) (b : THand) => True) ⟨a_Thing, a_Holder, a_Who, a_At, a_Seal⟩ ⟨b_Thing, b_Holder, b_Who, b_At, b_Seal⟩, (fun (a : THand) (b : THand) => (dB (decide (a = b)) : D)) ⟨a_Thing, a_Holder, a_Who, a_At, a_Seal⟩ ⟨b_Thing, b_Holder, b_Who, b_At, b_Seal⟩, (fun (a : THand) (b : THand) => []) ⟨a_Thing, a_Holder, a_Who, a_At, a_Seal⟩ ⟨b_Thing, b_Holder, b_Who, b_At, b_Seal⟩) :=
  mkCon_fn (fun x y h _ => c53_inj x y h) ((⟨a_Thing, a_Holder, a_Who, a_At, a_Seal⟩, ⟨b_Thing, b_Holder, b_Who, b_At, b_Seal⟩) : THand × THand) (by simp [nz, nz1, ML_nil, encTHand]) rfl
theorem c53_pc (a : THand) (b : THand) : PCo Try.prog 53 [encTHand a, encTHand b] (Tab.of []) (dB (decide (a = b))) (Tab.of []) := by
  obtain ⟨a_Thing, a_Holder, a_Who, a_At, a_Seal⟩ := a
  obtain ⟨b_Thing, b_Holder, b_Who, b_At, b_Seal⟩ := b
  refine pco_of_run [] (E := ⟨[], [], []⟩) (m := false) (base := 0) Env.ok_nil G_ok mix 300 6 Try.func53 (by kernel_rfl) rfl (by kernel_rfl) (by kernel_rfl) rfl ?_
  simp [Try.f53]
  all_goals first | omega | (rw [Bool.eq_iff_iff]; simp; omega) | grind
theorem c53_ok : c53.ok Try.prog := mkCon_ok fun ⟨a, b⟩ hpre => c53_pc a b
/-- loop.example/g03007/laws.toEntry -/
noncomputable def c43 : Con := mkCon 43 false (α := TEntry) (fun x => (fun (a : TEntry) => [encTEntry a]) x) (fun _ => []) (fun x => (fun (a : TEntry) => True) x) (fun x => (fun (a : TEntry) => (encTEntry a : D)) x) (fun x => (fun (a : TEntry) => []) x)
@[simp] theorem c43_f : c43.f = 43 := rfl
@[simp] theorem c43_own : c43.own = false := rfl
theorem c43_inj : ∀ u_ v_ : TEntry, ((fun x => (fun (a : TEntry) => [encTEntry a]) x) u_).map nz = ((fun x => (fun (a : TEntry) => [encTEntry a]) x) v_).map nz → u_ = v_ := by
  intro u_ v_ h
  obtain ⟨a_From, a_To, a_Cents, a_At⟩ := u_
  obtain ⟨a_From', a_To', a_Cents', a_At'⟩ := v_
  simp [nz_lit, nz1_lit, nz_agg, nz_sl, nz1_sl, encTEntry] at h
  first | (simp [h]; done) | (obtain ⟨⟩ := h; simp_all; done) | simp_all
@[simp] theorem c43_fn (a_From : Int) (a_To : Int) (a_Cents : Int) (a_At : Int) : c43.fn [.agg [.lit (.int .i64 a_From), .lit (.int .i64 a_To), .lit (.int .i64 a_Cents), .lit (.int .i64 a_At)]] [] = some ((fun (a : TEntry) => True) ⟨a_From, a_To, a_Cents, a_At⟩, (fun (a : TEntry) => (encTEntry a : D)) ⟨a_From, a_To, a_Cents, a_At⟩, (fun (a : TEntry) => []) ⟨a_From, a_To, a_Cents, a_At⟩) :=
  mkCon_fn (fun x y h _ => c43_inj x y h) (⟨a_From, a_To, a_Cents, a_At⟩ : TEntry) (by simp [nz, nz1, ML_nil, encTEntry]) rfl
theorem c43_pc (a : TEntry) : PCo Try.prog 43 [encTEntry a] (Tab.of []) (encTEntry a) (Tab.of []) := by
  obtain ⟨a_From, a_To, a_Cents, a_At⟩ := a
  refine pco_of_run [] (E := ⟨[], [], []⟩) (m := false) (base := 0) Env.ok_nil G_ok mix 300 6 Try.func43 (by kernel_rfl) rfl (by kernel_rfl) (by kernel_rfl) rfl ?_
  simp [Try.f43]
  all_goals first | omega | (rw [Bool.eq_iff_iff]; simp; omega) | grind
theorem c43_ok : c43.ok Try.prog := mkCon_ok fun a hpre => c43_pc a
/-- loop.example/g03007/laws.eqEntry -/
noncomputable def c54 : Con := mkCon 54 false (α := TEntry × TEntry) (fun x => (fun (a : TEntry) (b : TEntry) => [encTEntry a, encTEntry b]) x.1 x.2) (fun _ => []) (fun x => (fun (a : TEntry) (b : TEntry) => True) x.1 x.2) (fun x => (fun (a : TEntry) (b : TEntry) => (dB (decide (a = b)) : D)) x.1 x.2) (fun x => (fun (a : TEntry) (b : TEntry) => []) x.1 x.2)
@[simp] theorem c54_f : c54.f = 54 := rfl
@[simp] theorem c54_own : c54.own = false := rfl
theorem c54_inj : ∀ u_ v_ : TEntry × TEntry, ((fun x => (fun (a : TEntry) (b : TEntry) => [encTEntry a, encTEntry b]) x.1 x.2) u_).map nz = ((fun x => (fun (a : TEntry) (b : TEntry) => [encTEntry a, encTEntry b]) x.1 x.2) v_).map nz → u_ = v_ := by
  intro u_ v_ h
  obtain ⟨⟨a_From, a_To, a_Cents, a_At⟩, ⟨b_From, b_To, b_Cents, b_At⟩⟩ := u_
  obtain ⟨⟨a_From', a_To', a_Cents', a_At'⟩, ⟨b_From', b_To', b_Cents', b_At'⟩⟩ := v_
  simp [nz_lit, nz1_lit, nz_agg, nz_sl, nz1_sl, encTEntry] at h
  first | (simp [h]; done) | (obtain ⟨⟩ := h; simp_all; done) | simp_all
@[simp] theorem c54_fn (a_From : Int) (a_To : Int) (a_Cents : Int) (a_At : Int) (b_From : Int) (b_To : Int) (b_Cents : Int) (b_At : Int) : c54.fn [.agg [.lit (.int .i64 a_From), .lit (.int .i64 a_To), .lit (.int .i64 a_Cents), .lit (.int .i64 a_At)], .agg [.lit (.int .i64 b_From), .lit (.int .i64 b_To), .lit (.int .i64 b_Cents), .lit (.int .i64 b_At)]] [] = some ((fun (a : TEntry) (b : TEntry) => True) ⟨a_From, a_To, a_Cents, a_At⟩ ⟨b_From, b_To, b_Cents, b_At⟩, (fun (a : TEntry) (b : TEntry) => (dB (decide (a = b)) : D)) ⟨a_From, a_To, a_Cents, a_At⟩ ⟨b_From, b_To, b_Cents, b_At⟩, (fun (a : TEntry) (b : TEntry) => []) ⟨a_From, a_To, a_Cents, a_At⟩ ⟨b_From, b_To, b_Cents, b_At⟩) :=
  mkCon_fn (fun x y h _ => c54_inj x y h) ((⟨a_From, a_To, a_Cents, a_At⟩, ⟨b_From, b_To, b_Cents, b_At⟩) : TEntry × TEntry) (by simp [nz, nz1, ML_nil, encTEntry]) rfl
theorem c54_pc (a : TEntry) (b : TEntry) : PCo Try.prog 54 [encTEntry a, encTEntry b] (Tab.of []) (dB (decide (a = b))) (Tab.of []) := by
  obtain ⟨a_From, a_To, a_Cents, a_At⟩ := a
  obtain ⟨b_From, b_To, b_Cents, b_At⟩ := b
  refine pco_of_run [] (E := ⟨[], [], []⟩) (m := false) (base := 0) Env.ok_nil G_ok mix 300 6 Try.func54 (by kernel_rfl) rfl (by kernel_rfl) (by kernel_rfl) rfl ?_
  simp [Try.f54]
  all_goals first | omega | (rw [Bool.eq_iff_iff]; simp; omega) | grind
theorem c54_ok : c54.ok Try.prog := mkCon_ok fun ⟨a, b⟩ hpre => c54_pc a b
/-- loop.example/g03007/laws.szSlotS -/
noncomputable def c11 : Con := mkCon 11 false (α := (List TSlot) × Int) (fun x => (fun (l : List TSlot) (left : Int) => [encLTSlot l, dI left]) x.1 x.2) (fun _ => []) (fun x => (fun (l : List TSlot) (left : Int) => l.length ≤ maxLen ∧ 0 ≤ left ∧ left ≤ 1099511627776) x.1 x.2) (fun x => (fun (l : List TSlot) (left : Int) => (dI (if left - l.length < 0 then -1 else left - l.length) : D)) x.1 x.2) (fun x => (fun (l : List TSlot) (left : Int) => []) x.1 x.2)
@[simp] theorem c11_f : c11.f = 11 := rfl
@[simp] theorem c11_own : c11.own = false := rfl
theorem c11_inj : ∀ u_ v_ : (List TSlot) × Int, ((fun x => (fun (l : List TSlot) (left : Int) => [encLTSlot l, dI left]) x.1 x.2) u_).map nz = ((fun x => (fun (l : List TSlot) (left : Int) => [encLTSlot l, dI left]) x.1 x.2) v_).map nz → u_ = v_ := by
  intro u_ v_ h
  obtain ⟨l, left⟩ := u_
  obtain ⟨l', left'⟩ := v_
  simp [nz_lit, nz1_lit, nz_agg, nz_sl, nz1_sl, encLTSlot] at h
  first | (simp [h]; done) | (obtain ⟨⟩ := h; simp_all; done) | simp_all
@[simp] theorem c11_fn (l : List TSlot) (left : Int) : c11.fn [.sl false 3 yTSlot (ML encTSlot l), .lit (.int .i64 left)] [] = some ((fun (l : List TSlot) (left : Int) => l.length ≤ maxLen ∧ 0 ≤ left ∧ left ≤ 1099511627776) l left, (fun (l : List TSlot) (left : Int) => (dI (if left - l.length < 0 then -1 else left - l.length) : D)) l left, (fun (l : List TSlot) (left : Int) => []) l left) :=
  mkCon_fn (fun x y h _ => c11_inj x y h) ((l, left) : (List TSlot) × Int) (by simp [nz, nz1, ML_nil, encLTSlot]) rfl
@[simp] theorem c11_fn1 (s_l : Nat) (z_l : D) (left : Int) : c11.fn [.sl false s_l z_l [], .lit (.int .i64 left)] [] = some ((fun (l : List TSlot) (left : Int) => l.length ≤ maxLen ∧ 0 ≤ left ∧ left ≤ 1099511627776) [] left, (fun (l : List TSlot) (left : Int) => (dI (if left - l.length < 0 then -1 else left - l.length) : D)) [] left, (fun (l : List TSlot) (left : Int) => []) [] left) :=
  mkCon_fn (fun x y h _ => c11_inj x y h) (([], left) : (List TSlot) × Int) (by simp [nz, nz1, ML_nil, encLTSlot]) rfl
theorem c11_pc (l : List TSlot) (left : Int) (hpre : l.length ≤ maxLen ∧ 0 ≤ left ∧ left ≤ 1099511627776) : PCo Try.prog 11 [encLTSlot l, dI left] (Tab.of []) (dI (if left - l.length < 0 then -1 else left - l.length)) (Tab.of []) := by
  refine pco_of_run [] (E := ⟨[], [], []⟩) (m := false) (base := 0) Env.ok_nil G_ok mix 300 6 Try.func11 (by kernel_rfl) rfl (by kernel_rfl) (by kernel_rfl) rfl ?_
  simp [Try.f11]
  simp [maxLen] at hpre
  all_goals omega
theorem c11_ok : c11.ok Try.prog := mkCon_ok fun ⟨l, left⟩ hpre => c11_pc l left hpre
/-- loop.example/g03007/laws.szClaimS -/
noncomputable def c12 : Con := mkCon 12 false (α := (List TClaim) × Int) (fun x => (fun (l : List TClaim) (left : Int) => [encLTClaim l, dI left]) x.1 x.2) (fun _ => []) (fun x => (fun (l : List TClaim) (left : Int) => l.length ≤ maxLen ∧ 0 ≤ left ∧ left ≤ 1099511627776) x.1 x.2) (fun x => (fun (l : List TClaim) (left : Int) => (dI (if left - l.length < 0 then -1 else left - l.length) : D)) x.1 x.2) (fun x => (fun (l : List TClaim) (left : Int) => []) x.1 x.2)
@[simp] theorem c12_f : c12.f = 12 := rfl
@[simp] theorem c12_own : c12.own = false := rfl
theorem c12_inj : ∀ u_ v_ : (List TClaim) × Int, ((fun x => (fun (l : List TClaim) (left : Int) => [encLTClaim l, dI left]) x.1 x.2) u_).map nz = ((fun x => (fun (l : List TClaim) (left : Int) => [encLTClaim l, dI left]) x.1 x.2) v_).map nz → u_ = v_ := by
  intro u_ v_ h
  obtain ⟨l, left⟩ := u_
  obtain ⟨l', left'⟩ := v_
  simp [nz_lit, nz1_lit, nz_agg, nz_sl, nz1_sl, encLTClaim] at h
  first | (simp [h]; done) | (obtain ⟨⟩ := h; simp_all; done) | simp_all
@[simp] theorem c12_fn (l : List TClaim) (left : Int) : c12.fn [.sl false 5 yTClaim (ML encTClaim l), .lit (.int .i64 left)] [] = some ((fun (l : List TClaim) (left : Int) => l.length ≤ maxLen ∧ 0 ≤ left ∧ left ≤ 1099511627776) l left, (fun (l : List TClaim) (left : Int) => (dI (if left - l.length < 0 then -1 else left - l.length) : D)) l left, (fun (l : List TClaim) (left : Int) => []) l left) :=
  mkCon_fn (fun x y h _ => c12_inj x y h) ((l, left) : (List TClaim) × Int) (by simp [nz, nz1, ML_nil, encLTClaim]) rfl
@[simp] theorem c12_fn1 (s_l : Nat) (z_l : D) (left : Int) : c12.fn [.sl false s_l z_l [], .lit (.int .i64 left)] [] = some ((fun (l : List TClaim) (left : Int) => l.length ≤ maxLen ∧ 0 ≤ left ∧ left ≤ 1099511627776) [] left, (fun (l : List TClaim) (left : Int) => (dI (if left - l.length < 0 then -1 else left - l.length) : D)) [] left, (fun (l : List TClaim) (left : Int) => []) [] left) :=
  mkCon_fn (fun x y h _ => c12_inj x y h) (([], left) : (List TClaim) × Int) (by simp [nz, nz1, ML_nil, encLTClaim]) rfl
theorem c12_pc (l : List TClaim) (left : Int) (hpre : l.length ≤ maxLen ∧ 0 ≤ left ∧ left ≤ 1099511627776) : PCo Try.prog 12 [encLTClaim l, dI left] (Tab.of []) (dI (if left - l.length < 0 then -1 else left - l.length)) (Tab.of []) := by
  refine pco_of_run [] (E := ⟨[], [], []⟩) (m := false) (base := 0) Env.ok_nil G_ok mix 300 6 Try.func12 (by kernel_rfl) rfl (by kernel_rfl) (by kernel_rfl) rfl ?_
  simp [Try.f12]
  simp [maxLen] at hpre
  all_goals omega
theorem c12_ok : c12.ok Try.prog := mkCon_ok fun ⟨l, left⟩ hpre => c12_pc l left hpre
/-- loop.example/g03007/laws.szTrialS -/
noncomputable def c13 : Con := mkCon 13 false (α := (List TTrial) × Int) (fun x => (fun (l : List TTrial) (left : Int) => [encLTTrial l, dI left]) x.1 x.2) (fun _ => []) (fun x => (fun (l : List TTrial) (left : Int) => l.length ≤ maxLen ∧ 0 ≤ left ∧ left ≤ 1099511627776) x.1 x.2) (fun x => (fun (l : List TTrial) (left : Int) => (dI (if left - l.length < 0 then -1 else left - l.length) : D)) x.1 x.2) (fun x => (fun (l : List TTrial) (left : Int) => []) x.1 x.2)
@[simp] theorem c13_f : c13.f = 13 := rfl
@[simp] theorem c13_own : c13.own = false := rfl
theorem c13_inj : ∀ u_ v_ : (List TTrial) × Int, ((fun x => (fun (l : List TTrial) (left : Int) => [encLTTrial l, dI left]) x.1 x.2) u_).map nz = ((fun x => (fun (l : List TTrial) (left : Int) => [encLTTrial l, dI left]) x.1 x.2) v_).map nz → u_ = v_ := by
  intro u_ v_ h
  obtain ⟨l, left⟩ := u_
  obtain ⟨l', left'⟩ := v_
  simp [nz_lit, nz1_lit, nz_agg, nz_sl, nz1_sl, encLTTrial] at h
  first | (simp [h]; done) | (obtain ⟨⟩ := h; simp_all; done) | simp_all
@[simp] theorem c13_fn (l : List TTrial) (left : Int) : c13.fn [.sl false 4 yTTrial (ML encTTrial l), .lit (.int .i64 left)] [] = some ((fun (l : List TTrial) (left : Int) => l.length ≤ maxLen ∧ 0 ≤ left ∧ left ≤ 1099511627776) l left, (fun (l : List TTrial) (left : Int) => (dI (if left - l.length < 0 then -1 else left - l.length) : D)) l left, (fun (l : List TTrial) (left : Int) => []) l left) :=
  mkCon_fn (fun x y h _ => c13_inj x y h) ((l, left) : (List TTrial) × Int) (by simp [nz, nz1, ML_nil, encLTTrial]) rfl
@[simp] theorem c13_fn1 (s_l : Nat) (z_l : D) (left : Int) : c13.fn [.sl false s_l z_l [], .lit (.int .i64 left)] [] = some ((fun (l : List TTrial) (left : Int) => l.length ≤ maxLen ∧ 0 ≤ left ∧ left ≤ 1099511627776) [] left, (fun (l : List TTrial) (left : Int) => (dI (if left - l.length < 0 then -1 else left - l.length) : D)) [] left, (fun (l : List TTrial) (left : Int) => []) [] left) :=
  mkCon_fn (fun x y h _ => c13_inj x y h) (([], left) : (List TTrial) × Int) (by simp [nz, nz1, ML_nil, encLTTrial]) rfl
theorem c13_pc (l : List TTrial) (left : Int) (hpre : l.length ≤ maxLen ∧ 0 ≤ left ∧ left ≤ 1099511627776) : PCo Try.prog 13 [encLTTrial l, dI left] (Tab.of []) (dI (if left - l.length < 0 then -1 else left - l.length)) (Tab.of []) := by
  refine pco_of_run [] (E := ⟨[], [], []⟩) (m := false) (base := 0) Env.ok_nil G_ok mix 300 6 Try.func13 (by kernel_rfl) rfl (by kernel_rfl) (by kernel_rfl) rfl ?_
  simp [Try.f13]
  simp [maxLen] at hpre
  all_goals omega
theorem c13_ok : c13.ok Try.prog := mkCon_ok fun ⟨l, left⟩ hpre => c13_pc l left hpre
/-- loop.example/g03007/laws.szHandS -/
noncomputable def c14 : Con := mkCon 14 false (α := (List THand) × Int) (fun x => (fun (l : List THand) (left : Int) => [encLTHand l, dI left]) x.1 x.2) (fun _ => []) (fun x => (fun (l : List THand) (left : Int) => l.length ≤ maxLen ∧ 0 ≤ left ∧ left ≤ 1099511627776) x.1 x.2) (fun x => (fun (l : List THand) (left : Int) => (dI (if left - l.length < 0 then -1 else left - l.length) : D)) x.1 x.2) (fun x => (fun (l : List THand) (left : Int) => []) x.1 x.2)
@[simp] theorem c14_f : c14.f = 14 := rfl
@[simp] theorem c14_own : c14.own = false := rfl
theorem c14_inj : ∀ u_ v_ : (List THand) × Int, ((fun x => (fun (l : List THand) (left : Int) => [encLTHand l, dI left]) x.1 x.2) u_).map nz = ((fun x => (fun (l : List THand) (left : Int) => [encLTHand l, dI left]) x.1 x.2) v_).map nz → u_ = v_ := by
  intro u_ v_ h
  obtain ⟨l, left⟩ := u_
  obtain ⟨l', left'⟩ := v_
  simp [nz_lit, nz1_lit, nz_agg, nz_sl, nz1_sl, encLTHand] at h
  first | (simp [h]; done) | (obtain ⟨⟩ := h; simp_all; done) | simp_all
@[simp] theorem c14_fn (l : List THand) (left : Int) : c14.fn [.sl false 5 yTHand (ML encTHand l), .lit (.int .i64 left)] [] = some ((fun (l : List THand) (left : Int) => l.length ≤ maxLen ∧ 0 ≤ left ∧ left ≤ 1099511627776) l left, (fun (l : List THand) (left : Int) => (dI (if left - l.length < 0 then -1 else left - l.length) : D)) l left, (fun (l : List THand) (left : Int) => []) l left) :=
  mkCon_fn (fun x y h _ => c14_inj x y h) ((l, left) : (List THand) × Int) (by simp [nz, nz1, ML_nil, encLTHand]) rfl
@[simp] theorem c14_fn1 (s_l : Nat) (z_l : D) (left : Int) : c14.fn [.sl false s_l z_l [], .lit (.int .i64 left)] [] = some ((fun (l : List THand) (left : Int) => l.length ≤ maxLen ∧ 0 ≤ left ∧ left ≤ 1099511627776) [] left, (fun (l : List THand) (left : Int) => (dI (if left - l.length < 0 then -1 else left - l.length) : D)) [] left, (fun (l : List THand) (left : Int) => []) [] left) :=
  mkCon_fn (fun x y h _ => c14_inj x y h) (([], left) : (List THand) × Int) (by simp [nz, nz1, ML_nil, encLTHand]) rfl
theorem c14_pc (l : List THand) (left : Int) (hpre : l.length ≤ maxLen ∧ 0 ≤ left ∧ left ≤ 1099511627776) : PCo Try.prog 14 [encLTHand l, dI left] (Tab.of []) (dI (if left - l.length < 0 then -1 else left - l.length)) (Tab.of []) := by
  refine pco_of_run [] (E := ⟨[], [], []⟩) (m := false) (base := 0) Env.ok_nil G_ok mix 300 6 Try.func14 (by kernel_rfl) rfl (by kernel_rfl) (by kernel_rfl) rfl ?_
  simp [Try.f14]
  simp [maxLen] at hpre
  all_goals omega
theorem c14_ok : c14.ok Try.prog := mkCon_ok fun ⟨l, left⟩ hpre => c14_pc l left hpre
/-- loop.example/g03007/laws.szEntryS -/
noncomputable def c15 : Con := mkCon 15 false (α := (List TEntry) × Int) (fun x => (fun (l : List TEntry) (left : Int) => [encLTEntry l, dI left]) x.1 x.2) (fun _ => []) (fun x => (fun (l : List TEntry) (left : Int) => l.length ≤ maxLen ∧ 0 ≤ left ∧ left ≤ 1099511627776) x.1 x.2) (fun x => (fun (l : List TEntry) (left : Int) => (dI (if left - l.length < 0 then -1 else left - l.length) : D)) x.1 x.2) (fun x => (fun (l : List TEntry) (left : Int) => []) x.1 x.2)
@[simp] theorem c15_f : c15.f = 15 := rfl
@[simp] theorem c15_own : c15.own = false := rfl
theorem c15_inj : ∀ u_ v_ : (List TEntry) × Int, ((fun x => (fun (l : List TEntry) (left : Int) => [encLTEntry l, dI left]) x.1 x.2) u_).map nz = ((fun x => (fun (l : List TEntry) (left : Int) => [encLTEntry l, dI left]) x.1 x.2) v_).map nz → u_ = v_ := by
  intro u_ v_ h
  obtain ⟨l, left⟩ := u_
  obtain ⟨l', left'⟩ := v_
  simp [nz_lit, nz1_lit, nz_agg, nz_sl, nz1_sl, encLTEntry] at h
  first | (simp [h]; done) | (obtain ⟨⟩ := h; simp_all; done) | simp_all
@[simp] theorem c15_fn (l : List TEntry) (left : Int) : c15.fn [.sl false 4 yTEntry (ML encTEntry l), .lit (.int .i64 left)] [] = some ((fun (l : List TEntry) (left : Int) => l.length ≤ maxLen ∧ 0 ≤ left ∧ left ≤ 1099511627776) l left, (fun (l : List TEntry) (left : Int) => (dI (if left - l.length < 0 then -1 else left - l.length) : D)) l left, (fun (l : List TEntry) (left : Int) => []) l left) :=
  mkCon_fn (fun x y h _ => c15_inj x y h) ((l, left) : (List TEntry) × Int) (by simp [nz, nz1, ML_nil, encLTEntry]) rfl
@[simp] theorem c15_fn1 (s_l : Nat) (z_l : D) (left : Int) : c15.fn [.sl false s_l z_l [], .lit (.int .i64 left)] [] = some ((fun (l : List TEntry) (left : Int) => l.length ≤ maxLen ∧ 0 ≤ left ∧ left ≤ 1099511627776) [] left, (fun (l : List TEntry) (left : Int) => (dI (if left - l.length < 0 then -1 else left - l.length) : D)) [] left, (fun (l : List TEntry) (left : Int) => []) [] left) :=
  mkCon_fn (fun x y h _ => c15_inj x y h) (([], left) : (List TEntry) × Int) (by simp [nz, nz1, ML_nil, encLTEntry]) rfl
theorem c15_pc (l : List TEntry) (left : Int) (hpre : l.length ≤ maxLen ∧ 0 ≤ left ∧ left ≤ 1099511627776) : PCo Try.prog 15 [encLTEntry l, dI left] (Tab.of []) (dI (if left - l.length < 0 then -1 else left - l.length)) (Tab.of []) := by
  refine pco_of_run [] (E := ⟨[], [], []⟩) (m := false) (base := 0) Env.ok_nil G_ok mix 300 6 Try.func15 (by kernel_rfl) rfl (by kernel_rfl) (by kernel_rfl) rfl ?_
  simp [Try.f15]
  simp [maxLen] at hpre
  all_goals omega
theorem c15_ok : c15.ok Try.prog := mkCon_ok fun ⟨l, left⟩ hpre => c15_pc l left hpre
/-- loop.example/g03007/laws.toSlotS -/
noncomputable def c20 : Con := mkCon 20 false (α := (List TSlot)) (fun x => (fun (l : List TSlot) => [encLTSlot l]) x) (fun _ => []) (fun x => (fun (l : List TSlot) => l.length ≤ 1099511627776) x) (fun x => (fun (l : List TSlot) => (.own (0, 1) 3 0 l.length : D)) x) (fun x => (fun (l : List TSlot) => [((0, 1), .arr false 3 yTSlot (ML encTSlot l))]) x)
@[simp] theorem c20_f : c20.f = 20 := rfl
@[simp] theorem c20_own : c20.own = false := rfl
theorem c20_inj : ∀ u_ v_ : (List TSlot), ((fun x => (fun (l : List TSlot) => [encLTSlot l]) x) u_).map nz = ((fun x => (fun (l : List TSlot) => [encLTSlot l]) x) v_).map nz → u_ = v_ := by
  intro u_ v_ h
  obtain l := u_
  obtain l' := v_
  simp [nz_lit, nz1_lit, nz_agg, nz_sl, nz1_sl, encLTSlot] at h
  first | (simp [h]; done) | (obtain ⟨⟩ := h; simp_all; done) | simp_all
@[simp] theorem c20_fn (l : List TSlot) : c20.fn [.sl false 3 yTSlot (ML encTSlot l)] [] = some ((fun (l : List TSlot) => l.length ≤ 1099511627776) l, (fun (l : List TSlot) => (.own (0, 1) 3 0 l.length : D)) l, (fun (l : List TSlot) => [((0, 1), .arr false 3 yTSlot (ML encTSlot l))]) l) :=
  mkCon_fn (fun x y h _ => c20_inj x y h) (l : (List TSlot)) (by simp [nz, nz1, ML_nil, encLTSlot]) rfl
@[simp] theorem c20_fn1 (s_l : Nat) (z_l : D) : c20.fn [.sl false s_l z_l []] [] = some ((fun (l : List TSlot) => l.length ≤ 1099511627776) [], (fun (l : List TSlot) => (.own (0, 1) 3 0 l.length : D)) [], (fun (l : List TSlot) => [((0, 1), .arr false 3 yTSlot (ML encTSlot l))]) []) :=
  mkCon_fn (fun x y h _ => c20_inj x y h) ([] : (List TSlot)) (by simp [nz, nz1, ML_nil, encLTSlot]) rfl
theorem c20_pc (l : List TSlot) (hpre : l.length ≤ 1099511627776) : PCo Try.prog 20 [encLTSlot l] (Tab.of []) (.own (0, 1) 3 0 l.length) (Tab.of [((0, 1), .arr false 3 yTSlot (ML encTSlot l))]) := by
  refine pco_of_run [] (E := ⟨[c39], [], []⟩) (m := false) (base := 0) (Env.ok_cons c39_ok Env.ok_nil) G_ok mix 300 6 Try.func20 (by kernel_rfl) rfl (by kernel_rfl) (by kernel_rfl) rfl ?_
  simp [Try.f20]
  refine ⟨by omega, ?_⟩
  refine loop_inv (fun p : Nat => p ≤ l.length) (fun p => [(0, encLTSlot l), (3, .own (0, 1) 3 0 l.length), (4, dI p)]) (fun p => [((0, 1), .arr false 3 yTSlot (ML encTSlot (l.take p ++ List.replicate (l.length - p) ⟨0, 0, 0⟩)))]) 2 (fun p => l.length - p) 0 100 (by simp) (by simp) (by first | (simp; done) | (simp; simp only [ML, List.map_replicate]; rfl)) ?_
  intro p hp
  simp
  refine ⟨fun hlt => ⟨by omega, by omega, Again.mk (p + 1) (by omega) (by simp [fill_step hlt]) (by first | omega | (simp; omega))⟩, fun hge => ?_⟩
  have : p = l.length := by omega
  subst this
  simp
theorem c20_ok : c20.ok Try.prog := mkCon_ok fun l hpre => c20_pc l hpre
/-- loop.example/g03007/laws.toClaimS -/
noncomputable def c21 : Con := mkCon 21 false (α := (List TClaim)) (fun x => (fun (l : List TClaim) => [encLTClaim l]) x) (fun _ => []) (fun x => (fun (l : List TClaim) => l.length ≤ 1099511627776) x) (fun x => (fun (l : List TClaim) => (.own (0, 1) 5 0 l.length : D)) x) (fun x => (fun (l : List TClaim) => [((0, 1), .arr false 5 yTClaim (ML encTClaim l))]) x)
@[simp] theorem c21_f : c21.f = 21 := rfl
@[simp] theorem c21_own : c21.own = false := rfl
theorem c21_inj : ∀ u_ v_ : (List TClaim), ((fun x => (fun (l : List TClaim) => [encLTClaim l]) x) u_).map nz = ((fun x => (fun (l : List TClaim) => [encLTClaim l]) x) v_).map nz → u_ = v_ := by
  intro u_ v_ h
  obtain l := u_
  obtain l' := v_
  simp [nz_lit, nz1_lit, nz_agg, nz_sl, nz1_sl, encLTClaim] at h
  first | (simp [h]; done) | (obtain ⟨⟩ := h; simp_all; done) | simp_all
@[simp] theorem c21_fn (l : List TClaim) : c21.fn [.sl false 5 yTClaim (ML encTClaim l)] [] = some ((fun (l : List TClaim) => l.length ≤ 1099511627776) l, (fun (l : List TClaim) => (.own (0, 1) 5 0 l.length : D)) l, (fun (l : List TClaim) => [((0, 1), .arr false 5 yTClaim (ML encTClaim l))]) l) :=
  mkCon_fn (fun x y h _ => c21_inj x y h) (l : (List TClaim)) (by simp [nz, nz1, ML_nil, encLTClaim]) rfl
@[simp] theorem c21_fn1 (s_l : Nat) (z_l : D) : c21.fn [.sl false s_l z_l []] [] = some ((fun (l : List TClaim) => l.length ≤ 1099511627776) [], (fun (l : List TClaim) => (.own (0, 1) 5 0 l.length : D)) [], (fun (l : List TClaim) => [((0, 1), .arr false 5 yTClaim (ML encTClaim l))]) []) :=
  mkCon_fn (fun x y h _ => c21_inj x y h) ([] : (List TClaim)) (by simp [nz, nz1, ML_nil, encLTClaim]) rfl
theorem c21_pc (l : List TClaim) (hpre : l.length ≤ 1099511627776) : PCo Try.prog 21 [encLTClaim l] (Tab.of []) (.own (0, 1) 5 0 l.length) (Tab.of [((0, 1), .arr false 5 yTClaim (ML encTClaim l))]) := by
  refine pco_of_run [] (E := ⟨[c40], [], []⟩) (m := false) (base := 0) (Env.ok_cons c40_ok Env.ok_nil) G_ok mix 300 6 Try.func21 (by kernel_rfl) rfl (by kernel_rfl) (by kernel_rfl) rfl ?_
  simp [Try.f21]
  refine ⟨by omega, ?_⟩
  refine loop_inv (fun p : Nat => p ≤ l.length) (fun p => [(0, encLTClaim l), (3, .own (0, 1) 5 0 l.length), (4, dI p)]) (fun p => [((0, 1), .arr false 5 yTClaim (ML encTClaim (l.take p ++ List.replicate (l.length - p) ⟨0, 0, 0, 0, 0⟩)))]) 2 (fun p => l.length - p) 0 100 (by simp) (by simp) (by first | (simp; done) | (simp; simp only [ML, List.map_replicate]; rfl)) ?_
  intro p hp
  simp
  refine ⟨fun hlt => ⟨by omega, by omega, Again.mk (p + 1) (by omega) (by simp [fill_step hlt]) (by first | omega | (simp; omega))⟩, fun hge => ?_⟩
  have : p = l.length := by omega
  subst this
  simp
theorem c21_ok : c21.ok Try.prog := mkCon_ok fun l hpre => c21_pc l hpre
/-- loop.example/g03007/laws.toTrialS -/
noncomputable def c22 : Con := mkCon 22 false (α := (List TTrial)) (fun x => (fun (l : List TTrial) => [encLTTrial l]) x) (fun _ => []) (fun x => (fun (l : List TTrial) => l.length ≤ 1099511627776) x) (fun x => (fun (l : List TTrial) => (.own (0, 1) 4 0 l.length : D)) x) (fun x => (fun (l : List TTrial) => [((0, 1), .arr false 4 yTTrial (ML encTTrial l))]) x)
@[simp] theorem c22_f : c22.f = 22 := rfl
@[simp] theorem c22_own : c22.own = false := rfl
theorem c22_inj : ∀ u_ v_ : (List TTrial), ((fun x => (fun (l : List TTrial) => [encLTTrial l]) x) u_).map nz = ((fun x => (fun (l : List TTrial) => [encLTTrial l]) x) v_).map nz → u_ = v_ := by
  intro u_ v_ h
  obtain l := u_
  obtain l' := v_
  simp [nz_lit, nz1_lit, nz_agg, nz_sl, nz1_sl, encLTTrial] at h
  first | (simp [h]; done) | (obtain ⟨⟩ := h; simp_all; done) | simp_all
@[simp] theorem c22_fn (l : List TTrial) : c22.fn [.sl false 4 yTTrial (ML encTTrial l)] [] = some ((fun (l : List TTrial) => l.length ≤ 1099511627776) l, (fun (l : List TTrial) => (.own (0, 1) 4 0 l.length : D)) l, (fun (l : List TTrial) => [((0, 1), .arr false 4 yTTrial (ML encTTrial l))]) l) :=
  mkCon_fn (fun x y h _ => c22_inj x y h) (l : (List TTrial)) (by simp [nz, nz1, ML_nil, encLTTrial]) rfl
@[simp] theorem c22_fn1 (s_l : Nat) (z_l : D) : c22.fn [.sl false s_l z_l []] [] = some ((fun (l : List TTrial) => l.length ≤ 1099511627776) [], (fun (l : List TTrial) => (.own (0, 1) 4 0 l.length : D)) [], (fun (l : List TTrial) => [((0, 1), .arr false 4 yTTrial (ML encTTrial l))]) []) :=
  mkCon_fn (fun x y h _ => c22_inj x y h) ([] : (List TTrial)) (by simp [nz, nz1, ML_nil, encLTTrial]) rfl
theorem c22_pc (l : List TTrial) (hpre : l.length ≤ 1099511627776) : PCo Try.prog 22 [encLTTrial l] (Tab.of []) (.own (0, 1) 4 0 l.length) (Tab.of [((0, 1), .arr false 4 yTTrial (ML encTTrial l))]) := by
  refine pco_of_run [] (E := ⟨[c41], [], []⟩) (m := false) (base := 0) (Env.ok_cons c41_ok Env.ok_nil) G_ok mix 300 6 Try.func22 (by kernel_rfl) rfl (by kernel_rfl) (by kernel_rfl) rfl ?_
  simp [Try.f22]
  refine ⟨by omega, ?_⟩
  refine loop_inv (fun p : Nat => p ≤ l.length) (fun p => [(0, encLTTrial l), (3, .own (0, 1) 4 0 l.length), (4, dI p)]) (fun p => [((0, 1), .arr false 4 yTTrial (ML encTTrial (l.take p ++ List.replicate (l.length - p) ⟨0, 0, 0, 0⟩)))]) 2 (fun p => l.length - p) 0 100 (by simp) (by simp) (by first | (simp; done) | (simp; simp only [ML, List.map_replicate]; rfl)) ?_
  intro p hp
  simp
  refine ⟨fun hlt => ⟨by omega, by omega, Again.mk (p + 1) (by omega) (by simp [fill_step hlt]) (by first | omega | (simp; omega))⟩, fun hge => ?_⟩
  have : p = l.length := by omega
  subst this
  simp
theorem c22_ok : c22.ok Try.prog := mkCon_ok fun l hpre => c22_pc l hpre
/-- loop.example/g03007/laws.toHandS -/
noncomputable def c23 : Con := mkCon 23 false (α := (List THand)) (fun x => (fun (l : List THand) => [encLTHand l]) x) (fun _ => []) (fun x => (fun (l : List THand) => l.length ≤ 1099511627776) x) (fun x => (fun (l : List THand) => (.own (0, 1) 5 0 l.length : D)) x) (fun x => (fun (l : List THand) => [((0, 1), .arr false 5 yTHand (ML encTHand l))]) x)
@[simp] theorem c23_f : c23.f = 23 := rfl
@[simp] theorem c23_own : c23.own = false := rfl
theorem c23_inj : ∀ u_ v_ : (List THand), ((fun x => (fun (l : List THand) => [encLTHand l]) x) u_).map nz = ((fun x => (fun (l : List THand) => [encLTHand l]) x) v_).map nz → u_ = v_ := by
  intro u_ v_ h
  obtain l := u_
  obtain l' := v_
  simp [nz_lit, nz1_lit, nz_agg, nz_sl, nz1_sl, encLTHand] at h
  first | (simp [h]; done) | (obtain ⟨⟩ := h; simp_all; done) | simp_all
@[simp] theorem c23_fn (l : List THand) : c23.fn [.sl false 5 yTHand (ML encTHand l)] [] = some ((fun (l : List THand) => l.length ≤ 1099511627776) l, (fun (l : List THand) => (.own (0, 1) 5 0 l.length : D)) l, (fun (l : List THand) => [((0, 1), .arr false 5 yTHand (ML encTHand l))]) l) :=
  mkCon_fn (fun x y h _ => c23_inj x y h) (l : (List THand)) (by simp [nz, nz1, ML_nil, encLTHand]) rfl
@[simp] theorem c23_fn1 (s_l : Nat) (z_l : D) : c23.fn [.sl false s_l z_l []] [] = some ((fun (l : List THand) => l.length ≤ 1099511627776) [], (fun (l : List THand) => (.own (0, 1) 5 0 l.length : D)) [], (fun (l : List THand) => [((0, 1), .arr false 5 yTHand (ML encTHand l))]) []) :=
  mkCon_fn (fun x y h _ => c23_inj x y h) ([] : (List THand)) (by simp [nz, nz1, ML_nil, encLTHand]) rfl
theorem c23_pc (l : List THand) (hpre : l.length ≤ 1099511627776) : PCo Try.prog 23 [encLTHand l] (Tab.of []) (.own (0, 1) 5 0 l.length) (Tab.of [((0, 1), .arr false 5 yTHand (ML encTHand l))]) := by
  refine pco_of_run [] (E := ⟨[c42], [], []⟩) (m := false) (base := 0) (Env.ok_cons c42_ok Env.ok_nil) G_ok mix 300 6 Try.func23 (by kernel_rfl) rfl (by kernel_rfl) (by kernel_rfl) rfl ?_
  simp [Try.f23]
  refine ⟨by omega, ?_⟩
  refine loop_inv (fun p : Nat => p ≤ l.length) (fun p => [(0, encLTHand l), (3, .own (0, 1) 5 0 l.length), (4, dI p)]) (fun p => [((0, 1), .arr false 5 yTHand (ML encTHand (l.take p ++ List.replicate (l.length - p) ⟨0, 0, 0, 0, 0⟩)))]) 2 (fun p => l.length - p) 0 100 (by simp) (by simp) (by first | (simp; done) | (simp; simp only [ML, List.map_replicate]; rfl)) ?_
  intro p hp
  simp
  refine ⟨fun hlt => ⟨by omega, by omega, Again.mk (p + 1) (by omega) (by simp [fill_step hlt]) (by first | omega | (simp; omega))⟩, fun hge => ?_⟩
  have : p = l.length := by omega
  subst this
  simp
theorem c23_ok : c23.ok Try.prog := mkCon_ok fun l hpre => c23_pc l hpre
/-- loop.example/g03007/laws.toEntryS -/
noncomputable def c24 : Con := mkCon 24 false (α := (List TEntry)) (fun x => (fun (l : List TEntry) => [encLTEntry l]) x) (fun _ => []) (fun x => (fun (l : List TEntry) => l.length ≤ 1099511627776) x) (fun x => (fun (l : List TEntry) => (.own (0, 1) 4 0 l.length : D)) x) (fun x => (fun (l : List TEntry) => [((0, 1), .arr false 4 yTEntry (ML encTEntry l))]) x)
@[simp] theorem c24_f : c24.f = 24 := rfl
@[simp] theorem c24_own : c24.own = false := rfl
theorem c24_inj : ∀ u_ v_ : (List TEntry), ((fun x => (fun (l : List TEntry) => [encLTEntry l]) x) u_).map nz = ((fun x => (fun (l : List TEntry) => [encLTEntry l]) x) v_).map nz → u_ = v_ := by
  intro u_ v_ h
  obtain l := u_
  obtain l' := v_
  simp [nz_lit, nz1_lit, nz_agg, nz_sl, nz1_sl, encLTEntry] at h
  first | (simp [h]; done) | (obtain ⟨⟩ := h; simp_all; done) | simp_all
@[simp] theorem c24_fn (l : List TEntry) : c24.fn [.sl false 4 yTEntry (ML encTEntry l)] [] = some ((fun (l : List TEntry) => l.length ≤ 1099511627776) l, (fun (l : List TEntry) => (.own (0, 1) 4 0 l.length : D)) l, (fun (l : List TEntry) => [((0, 1), .arr false 4 yTEntry (ML encTEntry l))]) l) :=
  mkCon_fn (fun x y h _ => c24_inj x y h) (l : (List TEntry)) (by simp [nz, nz1, ML_nil, encLTEntry]) rfl
@[simp] theorem c24_fn1 (s_l : Nat) (z_l : D) : c24.fn [.sl false s_l z_l []] [] = some ((fun (l : List TEntry) => l.length ≤ 1099511627776) [], (fun (l : List TEntry) => (.own (0, 1) 4 0 l.length : D)) [], (fun (l : List TEntry) => [((0, 1), .arr false 4 yTEntry (ML encTEntry l))]) []) :=
  mkCon_fn (fun x y h _ => c24_inj x y h) ([] : (List TEntry)) (by simp [nz, nz1, ML_nil, encLTEntry]) rfl
theorem c24_pc (l : List TEntry) (hpre : l.length ≤ 1099511627776) : PCo Try.prog 24 [encLTEntry l] (Tab.of []) (.own (0, 1) 4 0 l.length) (Tab.of [((0, 1), .arr false 4 yTEntry (ML encTEntry l))]) := by
  refine pco_of_run [] (E := ⟨[c43], [], []⟩) (m := false) (base := 0) (Env.ok_cons c43_ok Env.ok_nil) G_ok mix 300 6 Try.func24 (by kernel_rfl) rfl (by kernel_rfl) (by kernel_rfl) rfl ?_
  simp [Try.f24]
  refine ⟨by omega, ?_⟩
  refine loop_inv (fun p : Nat => p ≤ l.length) (fun p => [(0, encLTEntry l), (3, .own (0, 1) 4 0 l.length), (4, dI p)]) (fun p => [((0, 1), .arr false 4 yTEntry (ML encTEntry (l.take p ++ List.replicate (l.length - p) ⟨0, 0, 0, 0⟩)))]) 2 (fun p => l.length - p) 0 100 (by simp) (by simp) (by first | (simp; done) | (simp; simp only [ML, List.map_replicate]; rfl)) ?_
  intro p hp
  simp
  refine ⟨fun hlt => ⟨by omega, by omega, Again.mk (p + 1) (by omega) (by simp [fill_step hlt]) (by first | omega | (simp; omega))⟩, fun hge => ?_⟩
  have : p = l.length := by omega
  subst this
  simp
theorem c24_ok : c24.ok Try.prog := mkCon_ok fun l hpre => c24_pc l hpre
/-- loop.example/g03007/laws.eqSlotS -/
noncomputable def c29 : Con := mkCon 29 false (α := (List TSlot) × (List TSlot)) (fun x => (fun (a : List TSlot) (b : List TSlot) => [encLTSlot a, encLTSlot b]) x.1 x.2) (fun _ => []) (fun x => (fun (a : List TSlot) (b : List TSlot) => a.length ≤ 1099511627776 ∧ b.length ≤ 1099511627776) x.1 x.2) (fun x => (fun (a : List TSlot) (b : List TSlot) => (dB (decide (a = b)) : D)) x.1 x.2) (fun x => (fun (a : List TSlot) (b : List TSlot) => []) x.1 x.2)
@[simp] theorem c29_f : c29.f = 29 := rfl
@[simp] theorem c29_own : c29.own = false := rfl
theorem c29_inj : ∀ u_ v_ : (List TSlot) × (List TSlot), ((fun x => (fun (a : List TSlot) (b : List TSlot) => [encLTSlot a, encLTSlot b]) x.1 x.2) u_).map nz = ((fun x => (fun (a : List TSlot) (b : List TSlot) => [encLTSlot a, encLTSlot b]) x.1 x.2) v_).map nz → u_ = v_ := by
  intro u_ v_ h
  obtain ⟨a, b⟩ := u_
  obtain ⟨a', b'⟩ := v_
  simp [nz_lit, nz1_lit, nz_agg, nz_sl, nz1_sl, encLTSlot] at h
  first | (simp [h]; done) | (obtain ⟨⟩ := h; simp_all; done) | simp_all
@[simp] theorem c29_fn (a : List TSlot) (b : List TSlot) : c29.fn [.sl false 3 yTSlot (ML encTSlot a), .sl false 3 yTSlot (ML encTSlot b)] [] = some ((fun (a : List TSlot) (b : List TSlot) => a.length ≤ 1099511627776 ∧ b.length ≤ 1099511627776) a b, (fun (a : List TSlot) (b : List TSlot) => (dB (decide (a = b)) : D)) a b, (fun (a : List TSlot) (b : List TSlot) => []) a b) :=
  mkCon_fn (fun x y h _ => c29_inj x y h) ((a, b) : (List TSlot) × (List TSlot)) (by simp [nz, nz1, ML_nil, encLTSlot]) rfl
@[simp] theorem c29_fn1 (s_a : Nat) (z_a : D) (b : List TSlot) : c29.fn [.sl false s_a z_a [], .sl false 3 yTSlot (ML encTSlot b)] [] = some ((fun (a : List TSlot) (b : List TSlot) => a.length ≤ 1099511627776 ∧ b.length ≤ 1099511627776) [] b, (fun (a : List TSlot) (b : List TSlot) => (dB (decide (a = b)) : D)) [] b, (fun (a : List TSlot) (b : List TSlot) => []) [] b) :=
  mkCon_fn (fun x y h _ => c29_inj x y h) (([], b) : (List TSlot) × (List TSlot)) (by simp [nz, nz1, ML_nil, encLTSlot]) rfl
@[simp] theorem c29_fn2 (a : List TSlot) (s_b : Nat) (z_b : D) : c29.fn [.sl false 3 yTSlot (ML encTSlot a), .sl false s_b z_b []] [] = some ((fun (a : List TSlot) (b : List TSlot) => a.length ≤ 1099511627776 ∧ b.length ≤ 1099511627776) a [], (fun (a : List TSlot) (b : List TSlot) => (dB (decide (a = b)) : D)) a [], (fun (a : List TSlot) (b : List TSlot) => []) a []) :=
  mkCon_fn (fun x y h _ => c29_inj x y h) ((a, []) : (List TSlot) × (List TSlot)) (by simp [nz, nz1, ML_nil, encLTSlot]) rfl
@[simp] theorem c29_fn3 (s_a : Nat) (z_a : D) (s_b : Nat) (z_b : D) : c29.fn [.sl false s_a z_a [], .sl false s_b z_b []] [] = some ((fun (a : List TSlot) (b : List TSlot) => a.length ≤ 1099511627776 ∧ b.length ≤ 1099511627776) [] [], (fun (a : List TSlot) (b : List TSlot) => (dB (decide (a = b)) : D)) [] [], (fun (a : List TSlot) (b : List TSlot) => []) [] []) :=
  mkCon_fn (fun x y h _ => c29_inj x y h) (([], []) : (List TSlot) × (List TSlot)) (by simp [nz, nz1, ML_nil, encLTSlot]) rfl
theorem c29_pc (a : List TSlot) (b : List TSlot) (hpre : a.length ≤ 1099511627776 ∧ b.length ≤ 1099511627776) : PCo Try.prog 29 [encLTSlot a, encLTSlot b] (Tab.of []) (dB (decide (a = b))) (Tab.of []) := by
  refine pco_of_run [] (E := ⟨[c50], [], []⟩) (m := false) (base := 0) (Env.ok_cons c50_ok Env.ok_nil) G_ok mix 300 6 Try.func29 (by kernel_rfl) rfl (by kernel_rfl) (by kernel_rfl) rfl ?_
  simp [Try.f29]
  obtain ⟨pre1, pre2⟩ := hpre
  refine ⟨fun h => ?_, fun h => by intro e; subst e; exact absurd rfl h⟩
  refine loop_inv (fun p : Nat => p ≤ a.length ∧ a.take p = b.take p) (fun p => [(0, encLTSlot a), (1, encLTSlot b), (5, dI p)]) (fun _ => []) 1 (fun p => a.length - p) 0 100 (by simp) (by simp) (by simp) ?_
  intro p ⟨hp, hi⟩
  simp
  refine ⟨fun hlt => ⟨by omega, fun h2 => ⟨by omega, Again.mk (p + 1) ⟨by omega, take_eq_step hi (by omega) (by omega) h2⟩ (by simp) (by first | omega | (simp; omega))⟩, fun h2 => by intro e; subst e; exact absurd rfl h2⟩, fun hge => ?_⟩
  exact take_eq_full hi (by omega) (by omega)
theorem c29_ok : c29.ok Try.prog := mkCon_ok fun ⟨a, b⟩ hpre => c29_pc a b hpre
/-- loop.example/g03007/laws.eqClaimS -/
noncomputable def c30 : Con := mkCon 30 false (α := (List TClaim) × (List TClaim)) (fun x => (fun (a : List TClaim) (b : List TClaim) => [encLTClaim a, encLTClaim b]) x.1 x.2) (fun _ => []) (fun x => (fun (a : List TClaim) (b : List TClaim) => a.length ≤ 1099511627776 ∧ b.length ≤ 1099511627776) x.1 x.2) (fun x => (fun (a : List TClaim) (b : List TClaim) => (dB (decide (a = b)) : D)) x.1 x.2) (fun x => (fun (a : List TClaim) (b : List TClaim) => []) x.1 x.2)
@[simp] theorem c30_f : c30.f = 30 := rfl
@[simp] theorem c30_own : c30.own = false := rfl
theorem c30_inj : ∀ u_ v_ : (List TClaim) × (List TClaim), ((fun x => (fun (a : List TClaim) (b : List TClaim) => [encLTClaim a, encLTClaim b]) x.1 x.2) u_).map nz = ((fun x => (fun (a : List TClaim) (b : List TClaim) => [encLTClaim a, encLTClaim b]) x.1 x.2) v_).map nz → u_ = v_ := by
  intro u_ v_ h
  obtain ⟨a, b⟩ := u_
  obtain ⟨a', b'⟩ := v_
  simp [nz_lit, nz1_lit, nz_agg, nz_sl, nz1_sl, encLTClaim] at h
  first | (simp [h]; done) | (obtain ⟨⟩ := h; simp_all; done) | simp_all
@[simp] theorem c30_fn (a : List TClaim) (b : List TClaim) : c30.fn [.sl false 5 yTClaim (ML encTClaim a), .sl false 5 yTClaim (ML encTClaim b)] [] = some ((fun (a : List TClaim) (b : List TClaim) => a.length ≤ 1099511627776 ∧ b.length ≤ 1099511627776) a b, (fun (a : List TClaim) (b : List TClaim) => (dB (decide (a = b)) : D)) a b, (fun (a : List TClaim) (b : List TClaim) => []) a b) :=
  mkCon_fn (fun x y h _ => c30_inj x y h) ((a, b) : (List TClaim) × (List TClaim)) (by simp [nz, nz1, ML_nil, encLTClaim]) rfl
@[simp] theorem c30_fn1 (s_a : Nat) (z_a : D) (b : List TClaim) : c30.fn [.sl false s_a z_a [], .sl false 5 yTClaim (ML encTClaim b)] [] = some ((fun (a : List TClaim) (b : List TClaim) => a.length ≤ 1099511627776 ∧ b.length ≤ 1099511627776) [] b, (fun (a : List TClaim) (b : List TClaim) => (dB (decide (a = b)) : D)) [] b, (fun (a : List TClaim) (b : List TClaim) => []) [] b) :=
  mkCon_fn (fun x y h _ => c30_inj x y h) (([], b) : (List TClaim) × (List TClaim)) (by simp [nz, nz1, ML_nil, encLTClaim]) rfl
@[simp] theorem c30_fn2 (a : List TClaim) (s_b : Nat) (z_b : D) : c30.fn [.sl false 5 yTClaim (ML encTClaim a), .sl false s_b z_b []] [] = some ((fun (a : List TClaim) (b : List TClaim) => a.length ≤ 1099511627776 ∧ b.length ≤ 1099511627776) a [], (fun (a : List TClaim) (b : List TClaim) => (dB (decide (a = b)) : D)) a [], (fun (a : List TClaim) (b : List TClaim) => []) a []) :=
  mkCon_fn (fun x y h _ => c30_inj x y h) ((a, []) : (List TClaim) × (List TClaim)) (by simp [nz, nz1, ML_nil, encLTClaim]) rfl
@[simp] theorem c30_fn3 (s_a : Nat) (z_a : D) (s_b : Nat) (z_b : D) : c30.fn [.sl false s_a z_a [], .sl false s_b z_b []] [] = some ((fun (a : List TClaim) (b : List TClaim) => a.length ≤ 1099511627776 ∧ b.length ≤ 1099511627776) [] [], (fun (a : List TClaim) (b : List TClaim) => (dB (decide (a = b)) : D)) [] [], (fun (a : List TClaim) (b : List TClaim) => []) [] []) :=
  mkCon_fn (fun x y h _ => c30_inj x y h) (([], []) : (List TClaim) × (List TClaim)) (by simp [nz, nz1, ML_nil, encLTClaim]) rfl
theorem c30_pc (a : List TClaim) (b : List TClaim) (hpre : a.length ≤ 1099511627776 ∧ b.length ≤ 1099511627776) : PCo Try.prog 30 [encLTClaim a, encLTClaim b] (Tab.of []) (dB (decide (a = b))) (Tab.of []) := by
  refine pco_of_run [] (E := ⟨[c51], [], []⟩) (m := false) (base := 0) (Env.ok_cons c51_ok Env.ok_nil) G_ok mix 300 6 Try.func30 (by kernel_rfl) rfl (by kernel_rfl) (by kernel_rfl) rfl ?_
  simp [Try.f30]
  obtain ⟨pre1, pre2⟩ := hpre
  refine ⟨fun h => ?_, fun h => by intro e; subst e; exact absurd rfl h⟩
  refine loop_inv (fun p : Nat => p ≤ a.length ∧ a.take p = b.take p) (fun p => [(0, encLTClaim a), (1, encLTClaim b), (5, dI p)]) (fun _ => []) 1 (fun p => a.length - p) 0 100 (by simp) (by simp) (by simp) ?_
  intro p ⟨hp, hi⟩
  simp
  refine ⟨fun hlt => ⟨by omega, fun h2 => ⟨by omega, Again.mk (p + 1) ⟨by omega, take_eq_step hi (by omega) (by omega) h2⟩ (by simp) (by first | omega | (simp; omega))⟩, fun h2 => by intro e; subst e; exact absurd rfl h2⟩, fun hge => ?_⟩
  exact take_eq_full hi (by omega) (by omega)
theorem c30_ok : c30.ok Try.prog := mkCon_ok fun ⟨a, b⟩ hpre => c30_pc a b hpre
/-- loop.example/g03007/laws.eqTrialS -/
noncomputable def c31 : Con := mkCon 31 false (α := (List TTrial) × (List TTrial)) (fun x => (fun (a : List TTrial) (b : List TTrial) => [encLTTrial a, encLTTrial b]) x.1 x.2) (fun _ => []) (fun x => (fun (a : List TTrial) (b : List TTrial) => a.length ≤ 1099511627776 ∧ b.length ≤ 1099511627776) x.1 x.2) (fun x => (fun (a : List TTrial) (b : List TTrial) => (dB (decide (a = b)) : D)) x.1 x.2) (fun x => (fun (a : List TTrial) (b : List TTrial) => []) x.1 x.2)
@[simp] theorem c31_f : c31.f = 31 := rfl
@[simp] theorem c31_own : c31.own = false := rfl
theorem c31_inj : ∀ u_ v_ : (List TTrial) × (List TTrial), ((fun x => (fun (a : List TTrial) (b : List TTrial) => [encLTTrial a, encLTTrial b]) x.1 x.2) u_).map nz = ((fun x => (fun (a : List TTrial) (b : List TTrial) => [encLTTrial a, encLTTrial b]) x.1 x.2) v_).map nz → u_ = v_ := by
  intro u_ v_ h
  obtain ⟨a, b⟩ := u_
  obtain ⟨a', b'⟩ := v_
  simp [nz_lit, nz1_lit, nz_agg, nz_sl, nz1_sl, encLTTrial] at h
  first | (simp [h]; done) | (obtain ⟨⟩ := h; simp_all; done) | simp_all
@[simp] theorem c31_fn (a : List TTrial) (b : List TTrial) : c31.fn [.sl false 4 yTTrial (ML encTTrial a), .sl false 4 yTTrial (ML encTTrial b)] [] = some ((fun (a : List TTrial) (b : List TTrial) => a.length ≤ 1099511627776 ∧ b.length ≤ 1099511627776) a b, (fun (a : List TTrial) (b : List TTrial) => (dB (decide (a = b)) : D)) a b, (fun (a : List TTrial) (b : List TTrial) => []) a b) :=
  mkCon_fn (fun x y h _ => c31_inj x y h) ((a, b) : (List TTrial) × (List TTrial)) (by simp [nz, nz1, ML_nil, encLTTrial]) rfl
@[simp] theorem c31_fn1 (s_a : Nat) (z_a : D) (b : List TTrial) : c31.fn [.sl false s_a z_a [], .sl false 4 yTTrial (ML encTTrial b)] [] = some ((fun (a : List TTrial) (b : List TTrial) => a.length ≤ 1099511627776 ∧ b.length ≤ 1099511627776) [] b, (fun (a : List TTrial) (b : List TTrial) => (dB (decide (a = b)) : D)) [] b, (fun (a : List TTrial) (b : List TTrial) => []) [] b) :=
  mkCon_fn (fun x y h _ => c31_inj x y h) (([], b) : (List TTrial) × (List TTrial)) (by simp [nz, nz1, ML_nil, encLTTrial]) rfl
@[simp] theorem c31_fn2 (a : List TTrial) (s_b : Nat) (z_b : D) : c31.fn [.sl false 4 yTTrial (ML encTTrial a), .sl false s_b z_b []] [] = some ((fun (a : List TTrial) (b : List TTrial) => a.length ≤ 1099511627776 ∧ b.length ≤ 1099511627776) a [], (fun (a : List TTrial) (b : List TTrial) => (dB (decide (a = b)) : D)) a [], (fun (a : List TTrial) (b : List TTrial) => []) a []) :=
  mkCon_fn (fun x y h _ => c31_inj x y h) ((a, []) : (List TTrial) × (List TTrial)) (by simp [nz, nz1, ML_nil, encLTTrial]) rfl
@[simp] theorem c31_fn3 (s_a : Nat) (z_a : D) (s_b : Nat) (z_b : D) : c31.fn [.sl false s_a z_a [], .sl false s_b z_b []] [] = some ((fun (a : List TTrial) (b : List TTrial) => a.length ≤ 1099511627776 ∧ b.length ≤ 1099511627776) [] [], (fun (a : List TTrial) (b : List TTrial) => (dB (decide (a = b)) : D)) [] [], (fun (a : List TTrial) (b : List TTrial) => []) [] []) :=
  mkCon_fn (fun x y h _ => c31_inj x y h) (([], []) : (List TTrial) × (List TTrial)) (by simp [nz, nz1, ML_nil, encLTTrial]) rfl
theorem c31_pc (a : List TTrial) (b : List TTrial) (hpre : a.length ≤ 1099511627776 ∧ b.length ≤ 1099511627776) : PCo Try.prog 31 [encLTTrial a, encLTTrial b] (Tab.of []) (dB (decide (a = b))) (Tab.of []) := by
  refine pco_of_run [] (E := ⟨[c52], [], []⟩) (m := false) (base := 0) (Env.ok_cons c52_ok Env.ok_nil) G_ok mix 300 6 Try.func31 (by kernel_rfl) rfl (by kernel_rfl) (by kernel_rfl) rfl ?_
  simp [Try.f31]
  obtain ⟨pre1, pre2⟩ := hpre
  refine ⟨fun h => ?_, fun h => by intro e; subst e; exact absurd rfl h⟩
  refine loop_inv (fun p : Nat => p ≤ a.length ∧ a.take p = b.take p) (fun p => [(0, encLTTrial a), (1, encLTTrial b), (5, dI p)]) (fun _ => []) 1 (fun p => a.length - p) 0 100 (by simp) (by simp) (by simp) ?_
  intro p ⟨hp, hi⟩
  simp
  refine ⟨fun hlt => ⟨by omega, fun h2 => ⟨by omega, Again.mk (p + 1) ⟨by omega, take_eq_step hi (by omega) (by omega) h2⟩ (by simp) (by first | omega | (simp; omega))⟩, fun h2 => by intro e; subst e; exact absurd rfl h2⟩, fun hge => ?_⟩
  exact take_eq_full hi (by omega) (by omega)
theorem c31_ok : c31.ok Try.prog := mkCon_ok fun ⟨a, b⟩ hpre => c31_pc a b hpre
/-- loop.example/g03007/laws.eqHandS -/
noncomputable def c32 : Con := mkCon 32 false (α := (List THand) × (List THand)) (fun x => (fun (a : List THand) (b : List THand) => [encLTHand a, encLTHand b]) x.1 x.2) (fun _ => []) (fun x => (fun (a : List THand) (b : List THand) => a.length ≤ 1099511627776 ∧ b.length ≤ 1099511627776) x.1 x.2) (fun x => (fun (a : List THand) (b : List THand) => (dB (decide (a = b)) : D)) x.1 x.2) (fun x => (fun (a : List THand) (b : List THand) => []) x.1 x.2)
@[simp] theorem c32_f : c32.f = 32 := rfl
@[simp] theorem c32_own : c32.own = false := rfl
theorem c32_inj : ∀ u_ v_ : (List THand) × (List THand), ((fun x => (fun (a : List THand) (b : List THand) => [encLTHand a, encLTHand b]) x.1 x.2) u_).map nz = ((fun x => (fun (a : List THand) (b : List THand) => [encLTHand a, encLTHand b]) x.1 x.2) v_).map nz → u_ = v_ := by
  intro u_ v_ h
  obtain ⟨a, b⟩ := u_
  obtain ⟨a', b'⟩ := v_
  simp [nz_lit, nz1_lit, nz_agg, nz_sl, nz1_sl, encLTHand] at h
  first | (simp [h]; done) | (obtain ⟨⟩ := h; simp_all; done) | simp_all
@[simp] theorem c32_fn (a : List THand) (b : List THand) : c32.fn [.sl false 5 yTHand (ML encTHand a), .sl false 5 yTHand (ML encTHand b)] [] = some ((fun (a : List THand) (b : List THand) => a.length ≤ 1099511627776 ∧ b.length ≤ 1099511627776) a b, (fun (a : List THand) (b : List THand) => (dB (decide (a = b)) : D)) a b, (fun (a : List THand) (b : List THand) => []) a b) :=
  mkCon_fn (fun x y h _ => c32_inj x y h) ((a, b) : (List THand) × (List THand)) (by simp [nz, nz1, ML_nil, encLTHand]) rfl
@[simp] theorem c32_fn1 (s_a : Nat) (z_a : D) (b : List THand) : c32.fn [.sl false s_a z_a [], .sl false 5 yTHand (ML encTHand b)] [] = some ((fun (a : List THand) (b : List THand) => a.length ≤ 1099511627776 ∧ b.length ≤ 1099511627776) [] b, (fun (a : List THand) (b : List THand) => (dB (decide (a = b)) : D)) [] b, (fun (a : List THand) (b : List THand) => []) [] b) :=
  mkCon_fn (fun x y h _ => c32_inj x y h) (([], b) : (List THand) × (List THand)) (by simp [nz, nz1, ML_nil, encLTHand]) rfl
@[simp] theorem c32_fn2 (a : List THand) (s_b : Nat) (z_b : D) : c32.fn [.sl false 5 yTHand (ML encTHand a), .sl false s_b z_b []] [] = some ((fun (a : List THand) (b : List THand) => a.length ≤ 1099511627776 ∧ b.length ≤ 1099511627776) a [], (fun (a : List THand) (b : List THand) => (dB (decide (a = b)) : D)) a [], (fun (a : List THand) (b : List THand) => []) a []) :=
  mkCon_fn (fun x y h _ => c32_inj x y h) ((a, []) : (List THand) × (List THand)) (by simp [nz, nz1, ML_nil, encLTHand]) rfl
@[simp] theorem c32_fn3 (s_a : Nat) (z_a : D) (s_b : Nat) (z_b : D) : c32.fn [.sl false s_a z_a [], .sl false s_b z_b []] [] = some ((fun (a : List THand) (b : List THand) => a.length ≤ 1099511627776 ∧ b.length ≤ 1099511627776) [] [], (fun (a : List THand) (b : List THand) => (dB (decide (a = b)) : D)) [] [], (fun (a : List THand) (b : List THand) => []) [] []) :=
  mkCon_fn (fun x y h _ => c32_inj x y h) (([], []) : (List THand) × (List THand)) (by simp [nz, nz1, ML_nil, encLTHand]) rfl
theorem c32_pc (a : List THand) (b : List THand) (hpre : a.length ≤ 1099511627776 ∧ b.length ≤ 1099511627776) : PCo Try.prog 32 [encLTHand a, encLTHand b] (Tab.of []) (dB (decide (a = b))) (Tab.of []) := by
  refine pco_of_run [] (E := ⟨[c53], [], []⟩) (m := false) (base := 0) (Env.ok_cons c53_ok Env.ok_nil) G_ok mix 300 6 Try.func32 (by kernel_rfl) rfl (by kernel_rfl) (by kernel_rfl) rfl ?_
  simp [Try.f32]
  obtain ⟨pre1, pre2⟩ := hpre
  refine ⟨fun h => ?_, fun h => by intro e; subst e; exact absurd rfl h⟩
  refine loop_inv (fun p : Nat => p ≤ a.length ∧ a.take p = b.take p) (fun p => [(0, encLTHand a), (1, encLTHand b), (5, dI p)]) (fun _ => []) 1 (fun p => a.length - p) 0 100 (by simp) (by simp) (by simp) ?_
  intro p ⟨hp, hi⟩
  simp
  refine ⟨fun hlt => ⟨by omega, fun h2 => ⟨by omega, Again.mk (p + 1) ⟨by omega, take_eq_step hi (by omega) (by omega) h2⟩ (by simp) (by first | omega | (simp; omega))⟩, fun h2 => by intro e; subst e; exact absurd rfl h2⟩, fun hge => ?_⟩
  exact take_eq_full hi (by omega) (by omega)
theorem c32_ok : c32.ok Try.prog := mkCon_ok fun ⟨a, b⟩ hpre => c32_pc a b hpre
/-- loop.example/g03007/laws.eqEntryS -/
noncomputable def c33 : Con := mkCon 33 false (α := (List TEntry) × (List TEntry)) (fun x => (fun (a : List TEntry) (b : List TEntry) => [encLTEntry a, encLTEntry b]) x.1 x.2) (fun _ => []) (fun x => (fun (a : List TEntry) (b : List TEntry) => a.length ≤ 1099511627776 ∧ b.length ≤ 1099511627776) x.1 x.2) (fun x => (fun (a : List TEntry) (b : List TEntry) => (dB (decide (a = b)) : D)) x.1 x.2) (fun x => (fun (a : List TEntry) (b : List TEntry) => []) x.1 x.2)
@[simp] theorem c33_f : c33.f = 33 := rfl
@[simp] theorem c33_own : c33.own = false := rfl
theorem c33_inj : ∀ u_ v_ : (List TEntry) × (List TEntry), ((fun x => (fun (a : List TEntry) (b : List TEntry) => [encLTEntry a, encLTEntry b]) x.1 x.2) u_).map nz = ((fun x => (fun (a : List TEntry) (b : List TEntry) => [encLTEntry a, encLTEntry b]) x.1 x.2) v_).map nz → u_ = v_ := by
  intro u_ v_ h
  obtain ⟨a, b⟩ := u_
  obtain ⟨a', b'⟩ := v_
  simp [nz_lit, nz1_lit, nz_agg, nz_sl, nz1_sl, encLTEntry] at h
  first | (simp [h]; done) | (obtain ⟨⟩ := h; simp_all; done) | simp_all
@[simp] theorem c33_fn (a : List TEntry) (b : List TEntry) : c33.fn [.sl false 4 yTEntry (ML encTEntry a), .sl false 4 yTEntry (ML encTEntry b)] [] = some ((fun (a : List TEntry) (b : List TEntry) => a.length ≤ 1099511627776 ∧ b.length ≤ 1099511627776) a b, (fun (a : List TEntry) (b : List TEntry) => (dB (decide (a = b)) : D)) a b, (fun (a : List TEntry) (b : List TEntry) => []) a b) :=
  mkCon_fn (fun x y h _ => c33_inj x y h) ((a, b) : (List TEntry) × (List TEntry)) (by simp [nz, nz1, ML_nil, encLTEntry]) rfl
@[simp] theorem c33_fn1 (s_a : Nat) (z_a : D) (b : List TEntry) : c33.fn [.sl false s_a z_a [], .sl false 4 yTEntry (ML encTEntry b)] [] = some ((fun (a : List TEntry) (b : List TEntry) => a.length ≤ 1099511627776 ∧ b.length ≤ 1099511627776) [] b, (fun (a : List TEntry) (b : List TEntry) => (dB (decide (a = b)) : D)) [] b, (fun (a : List TEntry) (b : List TEntry) => []) [] b) :=
  mkCon_fn (fun x y h _ => c33_inj x y h) (([], b) : (List TEntry) × (List TEntry)) (by simp [nz, nz1, ML_nil, encLTEntry]) rfl
@[simp] theorem c33_fn2 (a : List TEntry) (s_b : Nat) (z_b : D) : c33.fn [.sl false 4 yTEntry (ML encTEntry a), .sl false s_b z_b []] [] = some ((fun (a : List TEntry) (b : List TEntry) => a.length ≤ 1099511627776 ∧ b.length ≤ 1099511627776) a [], (fun (a : List TEntry) (b : List TEntry) => (dB (decide (a = b)) : D)) a [], (fun (a : List TEntry) (b : List TEntry) => []) a []) :=
  mkCon_fn (fun x y h _ => c33_inj x y h) ((a, []) : (List TEntry) × (List TEntry)) (by simp [nz, nz1, ML_nil, encLTEntry]) rfl
@[simp] theorem c33_fn3 (s_a : Nat) (z_a : D) (s_b : Nat) (z_b : D) : c33.fn [.sl false s_a z_a [], .sl false s_b z_b []] [] = some ((fun (a : List TEntry) (b : List TEntry) => a.length ≤ 1099511627776 ∧ b.length ≤ 1099511627776) [] [], (fun (a : List TEntry) (b : List TEntry) => (dB (decide (a = b)) : D)) [] [], (fun (a : List TEntry) (b : List TEntry) => []) [] []) :=
  mkCon_fn (fun x y h _ => c33_inj x y h) (([], []) : (List TEntry) × (List TEntry)) (by simp [nz, nz1, ML_nil, encLTEntry]) rfl
theorem c33_pc (a : List TEntry) (b : List TEntry) (hpre : a.length ≤ 1099511627776 ∧ b.length ≤ 1099511627776) : PCo Try.prog 33 [encLTEntry a, encLTEntry b] (Tab.of []) (dB (decide (a = b))) (Tab.of []) := by
  refine pco_of_run [] (E := ⟨[c54], [], []⟩) (m := false) (base := 0) (Env.ok_cons c54_ok Env.ok_nil) G_ok mix 300 6 Try.func33 (by kernel_rfl) rfl (by kernel_rfl) (by kernel_rfl) rfl ?_
  simp [Try.f33]
  obtain ⟨pre1, pre2⟩ := hpre
  refine ⟨fun h => ?_, fun h => by intro e; subst e; exact absurd rfl h⟩
  refine loop_inv (fun p : Nat => p ≤ a.length ∧ a.take p = b.take p) (fun p => [(0, encLTEntry a), (1, encLTEntry b), (5, dI p)]) (fun _ => []) 1 (fun p => a.length - p) 0 100 (by simp) (by simp) (by simp) ?_
  intro p ⟨hp, hi⟩
  simp
  refine ⟨fun hlt => ⟨by omega, fun h2 => ⟨by omega, Again.mk (p + 1) ⟨by omega, take_eq_step hi (by omega) (by omega) h2⟩ (by simp) (by first | omega | (simp; omega))⟩, fun h2 => by intro e; subst e; exact absurd rfl h2⟩, fun hge => ?_⟩
  exact take_eq_full hi (by omega) (by omega)
theorem c33_ok : c33.ok Try.prog := mkCon_ok fun ⟨a, b⟩ hpre => c33_pc a b hpre
@[simp] def smH (h : THouse) : Prop := h.Finds.length ≤ 1073741823 ∧ (h.Secrets.length ≤ 1073741823 ∧ ∀ x ∈ h.Secrets, smS x) ∧ h.Slots.length ≤ 1073741823 ∧ h.Claims.length ≤ 1073741823 ∧ h.Trials.length ≤ 1073741823 ∧ h.Chain.length ≤ 1073741823 ∧ h.Book.length ≤ 1073741823
@[simp] def smHM (h : THouse) : Prop := h.Finds.length ≤ maxLen ∧ (h.Secrets.length ≤ maxLen ∧ ∀ x ∈ h.Secrets, x.Marks.length ≤ maxLen) ∧ h.Slots.length ≤ maxLen ∧ h.Claims.length ≤ maxLen ∧ h.Trials.length ≤ maxLen ∧ h.Chain.length ≤ maxLen ∧ h.Book.length ≤ maxLen
/-- loop.example/g03007/laws.toHouse -/
noncomputable def c6 : Con := mkCon 6 false (α := THouse) (fun x => (fun (h : THouse) => [encTHouse h]) x) (fun _ => []) (fun x => (fun (h : THouse) => smH h) x) (fun x => (fun (h : THouse) => (encTHouse h : D)) x) (fun x => (fun (h : THouse) => []) x)
@[simp] theorem c6_f : c6.f = 6 := rfl
@[simp] theorem c6_own : c6.own = false := rfl
theorem c6_inj : ∀ u_ v_ : THouse, ((fun x => (fun (h : THouse) => [encTHouse h]) x) u_).map nz = ((fun x => (fun (h : THouse) => [encTHouse h]) x) v_).map nz → u_ = v_ := by
  intro u_ v_ h
  obtain ⟨h_No, h_Finds, h_Secrets, h_Slots, h_Claims, h_Trials, h_Chain, h_Book, h_Now⟩ := u_
  obtain ⟨h_No', h_Finds', h_Secrets', h_Slots', h_Claims', h_Trials', h_Chain', h_Book', h_Now'⟩ := v_
  simp [nz_lit, nz1_lit, nz_agg, nz_sl, nz1_sl, encLTClaim, encLTEntry, encLTFind, encLTHand, encLTSecret, encLTSlot, encLTTrial, encTHouse] at h
  first | (simp [h]; done) | (obtain ⟨⟩ := h; simp_all; done) | simp_all
@[simp] theorem c6_fn (h_No : Int) (h_Finds : List TFind) (h_Secrets : List TSecret) (h_Slots : List TSlot) (h_Claims : List TClaim) (h_Trials : List TTrial) (h_Chain : List THand) (h_Book : List TEntry) (h_Now : Int) : c6.fn [.agg [.lit (.int .i64 h_No), .sl false 8 yTFind (ML encTFind h_Finds), .sl false 3 yTSecret (ML encTSecret h_Secrets), .sl false 3 yTSlot (ML encTSlot h_Slots), .sl false 5 yTClaim (ML encTClaim h_Claims), .sl false 4 yTTrial (ML encTTrial h_Trials), .sl false 5 yTHand (ML encTHand h_Chain), .sl false 4 yTEntry (ML encTEntry h_Book), .lit (.int .i64 h_Now)]] [] = some ((fun (h : THouse) => smH h) ⟨h_No, h_Finds, h_Secrets, h_Slots, h_Claims, h_Trials, h_Chain, h_Book, h_Now⟩, (fun (h : THouse) => (encTHouse h : D)) ⟨h_No, h_Finds, h_Secrets, h_Slots, h_Claims, h_Trials, h_Chain, h_Book, h_Now⟩, (fun (h : THouse) => []) ⟨h_No, h_Finds, h_Secrets, h_Slots, h_Claims, h_Trials, h_Chain, h_Book, h_Now⟩) :=
  mkCon_fn (fun x y h _ => c6_inj x y h) (⟨h_No, h_Finds, h_Secrets, h_Slots, h_Claims, h_Trials, h_Chain, h_Book, h_Now⟩ : THouse) (by simp [nz, nz1, ML_nil, encLTClaim, encLTEntry, encLTFind, encLTHand, encLTSecret, encLTSlot, encLTTrial, encTHouse]) rfl
theorem c6_pc (h : THouse) (hpre : smH h) : PCo Try.prog 6 [encTHouse h] (Tab.of []) (encTHouse h) (Tab.of []) := by
  obtain ⟨h_No, h_Finds, h_Secrets, h_Slots, h_Claims, h_Trials, h_Chain, h_Book, h_Now⟩ := h
  refine pco_of_run [] (E := ⟨[c18, c19, c20, c21, c22, c23, c24], [], []⟩) (m := false) (base := 0) (Env.ok_cons c18_ok (Env.ok_cons c19_ok (Env.ok_cons c20_ok (Env.ok_cons c21_ok (Env.ok_cons c22_ok (Env.ok_cons c23_ok (Env.ok_cons c24_ok Env.ok_nil))))))) G_ok mix 300 6 Try.func6 (by kernel_rfl) rfl (by kernel_rfl) (by kernel_rfl) rfl ?_
  simp [Try.f6]
  simp at hpre
  obtain ⟨h1, ⟨h2, h3⟩, h4, h5, h6, h7, h8⟩ := hpre
  repeat' (first | exact h3 | omega | refine And.intro ?_ ?_ | intro _)
theorem c6_ok : c6.ok Try.prog := mkCon_ok fun h hpre => c6_pc h hpre
/-- loop.example/g03007/laws.eqHouse -/
noncomputable def c8 : Con := mkCon 8 false (α := THouse × THouse) (fun x => (fun (a : THouse) (b : THouse) => [encTHouse a, encTHouse b]) x.1 x.2) (fun _ => []) (fun x => (fun (a : THouse) (b : THouse) => smH a ∧ smH b) x.1 x.2) (fun x => (fun (a : THouse) (b : THouse) => (dB (decide (a = b)) : D)) x.1 x.2) (fun x => (fun (a : THouse) (b : THouse) => []) x.1 x.2)
@[simp] theorem c8_f : c8.f = 8 := rfl
@[simp] theorem c8_own : c8.own = false := rfl
theorem c8_inj : ∀ u_ v_ : THouse × THouse, ((fun x => (fun (a : THouse) (b : THouse) => [encTHouse a, encTHouse b]) x.1 x.2) u_).map nz = ((fun x => (fun (a : THouse) (b : THouse) => [encTHouse a, encTHouse b]) x.1 x.2) v_).map nz → u_ = v_ := by
  intro u_ v_ h
  obtain ⟨⟨a_No, a_Finds, a_Secrets, a_Slots, a_Claims, a_Trials, a_Chain, a_Book, a_Now⟩, ⟨b_No, b_Finds, b_Secrets, b_Slots, b_Claims, b_Trials, b_Chain, b_Book, b_Now⟩⟩ := u_
  obtain ⟨⟨a_No', a_Finds', a_Secrets', a_Slots', a_Claims', a_Trials', a_Chain', a_Book', a_Now'⟩, ⟨b_No', b_Finds', b_Secrets', b_Slots', b_Claims', b_Trials', b_Chain', b_Book', b_Now'⟩⟩ := v_
  simp [nz_lit, nz1_lit, nz_agg, nz_sl, nz1_sl, encLTClaim, encLTEntry, encLTFind, encLTHand, encLTSecret, encLTSlot, encLTTrial, encTHouse] at h
  first | (simp [h]; done) | (obtain ⟨⟩ := h; simp_all; done) | simp_all
@[simp] theorem c8_fn (a_No : Int) (a_Finds : List TFind) (a_Secrets : List TSecret) (a_Slots : List TSlot) (a_Claims : List TClaim) (a_Trials : List TTrial) (a_Chain : List THand) (a_Book : List TEntry) (a_Now : Int) (b_No : Int) (b_Finds : List TFind) (b_Secrets : List TSecret) (b_Slots : List TSlot) (b_Claims : List TClaim) (b_Trials : List TTrial) (b_Chain : List THand) (b_Book : List TEntry) (b_Now : Int) : c8.fn [.agg [.lit (.int .i64 a_No), .sl false 8 yTFind (ML encTFind a_Finds), .sl false 3 yTSecret (ML encTSecret a_Secrets), .sl false 3 yTSlot (ML encTSlot a_Slots), .sl false 5 yTClaim (ML encTClaim a_Claims), .sl false 4 yTTrial (ML encTTrial a_Trials), .sl false 5 yTHand (ML encTHand a_Chain), .sl false 4 yTEntry (ML encTEntry a_Book), .lit (.int .i64 a_Now)], .agg [.lit (.int .i64 b_No), .sl false 8 yTFind (ML encTFind b_Finds), .sl false 3 yTSecret (ML encTSecret b_Secrets), .sl false 3 yTSlot (ML encTSlot b_Slots), .sl false 5 yTClaim (ML encTClaim b_Claims), .sl false 4 yTTrial (ML encTTrial b_Trials), .sl false 5 yTHand (ML encTHand b_Chain), .sl false 4 yTEntry (ML encTEntry b_Book), .lit (.int .i64 b_Now)]] [] = some ((fun (a : THouse) (b : THouse) => smH a ∧ smH b) ⟨a_No, a_Finds, a_Secrets, a_Slots, a_Claims, a_Trials, a_Chain, a_Book, a_Now⟩ ⟨b_No, b_Finds, b_Secrets, b_Slots, b_Claims, b_Trials, b_Chain, b_Book, b_Now⟩, (fun (a : THouse) (b : THouse) => (dB (decide (a = b)) : D)) ⟨a_No, a_Finds, a_Secrets, a_Slots, a_Claims, a_Trials, a_Chain, a_Book, a_Now⟩ ⟨b_No, b_Finds, b_Secrets, b_Slots, b_Claims, b_Trials, b_Chain, b_Book, b_Now⟩, (fun (a : THouse) (b : THouse) => []) ⟨a_No, a_Finds, a_Secrets, a_Slots, a_Claims, a_Trials, a_Chain, a_Book, a_Now⟩ ⟨b_No, b_Finds, b_Secrets, b_Slots, b_Claims, b_Trials, b_Chain, b_Book, b_Now⟩) :=
  mkCon_fn (fun x y h _ => c8_inj x y h) ((⟨a_No, a_Finds, a_Secrets, a_Slots, a_Claims, a_Trials, a_Chain, a_Book, a_Now⟩, ⟨b_No, b_Finds, b_Secrets, b_Slots, b_Claims, b_Trials, b_Chain, b_Book, b_Now⟩) : THouse × THouse) (by simp [nz, nz1, ML_nil, encLTClaim, encLTEntry, encLTFind, encLTHand, encLTSecret, encLTSlot, encLTTrial, encTHouse]) rfl
theorem c8_pc (a : THouse) (b : THouse) (hpre : smH a ∧ smH b) : PCo Try.prog 8 [encTHouse a, encTHouse b] (Tab.of []) (dB (decide (a = b))) (Tab.of []) := by
  obtain ⟨a_No, a_Finds, a_Secrets, a_Slots, a_Claims, a_Trials, a_Chain, a_Book, a_Now⟩ := a
  obtain ⟨b_No, b_Finds, b_Secrets, b_Slots, b_Claims, b_Trials, b_Chain, b_Book, b_Now⟩ := b
  refine pco_of_run [] (E := ⟨[c27, c28, c29, c30, c31, c32, c33], [], []⟩) (m := false) (base := 0) (Env.ok_cons c27_ok (Env.ok_cons c28_ok (Env.ok_cons c29_ok (Env.ok_cons c30_ok (Env.ok_cons c31_ok (Env.ok_cons c32_ok (Env.ok_cons c33_ok Env.ok_nil))))))) G_ok mix 300 6 Try.func8 (by kernel_rfl) rfl (by kernel_rfl) (by kernel_rfl) rfl ?_
  simp [Try.f8]
  simp at hpre
  obtain ⟨⟨h1, ⟨h2, h3⟩, h4, h5, h6, h7, h8⟩, k1, ⟨k2, k3⟩, k4, k5, k6, k7, k8⟩ := hpre
  repeat' (first | exact h3 | exact k3 | omega | refine And.intro ?_ ?_ | intro _)
  all_goals first | grind | trace_state
theorem c8_ok : c8.ok Try.prog := mkCon_ok fun ⟨a, b⟩ hpre => c8_pc a b hpre
def sz1 (n : Nat) (q : Int) : Int := if q - n < 0 then -1 else q - n
def thenS (q : Int) (f : Int → Int) : Int := if q < 0 then -1 else f q
def szHo (h : THouse) (q : Int) : Int := thenS (sz1 h.Finds.length q) fun a => thenS (szDeep szSec h.Secrets a) fun b => thenS (sz1 h.Slots.length b) fun c => thenS (sz1 h.Claims.length c) fun d => thenS (sz1 h.Trials.length d) fun e => thenS (sz1 h.Chain.length e) fun f => thenS (sz1 h.Book.length f) fun g => g
theorem sz1_ok {n : Nat} {q : Int} (h : 0 ≤ sz1 n q) : n ≤ q ∧ sz1 n q ≤ q := by
  simp only [sz1] at h ⊢; split at h <;> rename_i h2
  · omega
  · rw [if_neg h2]; omega
theorem thenS_ok {q : Int} {f : Int → Int} (h : 0 ≤ thenS q f) : 0 ≤ q ∧ 0 ≤ f q ∧ thenS q f = f q := by
  simp only [thenS] at h ⊢; split at h <;> rename_i h2
  · omega
  · rw [if_neg h2]; omega
theorem szHo_ok {h : THouse} {q : Int} (h0 : 0 ≤ szHo h q) : szHo h q ≤ q ∧ h.Finds.length ≤ q ∧ (h.Secrets.length ≤ q ∧ ∀ x ∈ h.Secrets, (x.Marks.length : Int) ≤ q) ∧ h.Slots.length ≤ q ∧ h.Claims.length ≤ q ∧ h.Trials.length ≤ q ∧ h.Chain.length ≤ q ∧ h.Book.length ≤ q := by
  simp only [szHo] at h0 ⊢
  have a := thenS_ok h0; rw [a.2.2]; have a1 := sz1_ok a.1
  have b := thenS_ok a.2.1; rw [b.2.2]; have b1 := szSS_ok b.1
  have c := thenS_ok b.2.1; rw [c.2.2]; have c1 := sz1_ok c.1
  have d := thenS_ok c.2.1; rw [d.2.2]; have d1 := sz1_ok d.1
  have e := thenS_ok d.2.1; rw [e.2.2]; have e1 := sz1_ok e.1
  have f := thenS_ok e.2.1; rw [f.2.2]; have f1 := sz1_ok f.1
  have g := thenS_ok f.2.1; rw [g.2.2]; have g1 := sz1_ok g.1
  refine ⟨by omega, by omega, ⟨by omega, fun x hx => ?_⟩, by omega, by omega, by omega, by omega, by omega⟩
  have := b1.2.2 x hx; omega
theorem if_sz1 (n : Nat) (q : Int) : (if q - n < 0 then -1 else q - n) = sz1 n q := rfl
/-- loop.example/g03007/laws.szHouse -/
noncomputable def c4 : Con := mkCon 4 false (α := THouse × Int) (fun x => (fun (h : THouse) (q : Int) => [encTHouse h, dI q]) x.1 x.2) (fun _ => []) (fun x => (fun (h : THouse) (q : Int) => smHM h ∧ 0 ≤ q ∧ q ≤ 1099511627776) x.1 x.2) (fun x => (fun (h : THouse) (q : Int) => (dI (szHo h q) : D)) x.1 x.2) (fun x => (fun (h : THouse) (q : Int) => []) x.1 x.2)
@[simp] theorem c4_f : c4.f = 4 := rfl
@[simp] theorem c4_own : c4.own = false := rfl
theorem c4_inj : ∀ u_ v_ : THouse × Int, ((fun x => (fun (h : THouse) (q : Int) => [encTHouse h, dI q]) x.1 x.2) u_).map nz = ((fun x => (fun (h : THouse) (q : Int) => [encTHouse h, dI q]) x.1 x.2) v_).map nz → u_ = v_ := by
  intro u_ v_ h
  obtain ⟨⟨h_No, h_Finds, h_Secrets, h_Slots, h_Claims, h_Trials, h_Chain, h_Book, h_Now⟩, q⟩ := u_
  obtain ⟨⟨h_No', h_Finds', h_Secrets', h_Slots', h_Claims', h_Trials', h_Chain', h_Book', h_Now'⟩, q'⟩ := v_
  simp [nz_lit, nz1_lit, nz_agg, nz_sl, nz1_sl, encLTClaim, encLTEntry, encLTFind, encLTHand, encLTSecret, encLTSlot, encLTTrial, encTHouse] at h
  first | (simp [h]; done) | (obtain ⟨⟩ := h; simp_all; done) | simp_all
@[simp] theorem c4_fn (h_No : Int) (h_Finds : List TFind) (h_Secrets : List TSecret) (h_Slots : List TSlot) (h_Claims : List TClaim) (h_Trials : List TTrial) (h_Chain : List THand) (h_Book : List TEntry) (h_Now : Int) (q : Int) : c4.fn [.agg [.lit (.int .i64 h_No), .sl false 8 yTFind (ML encTFind h_Finds), .sl false 3 yTSecret (ML encTSecret h_Secrets), .sl false 3 yTSlot (ML encTSlot h_Slots), .sl false 5 yTClaim (ML encTClaim h_Claims), .sl false 4 yTTrial (ML encTTrial h_Trials), .sl false 5 yTHand (ML encTHand h_Chain), .sl false 4 yTEntry (ML encTEntry h_Book), .lit (.int .i64 h_Now)], .lit (.int .i64 q)] [] = some ((fun (h : THouse) (q : Int) => smHM h ∧ 0 ≤ q ∧ q ≤ 1099511627776) ⟨h_No, h_Finds, h_Secrets, h_Slots, h_Claims, h_Trials, h_Chain, h_Book, h_Now⟩ q, (fun (h : THouse) (q : Int) => (dI (szHo h q) : D)) ⟨h_No, h_Finds, h_Secrets, h_Slots, h_Claims, h_Trials, h_Chain, h_Book, h_Now⟩ q, (fun (h : THouse) (q : Int) => []) ⟨h_No, h_Finds, h_Secrets, h_Slots, h_Claims, h_Trials, h_Chain, h_Book, h_Now⟩ q) :=
  mkCon_fn (fun x y h _ => c4_inj x y h) ((⟨h_No, h_Finds, h_Secrets, h_Slots, h_Claims, h_Trials, h_Chain, h_Book, h_Now⟩, q) : THouse × Int) (by simp [nz, nz1, ML_nil, encLTClaim, encLTEntry, encLTFind, encLTHand, encLTSecret, encLTSlot, encLTTrial, encTHouse]) rfl
theorem c4_pc (h : THouse) (q : Int) (hpre : smHM h ∧ 0 ≤ q ∧ q ≤ 1099511627776) : PCo Try.prog 4 [encTHouse h, dI q] (Tab.of []) (dI (szHo h q)) (Tab.of []) := by
  refine pco_of_run [] (E := ⟨[c9, c10, c11, c12, c13, c14, c15], [], []⟩) (m := false) (base := 0) (Env.ok_cons c9_ok (Env.ok_cons c10_ok (Env.ok_cons c11_ok (Env.ok_cons c12_ok (Env.ok_cons c13_ok (Env.ok_cons c14_ok (Env.ok_cons c15_ok Env.ok_nil))))))) G_ok mix 300 6 Try.func4 (by kernel_rfl) rfl (by kernel_rfl) (by kernel_rfl) rfl ?_
  simp at hpre
  obtain ⟨⟨h1, ⟨h2, h3⟩, h4, h5, h6, h7, h8⟩, h9, h10⟩ := hpre
  have hn1 : ∀ n q, 0 ≤ sz1 n q → sz1 n q ≤ q := fun n q h => (sz1_ok h).2
  have hn2 : ∀ l q, 0 ≤ szDeep szSec l q → szDeep szSec l q ≤ q := fun l q h => (szSS_ok h).2.1
  simp [Try.f4, if_sz1]
  refine ⟨⟨h1, h9, h10⟩, fun x => ?_, fun x1 => ⟨⟨h2, h3, x1, by have := hn1 _ _ x1; omega⟩, fun x => ?_, fun x2 => ⟨⟨h4, x2, by have := hn1 _ _ x1; have := hn2 _ _ x2; omega⟩, fun x => ?_, fun x3 => ⟨⟨h5, x3, by have := hn1 _ _ x1; have := hn2 _ _ x2; have := hn1 _ _ x3; omega⟩, fun x => ?_, fun x4 => ⟨⟨h6, x4, by have := hn1 _ _ x1; have := hn2 _ _ x2; have := hn1 _ _ x3; have := hn1 _ _ x4; omega⟩, fun x => ?_, fun x5 => ⟨⟨h7, x5, by have := hn1 _ _ x1; have := hn2 _ _ x2; have := hn1 _ _ x3; have := hn1 _ _ x4; have := hn1 _ _ x5; omega⟩, fun x => ?_, fun x6 => ⟨⟨h8, x6, by have := hn1 _ _ x1; have := hn2 _ _ x2; have := hn1 _ _ x3; have := hn1 _ _ x4; have := hn1 _ _ x5; have := hn1 _ _ x6; omega⟩, ?_⟩⟩⟩⟩⟩⟩⟩
  all_goals simp only [szHo, thenS]
  all_goals grind
theorem c4_ok : c4.ok Try.prog := mkCon_ok fun ⟨h, q⟩ hpre => c4_pc h q hpre

end Go.Proofs.Ytnncheloiiannaa
