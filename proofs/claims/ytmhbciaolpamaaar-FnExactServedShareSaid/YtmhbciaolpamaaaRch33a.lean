/- Contracts of the functions that the laws run. -/
import Derived.Test.YtmhbciaolpamaaaRch31b
import Derived.Test.YtmhbciaolpamaaaRch06
import Derived.Test.YtmhbciaolpamaaaRhelpA
import Derived.Test.YtmhbciaolpamaaaRgen
import Derived.Test.YtmhbciaolpamaaaREngB
namespace Go.Proofs.YtmhbciaolpamaaaR
open Go Go.Eng
set_option linter.unusedSimpArgs false
set_option linter.unusedVariables false
set_option maxRecDepth 10000
set_option maxHeartbeats 1000000
/-- loop.example/g03007/laws.toSlot -/
noncomputable def c211 : Con := mkCon 211 false (α := TSlot) (fun x => (fun (a : TSlot) => [encTSlot a]) x) (fun _ => []) (fun x => (fun (a : TSlot) => True) x) (fun x => (fun (a : TSlot) => (encTSlot a : D)) x) (fun x => (fun (a : TSlot) => []) x)
@[simp] theorem c211_f : c211.f = 211 := rfl
@[simp] theorem c211_own : c211.own = false := rfl
theorem c211_inj : ∀ u_ v_ : TSlot, ((fun x => (fun (a : TSlot) => [encTSlot a]) x) u_).map nz = ((fun x => (fun (a : TSlot) => [encTSlot a]) x) v_).map nz → u_ = v_ := by
  intro u_ v_ h
  obtain ⟨a_Id, a_Size, a_Thing⟩ := u_
  obtain ⟨a_Id', a_Size', a_Thing'⟩ := v_
  simp [nz_lit, nz1_lit, nz_agg, nz_sl, nz1_sl, encTSlot] at h
  first | (simp [h]; done) | (obtain ⟨⟩ := h; simp_all; done) | simp_all
@[simp] theorem c211_fn (a_Id : Int) (a_Size : Int) (a_Thing : Int) : c211.fn [.agg [.lit (.int .i64 a_Id), .lit (.int .i64 a_Size), .lit (.int .i64 a_Thing)]] [] = some ((fun (a : TSlot) => True) ⟨a_Id, a_Size, a_Thing⟩, (fun (a : TSlot) => (encTSlot a : D)) ⟨a_Id, a_Size, a_Thing⟩, (fun (a : TSlot) => []) ⟨a_Id, a_Size, a_Thing⟩) :=
  mkCon_fn (fun x y h _ => c211_inj x y h) (⟨a_Id, a_Size, a_Thing⟩ : TSlot) (by simp [nz, nz1, ML_nil, encTSlot]) rfl
theorem c211_pc (a : TSlot) : PCo Try.prog 211 [encTSlot a] (Tab.of []) (encTSlot a) (Tab.of []) := by
  obtain ⟨a_Id, a_Size, a_Thing⟩ := a
  refine pco_of_run [] (E := ⟨[], []⟩) (m := false) (base := 0) Env.ok_nil G_ok mix 300 6 Try.func211 (by kernel_rfl) rfl (by kernel_rfl) (by kernel_rfl) rfl ?_
  simp [Try.f211]
  all_goals first | omega | (rw [Bool.eq_iff_iff]; simp; omega) | grind
theorem c211_ok : c211.ok Try.prog := mkCon_ok fun a hpre => c211_pc a
/-- loop.example/g03007/laws.eqSlot -/
noncomputable def c218 : Con := mkCon 218 false (α := TSlot × TSlot) (fun x => (fun (a : TSlot) (b : TSlot) => [encTSlot a, encTSlot b]) x.1 x.2) (fun _ => []) (fun x => (fun (a : TSlot) (b : TSlot) => True) x.1 x.2) (fun x => (fun (a : TSlot) (b : TSlot) => (dB (decide (a = b)) : D)) x.1 x.2) (fun x => (fun (a : TSlot) (b : TSlot) => []) x.1 x.2)
@[simp] theorem c218_f : c218.f = 218 := rfl
@[simp] theorem c218_own : c218.own = false := rfl
theorem c218_inj : ∀ u_ v_ : TSlot × TSlot, ((fun x => (fun (a : TSlot) (b : TSlot) => [encTSlot a, encTSlot b]) x.1 x.2) u_).map nz = ((fun x => (fun (a : TSlot) (b : TSlot) => [encTSlot a, encTSlot b]) x.1 x.2) v_).map nz → u_ = v_ := by
  intro u_ v_ h
  obtain ⟨⟨a_Id, a_Size, a_Thing⟩, ⟨b_Id, b_Size, b_Thing⟩⟩ := u_
  obtain ⟨⟨a_Id', a_Size', a_Thing'⟩, ⟨b_Id', b_Size', b_Thing'⟩⟩ := v_
  simp [nz_lit, nz1_lit, nz_agg, nz_sl, nz1_sl, encTSlot] at h
  first | (simp [h]; done) | (obtain ⟨⟩ := h; simp_all; done) | simp_all
@[simp] theorem c218_fn (a_Id : Int) (a_Size : Int) (a_Thing : Int) (b_Id : Int) (b_Size : Int) (b_Thing : Int) : c218.fn [.agg [.lit (.int .i64 a_Id), .lit (.int .i64 a_Size), .lit (.int .i64 a_Thing)], .agg [.lit (.int .i64 b_Id), .lit (.int .i64 b_Size), .lit (.int .i64 b_Thing)]] [] = some ((fun (a : TSlot) (b : TSlot) => True) ⟨a_Id, a_Size, a_Thing⟩ ⟨b_Id, b_Size, b_Thing⟩, (fun (a : TSlot) (b : TSlot) => (dB (decide (a = b)) : D)) ⟨a_Id, a_Size, a_Thing⟩ ⟨b_Id, b_Size, b_Thing⟩, (fun (a : TSlot) (b : TSlot) => []) ⟨a_Id, a_Size, a_Thing⟩ ⟨b_Id, b_Size, b_Thing⟩) :=
  mkCon_fn (fun x y h _ => c218_inj x y h) ((⟨a_Id, a_Size, a_Thing⟩, ⟨b_Id, b_Size, b_Thing⟩) : TSlot × TSlot) (by simp [nz, nz1, ML_nil, encTSlot]) rfl
theorem c218_pc (a : TSlot) (b : TSlot) : PCo Try.prog 218 [encTSlot a, encTSlot b] (Tab.of []) (dB (decide (a = b))) (Tab.of []) := by
  obtain ⟨a_Id, a_Size, a_Thing⟩ := a
  obtain ⟨b_Id, b_Size, b_Thing⟩ := b
  refine pco_of_run [] (E := ⟨[], []⟩) (m := false) (base := 0) Env.ok_nil G_ok mix 300 6 Try.func218 (by kernel_rfl) rfl (by kernel_rfl) (by kernel_rfl) rfl ?_
  simp [Try.f218]
  all_goals first | omega | (rw [Bool.eq_iff_iff]; simp; omega) | grind
theorem c218_ok : c218.ok Try.prog := mkCon_ok fun ⟨a, b⟩ hpre => c218_pc a b
/-- loop.example/g03007/laws.toClaim -/
noncomputable def c212 : Con := mkCon 212 false (α := TClaim) (fun x => (fun (a : TClaim) => [encTClaim a]) x) (fun _ => []) (fun x => (fun (a : TClaim) => True) x) (fun x => (fun (a : TClaim) => (encTClaim a : D)) x) (fun x => (fun (a : TClaim) => []) x)
@[simp] theorem c212_f : c212.f = 212 := rfl
@[simp] theorem c212_own : c212.own = false := rfl
theorem c212_inj : ∀ u_ v_ : TClaim, ((fun x => (fun (a : TClaim) => [encTClaim a]) x) u_).map nz = ((fun x => (fun (a : TClaim) => [encTClaim a]) x) v_).map nz → u_ = v_ := by
  intro u_ v_ h
  obtain ⟨a_Id, a_Who, a_Thing, a_At, a_State⟩ := u_
  obtain ⟨a_Id', a_Who', a_Thing', a_At', a_State'⟩ := v_
  simp [nz_lit, nz1_lit, nz_agg, nz_sl, nz1_sl, encTClaim] at h
  first | (simp [h]; done) | (obtain ⟨⟩ := h; simp_all; done) | simp_all
@[simp] theorem c212_fn (a_Id : Int) (a_Who : Int) (a_Thing : Int) (a_At : Int) (a_State : Int) : c212.fn [.agg [.lit (.int .i64 a_Id), .lit (.int .i64 a_Who), .lit (.int .i64 a_Thing), .lit (.int .i64 a_At), .lit (.int .i64 a_State)]] [] = some ((fun (a : TClaim) => True) ⟨a_Id, a_Who, a_Thing, a_At, a_State⟩, (fun (a : TClaim) => (encTClaim a : D)) ⟨a_Id, a_Who, a_Thing, a_At, a_State⟩, (fun (a : TClaim) => []) ⟨a_Id, a_Who, a_Thing, a_At, a_State⟩) :=
  mkCon_fn (fun x y h _ => c212_inj x y h) (⟨a_Id, a_Who, a_Thing, a_At, a_State⟩ : TClaim) (by simp [nz, nz1, ML_nil, encTClaim]) rfl
theorem c212_pc (a : TClaim) : PCo Try.prog 212 [encTClaim a] (Tab.of []) (encTClaim a) (Tab.of []) := by
  obtain ⟨a_Id, a_Who, a_Thing, a_At, a_State⟩ := a
  refine pco_of_run [] (E := ⟨[], []⟩) (m := false) (base := 0) Env.ok_nil G_ok mix 300 6 Try.func212 (by kernel_rfl) rfl (by kernel_rfl) (by kernel_rfl) rfl ?_
  simp [Try.f212]
  all_goals first | omega | (rw [Bool.eq_iff_iff]; simp; omega) | grind
theorem c212_ok : c212.ok Try.prog := mkCon_ok fun a hpre => c212_pc a
/-- loop.example/g03007/laws.eqClaim -/
noncomputable def c219 : Con := mkCon 219 false (α := TClaim × TClaim) (fun x => (fun (a : TClaim) (b : TClaim) => [encTClaim a, encTClaim b]) x.1 x.2) (fun _ => []) (fun x => (fun (a : TClaim) (b : TClaim) => True) x.1 x.2) (fun x => (fun (a : TClaim) (b : TClaim) => (dB (decide (a = b)) : D)) x.1 x.2) (fun x => (fun (a : TClaim) (b : TClaim) => []) x.1 x.2)
@[simp] theorem c219_f : c219.f = 219 := rfl
@[simp] theorem c219_own : c219.own = false := rfl
theorem c219_inj : ∀ u_ v_ : TClaim × TClaim, ((fun x => (fun (a : TClaim) (b : TClaim) => [encTClaim a, encTClaim b]) x.1 x.2) u_).map nz = ((fun x => (fun (a : TClaim) (b : TClaim) => [encTClaim a, encTClaim b]) x.1 x.2) v_).map nz → u_ = v_ := by
  intro u_ v_ h
  obtain ⟨⟨a_Id, a_Who, a_Thing, a_At, a_State⟩, ⟨b_Id, b_Who, b_Thing, b_At, b_State⟩⟩ := u_
  obtain ⟨⟨a_Id', a_Who', a_Thing', a_At', a_State'⟩, ⟨b_Id', b_Who', b_Thing', b_At', b_State'⟩⟩ := v_
  simp [nz_lit, nz1_lit, nz_agg, nz_sl, nz1_sl, encTClaim] at h
  first | (simp [h]; done) | (obtain ⟨⟩ := h; simp_all; done) | simp_all
@[simp] theorem c219_fn (a_Id : Int) (a_Who : Int) (a_Thing : Int) (a_At : Int) (a_State : Int) (b_Id : Int) (b_Who : Int) (b_Thing : Int) (b_At : Int) (b_State : Int) : c219.fn [.agg [.lit (.int .i64 a_Id), .lit (.int .i64 a_Who), .lit (.int .i64 a_Thing), .lit (.int .i64 a_At), .lit (.int .i64 a_State)], .agg [.lit (.int .i64 b_Id), .lit (.int .i64 b_Who), .lit (.int .i64 b_Thing), .lit (.int .i64 b_At), .lit (.int .i64 b_State)]] [] = some ((fun (a : TClaim) (b : TClaim) => True) ⟨a_Id, a_Who, a_Thing, a_At, a_State⟩ ⟨b_Id, b_Who, b_Thing, b_At, b_State⟩, (fun (a : TClaim) (b : TClaim) => (dB (decide (a = b)) : D)) ⟨a_Id, a_Who, a_Thing, a_At, a_State⟩ ⟨b_Id, b_Who, b_Thing, b_At, b_State⟩, (fun (a : TClaim) (b : TClaim) => []) ⟨a_Id, a_Who, a_Thing, a_At, a_State⟩ ⟨b_Id, b_Who, b_Thing, b_At, b_State⟩) :=
  mkCon_fn (fun x y h _ => c219_inj x y h) ((⟨a_Id, a_Who, a_Thing, a_At, a_State⟩, ⟨b_Id, b_Who, b_Thing, b_At, b_State⟩) : TClaim × TClaim) (by simp [nz, nz1, ML_nil, encTClaim]) rfl
theorem c219_pc (a : TClaim) (b : TClaim) : PCo Try.prog 219 [encTClaim a, encTClaim b] (Tab.of []) (dB (decide (a = b))) (Tab.of []) := by
  obtain ⟨a_Id, a_Who, a_Thing, a_At, a_State⟩ := a
  obtain ⟨b_Id, b_Who, b_Thing, b_At, b_State⟩ := b
  refine pco_of_run [] (E := ⟨[], []⟩) (m := false) (base := 0) Env.ok_nil G_ok mix 300 6 Try.func219 (by kernel_rfl) rfl (by kernel_rfl) (by kernel_rfl) rfl ?_
  simp [Try.f219]
  all_goals first | omega | (rw [Bool.eq_iff_iff]; simp; omega) | grind
theorem c219_ok : c219.ok Try.prog := mkCon_ok fun ⟨a, b⟩ hpre => c219_pc a b
/-- loop.example/g03007/laws.toTrial -/
noncomputable def c213 : Con := mkCon 213 false (α := TTrial) (fun x => (fun (a : TTrial) => [encTTrial a]) x) (fun _ => []) (fun x => (fun (a : TTrial) => True) x) (fun x => (fun (a : TTrial) => (encTTrial a : D)) x) (fun x => (fun (a : TTrial) => []) x)
@[simp] theorem c213_f : c213.f = 213 := rfl
@[simp] theorem c213_own : c213.own = false := rfl
theorem c213_inj : ∀ u_ v_ : TTrial, ((fun x => (fun (a : TTrial) => [encTTrial a]) x) u_).map nz = ((fun x => (fun (a : TTrial) => [encTTrial a]) x) v_).map nz → u_ = v_ := by
  intro u_ v_ h
  obtain ⟨a_Claim, a_Asked, a_Right, a_Wrong⟩ := u_
  obtain ⟨a_Claim', a_Asked', a_Right', a_Wrong'⟩ := v_
  simp [nz_lit, nz1_lit, nz_agg, nz_sl, nz1_sl, encTTrial] at h
  first | (simp [h]; done) | (obtain ⟨⟩ := h; simp_all; done) | simp_all
@[simp] theorem c213_fn (a_Claim : Int) (a_Asked : Int) (a_Right : Int) (a_Wrong : Int) : c213.fn [.agg [.lit (.int .i64 a_Claim), .lit (.int .i64 a_Asked), .lit (.int .i64 a_Right), .lit (.int .i64 a_Wrong)]] [] = some ((fun (a : TTrial) => True) ⟨a_Claim, a_Asked, a_Right, a_Wrong⟩, (fun (a : TTrial) => (encTTrial a : D)) ⟨a_Claim, a_Asked, a_Right, a_Wrong⟩, (fun (a : TTrial) => []) ⟨a_Claim, a_Asked, a_Right, a_Wrong⟩) :=
  mkCon_fn (fun x y h _ => c213_inj x y h) (⟨a_Claim, a_Asked, a_Right, a_Wrong⟩ : TTrial) (by simp [nz, nz1, ML_nil, encTTrial]) rfl
theorem c213_pc (a : TTrial) : PCo Try.prog 213 [encTTrial a] (Tab.of []) (encTTrial a) (Tab.of []) := by
  obtain ⟨a_Claim, a_Asked, a_Right, a_Wrong⟩ := a
  refine pco_of_run [] (E := ⟨[], []⟩) (m := false) (base := 0) Env.ok_nil G_ok mix 300 6 Try.func213 (by kernel_rfl) rfl (by kernel_rfl) (by kernel_rfl) rfl ?_
  simp [Try.f213]
  all_goals first | omega | (rw [Bool.eq_iff_iff]; simp; omega) | grind
theorem c213_ok : c213.ok Try.prog := mkCon_ok fun a hpre => c213_pc a
/-- loop.example/g03007/laws.eqTrial -/
noncomputable def c220 : Con := mkCon 220 false (α := TTrial × TTrial) (fun x => (fun (a : TTrial) (b : TTrial) => [encTTrial a, encTTrial b]) x.1 x.2) (fun _ => []) (fun x => (fun (a : TTrial) (b : TTrial) => True) x.1 x.2) (fun x => (fun (a : TTrial) (b : TTrial) => (dB (decide (a = b)) : D)) x.1 x.2) (fun x => (fun (a : TTrial) (b : TTrial) => []) x.1 x.2)
@[simp] theorem c220_f : c220.f = 220 := rfl
@[simp] theorem c220_own : c220.own = false := rfl
theorem c220_inj : ∀ u_ v_ : TTrial × TTrial, ((fun x => (fun (a : TTrial) (b : TTrial) => [encTTrial a, encTTrial b]) x.1 x.2) u_).map nz = ((fun x => (fun (a : TTrial) (b : TTrial) => [encTTrial a, encTTrial b]) x.1 x.2) v_).map nz → u_ = v_ := by
  intro u_ v_ h
  obtain ⟨⟨a_Claim, a_Asked, a_Right, a_Wrong⟩, ⟨b_Claim, b_Asked, b_Right, b_Wrong⟩⟩ := u_
  obtain ⟨⟨a_Claim', a_Asked', a_Right', a_Wrong'⟩, ⟨b_Claim', b_Asked', b_Right', b_Wrong'⟩⟩ := v_
  simp [nz_lit, nz1_lit, nz_agg, nz_sl, nz1_sl, encTTrial] at h
  first | (simp [h]; done) | (obtain ⟨⟩ := h; simp_all; done) | simp_all
@[simp] theorem c220_fn (a_Claim : Int) (a_Asked : Int) (a_Right : Int) (a_Wrong : Int) (b_Claim : Int) (b_Asked : Int) (b_Right : Int) (b_Wrong : Int) : c220.fn [.agg [.lit (.int .i64 a_Claim), .lit (.int .i64 a_Asked), .lit (.int .i64 a_Right), .lit (.int .i64 a_Wrong)], .agg [.lit (.int .i64 b_Claim), .lit (.int .i64 b_Asked), .lit (.int .i64 b_Right), .lit (.int .i64 b_Wrong)]] [] = some ((fun (a : TTrial) (b : TTrial) => True) ⟨a_Claim, a_Asked, a_Right, a_Wrong⟩ ⟨b_Claim, b_Asked, b_Right, b_Wrong⟩, (fun (a : TTrial) (b : TTrial) => (dB (decide (a = b)) : D)) ⟨a_Claim, a_Asked, a_Right, a_Wrong⟩ ⟨b_Claim, b_Asked, b_Right, b_Wrong⟩, (fun (a : TTrial) (b : TTrial) => []) ⟨a_Claim, a_Asked, a_Right, a_Wrong⟩ ⟨b_Claim, b_Asked, b_Right, b_Wrong⟩) :=
  mkCon_fn (fun x y h _ => c220_inj x y h) ((⟨a_Claim, a_Asked, a_Right, a_Wrong⟩, ⟨b_Claim, b_Asked, b_Right, b_Wrong⟩) : TTrial × TTrial) (by simp [nz, nz1, ML_nil, encTTrial]) rfl
theorem c220_pc (a : TTrial) (b : TTrial) : PCo Try.prog 220 [encTTrial a, encTTrial b] (Tab.of []) (dB (decide (a = b))) (Tab.of []) := by
  obtain ⟨a_Claim, a_Asked, a_Right, a_Wrong⟩ := a
  obtain ⟨b_Claim, b_Asked, b_Right, b_Wrong⟩ := b
  refine pco_of_run [] (E := ⟨[], []⟩) (m := false) (base := 0) Env.ok_nil G_ok mix 300 6 Try.func220 (by kernel_rfl) rfl (by kernel_rfl) (by kernel_rfl) rfl ?_
  simp [Try.f220]
  all_goals first | omega | (rw [Bool.eq_iff_iff]; simp; omega) | grind
theorem c220_ok : c220.ok Try.prog := mkCon_ok fun ⟨a, b⟩ hpre => c220_pc a b
/-- loop.example/g03007/laws.toHand -/
noncomputable def c214 : Con := mkCon 214 false (α := THand) (fun x => (fun (a : THand) => [encTHand a]) x) (fun _ => []) (fun x => (fun (a : THand) => True) x) (fun x => (fun (a : THand) => (encTHand a : D)) x) (fun x => (fun (a : THand) => []) x)
@[simp] theorem c214_f : c214.f = 214 := rfl
@[simp] theorem c214_own : c214.own = false := rfl
theorem c214_inj : ∀ u_ v_ : THand, ((fun x => (fun (a : THand) => [encTHand a]) x) u_).map nz = ((fun x => (fun (a : THand) => [encTHand a]) x) v_).map nz → u_ = v_ := by
  intro u_ v_ h
  obtain ⟨a_Thing, a_Holder, a_Who, a_At, a_Seal⟩ := u_
  obtain ⟨a_Thing', a_Holder', a_Who', a_At', a_Seal'⟩ := v_
  simp [nz_lit, nz1_lit, nz_agg, nz_sl, nz1_sl, encTHand] at h
  first | (simp [h]; done) | (obtain ⟨⟩ := h; simp_all; done) | simp_all
@[simp] theorem c214_fn (a_Thing : Int) (a_Holder : Int) (a_Who : Int) (a_At : Int) (a_Seal : Int) : c214.fn [.agg [.lit (.int .i64 a_Thing), .lit (.int .i64 a_Holder), .lit (.int .i64 a_Who), .lit (.int .i64 a_At), .lit (.int .i64 a_Seal)]] [] = some ((fun (a : THand) => True) ⟨a_Thing, a_Holder, a_Who, a_At, a_Seal⟩, (fun (a : THand) => (encTHand a : D)) ⟨a_Thing, a_Holder, a_Who, a_At, a_Seal⟩, (fun (a : THand) => []) ⟨a_Thing, a_Holder, a_Who, a_At, a_Seal⟩) :=
  mkCon_fn (fun x y h _ => c214_inj x y h) (⟨a_Thing, a_Holder, a_Who, a_At, a_Seal⟩ : THand) (by simp [nz, nz1, ML_nil, encTHand]) rfl
theorem c214_pc (a : THand) : PCo Try.prog 214 [encTHand a] (Tab.of []) (encTHand a) (Tab.of []) := by
  obtain ⟨a_Thing, a_Holder, a_Who, a_At, a_Seal⟩ := a
  refine pco_of_run [] (E := ⟨[], []⟩) (m := false) (base := 0) Env.ok_nil G_ok mix 300 6 Try.func214 (by kernel_rfl) rfl (by kernel_rfl) (by kernel_rfl) rfl ?_
  simp [Try.f214]
  all_goals first | omega | (rw [Bool.eq_iff_iff]; simp; omega) | grind
theorem c214_ok : c214.ok Try.prog := mkCon_ok fun a hpre => c214_pc a
/-- loop.example/g03007/laws.eqHand -/
noncomputable def c221 : Con := mkCon 221 false (α := THand × THand) (fun x => (fun (a : THand) (b : THand) => [encTHand a, encTHand b]) x.1 x.2) (fun _ => []) (fun x => (fun (a : THand) (b : THand) => True) x.1 x.2) (fun x => (fun (a : THand) (b : THand) => (dB (decide (a = b)) : D)) x.1 x.2) (fun x => (fun (a : THand) (b : THand) => []) x.1 x.2)
@[simp] theorem c221_f : c221.f = 221 := rfl
@[simp] theorem c221_own : c221.own = false := rfl
theorem c221_inj : ∀ u_ v_ : THand × THand, ((fun x => (fun (a : THand) (b : THand) => [encTHand a, encTHand b]) x.1 x.2) u_).map nz = ((fun x => (fun (a : THand) (b : THand) => [encTHand a, encTHand b]) x.1 x.2) v_).map nz → u_ = v_ := by
  intro u_ v_ h
  obtain ⟨⟨a_Thing, a_Holder, a_Who, a_At, a_Seal⟩, ⟨b_Thing, b_Holder, b_Who, b_At, b_Seal⟩⟩ := u_
  obtain ⟨⟨a_Thing', a_Holder', a_Who', a_At', a_Seal'⟩, ⟨b_Thing', b_Holder', b_Who', b_At', b_Seal'⟩⟩ := v_
  simp [nz_lit, nz1_lit, nz_agg, nz_sl, nz1_sl, encTHand] at h
  first | (simp [h]; done) | (obtain ⟨⟩ := h; simp_all; done) | simp_all
@[simp] theorem c221_fn (a_Thing : Int) (a_Holder : Int) (a_Who : Int) (a_At : Int) (a_Seal : Int) (b_Thing : Int) (b_Holder : Int) (b_Who : Int) (b_At : Int) (b_Seal : Int) : c221.fn [.agg [.lit (.int .i64 a_Thing), .lit (.int .i64 a_Holder), .lit (.int .i64 a_Who), .lit (.int .i64 a_At), .lit (.int .i64 a_Seal)], .agg [.lit (.int .i64 b_Thing), .lit (.int .i64 b_Holder), .lit (.int .i64 b_Who), .lit (.int .i64 b_At), .lit (.int .i64 b_Seal)]] [] = some ((fun (a : THand) (b : THand) => True) ⟨a_Thing, a_Holder, a_Who, a_At, a_Seal⟩ ⟨b_Thing, b_Holder, b_Who, b_At, b_Seal⟩, (fun (a : THand) (b : THand) => (dB (decide (a = b)) : D)) ⟨a_Thing, a_Holder, a_Who, a_At, a_Seal⟩ ⟨b_Thing, b_Holder, b_Who, b_At, b_Seal⟩, (fun (a : THand) (b : THand) => []) ⟨a_Thing, a_Holder, a_Who, a_At, a_Seal⟩ ⟨b_Thing, b_Holder, b_Who, b_At, b_Seal⟩) :=
  mkCon_fn (fun x y h _ => c221_inj x y h) ((⟨a_Thing, a_Holder, a_Who, a_At, a_Seal⟩, ⟨b_Thing, b_Holder, b_Who, b_At, b_Seal⟩) : THand × THand) (by simp [nz, nz1, ML_nil, encTHand]) rfl
theorem c221_pc (a : THand) (b : THand) : PCo Try.prog 221 [encTHand a, encTHand b] (Tab.of []) (dB (decide (a = b))) (Tab.of []) := by
  obtain ⟨a_Thing, a_Holder, a_Who, a_At, a_Seal⟩ := a
  obtain ⟨b_Thing, b_Holder, b_Who, b_At, b_Seal⟩ := b
  refine pco_of_run [] (E := ⟨[], []⟩) (m := false) (base := 0) Env.ok_nil G_ok mix 300 6 Try.func221 (by kernel_rfl) rfl (by kernel_rfl) (by kernel_rfl) rfl ?_
  simp [Try.f221]
  all_goals first | omega | (rw [Bool.eq_iff_iff]; simp; omega) | grind
theorem c221_ok : c221.ok Try.prog := mkCon_ok fun ⟨a, b⟩ hpre => c221_pc a b
/-- loop.example/g03007/laws.toEntry -/
noncomputable def c215 : Con := mkCon 215 false (α := TEntry) (fun x => (fun (a : TEntry) => [encTEntry a]) x) (fun _ => []) (fun x => (fun (a : TEntry) => True) x) (fun x => (fun (a : TEntry) => (encTEntry a : D)) x) (fun x => (fun (a : TEntry) => []) x)
@[simp] theorem c215_f : c215.f = 215 := rfl
@[simp] theorem c215_own : c215.own = false := rfl
theorem c215_inj : ∀ u_ v_ : TEntry, ((fun x => (fun (a : TEntry) => [encTEntry a]) x) u_).map nz = ((fun x => (fun (a : TEntry) => [encTEntry a]) x) v_).map nz → u_ = v_ := by
  intro u_ v_ h
  obtain ⟨a_From, a_To, a_Cents, a_At⟩ := u_
  obtain ⟨a_From', a_To', a_Cents', a_At'⟩ := v_
  simp [nz_lit, nz1_lit, nz_agg, nz_sl, nz1_sl, encTEntry] at h
  first | (simp [h]; done) | (obtain ⟨⟩ := h; simp_all; done) | simp_all
@[simp] theorem c215_fn (a_From : Int) (a_To : Int) (a_Cents : Int) (a_At : Int) : c215.fn [.agg [.lit (.int .i64 a_From), .lit (.int .i64 a_To), .lit (.int .i64 a_Cents), .lit (.int .i64 a_At)]] [] = some ((fun (a : TEntry) => True) ⟨a_From, a_To, a_Cents, a_At⟩, (fun (a : TEntry) => (encTEntry a : D)) ⟨a_From, a_To, a_Cents, a_At⟩, (fun (a : TEntry) => []) ⟨a_From, a_To, a_Cents, a_At⟩) :=
  mkCon_fn (fun x y h _ => c215_inj x y h) (⟨a_From, a_To, a_Cents, a_At⟩ : TEntry) (by simp [nz, nz1, ML_nil, encTEntry]) rfl
theorem c215_pc (a : TEntry) : PCo Try.prog 215 [encTEntry a] (Tab.of []) (encTEntry a) (Tab.of []) := by
  obtain ⟨a_From, a_To, a_Cents, a_At⟩ := a
  refine pco_of_run [] (E := ⟨[], []⟩) (m := false) (base := 0) Env.ok_nil G_ok mix 300 6 Try.func215 (by kernel_rfl) rfl (by kernel_rfl) (by kernel_rfl) rfl ?_
  simp [Try.f215]
  all_goals first | omega | (rw [Bool.eq_iff_iff]; simp; omega) | grind
theorem c215_ok : c215.ok Try.prog := mkCon_ok fun a hpre => c215_pc a
/-- loop.example/g03007/laws.eqEntry -/
noncomputable def c222 : Con := mkCon 222 false (α := TEntry × TEntry) (fun x => (fun (a : TEntry) (b : TEntry) => [encTEntry a, encTEntry b]) x.1 x.2) (fun _ => []) (fun x => (fun (a : TEntry) (b : TEntry) => True) x.1 x.2) (fun x => (fun (a : TEntry) (b : TEntry) => (dB (decide (a = b)) : D)) x.1 x.2) (fun x => (fun (a : TEntry) (b : TEntry) => []) x.1 x.2)
@[simp] theorem c222_f : c222.f = 222 := rfl
@[simp] theorem c222_own : c222.own = false := rfl
theorem c222_inj : ∀ u_ v_ : TEntry × TEntry, ((fun x => (fun (a : TEntry) (b : TEntry) => [encTEntry a, encTEntry b]) x.1 x.2) u_).map nz = ((fun x => (fun (a : TEntry) (b : TEntry) => [encTEntry a, encTEntry b]) x.1 x.2) v_).map nz → u_ = v_ := by
  intro u_ v_ h
  obtain ⟨⟨a_From, a_To, a_Cents, a_At⟩, ⟨b_From, b_To, b_Cents, b_At⟩⟩ := u_
  obtain ⟨⟨a_From', a_To', a_Cents', a_At'⟩, ⟨b_From', b_To', b_Cents', b_At'⟩⟩ := v_
  simp [nz_lit, nz1_lit, nz_agg, nz_sl, nz1_sl, encTEntry] at h
  first | (simp [h]; done) | (obtain ⟨⟩ := h; simp_all; done) | simp_all
@[simp] theorem c222_fn (a_From : Int) (a_To : Int) (a_Cents : Int) (a_At : Int) (b_From : Int) (b_To : Int) (b_Cents : Int) (b_At : Int) : c222.fn [.agg [.lit (.int .i64 a_From), .lit (.int .i64 a_To), .lit (.int .i64 a_Cents), .lit (.int .i64 a_At)], .agg [.lit (.int .i64 b_From), .lit (.int .i64 b_To), .lit (.int .i64 b_Cents), .lit (.int .i64 b_At)]] [] = some ((fun (a : TEntry) (b : TEntry) => True) ⟨a_From, a_To, a_Cents, a_At⟩ ⟨b_From, b_To, b_Cents, b_At⟩, (fun (a : TEntry) (b : TEntry) => (dB (decide (a = b)) : D)) ⟨a_From, a_To, a_Cents, a_At⟩ ⟨b_From, b_To, b_Cents, b_At⟩, (fun (a : TEntry) (b : TEntry) => []) ⟨a_From, a_To, a_Cents, a_At⟩ ⟨b_From, b_To, b_Cents, b_At⟩) :=
  mkCon_fn (fun x y h _ => c222_inj x y h) ((⟨a_From, a_To, a_Cents, a_At⟩, ⟨b_From, b_To, b_Cents, b_At⟩) : TEntry × TEntry) (by simp [nz, nz1, ML_nil, encTEntry]) rfl
theorem c222_pc (a : TEntry) (b : TEntry) : PCo Try.prog 222 [encTEntry a, encTEntry b] (Tab.of []) (dB (decide (a = b))) (Tab.of []) := by
  obtain ⟨a_From, a_To, a_Cents, a_At⟩ := a
  obtain ⟨b_From, b_To, b_Cents, b_At⟩ := b
  refine pco_of_run [] (E := ⟨[], []⟩) (m := false) (base := 0) Env.ok_nil G_ok mix 300 6 Try.func222 (by kernel_rfl) rfl (by kernel_rfl) (by kernel_rfl) rfl ?_
  simp [Try.f222]
  all_goals first | omega | (rw [Bool.eq_iff_iff]; simp; omega) | grind
theorem c222_ok : c222.ok Try.prog := mkCon_ok fun ⟨a, b⟩ hpre => c222_pc a b
/-- loop.example/g03007/laws.szSlotS -/
noncomputable def c167 : Con := mkCon 167 false (α := (List TSlot) × Int) (fun x => (fun (l : List TSlot) (left : Int) => [encLTSlot l, dI left]) x.1 x.2) (fun _ => []) (fun x => (fun (l : List TSlot) (left : Int) => l.length ≤ maxLen ∧ 0 ≤ left ∧ left ≤ 1099511627776) x.1 x.2) (fun x => (fun (l : List TSlot) (left : Int) => (dI (if left - l.length < 0 then -1 else left - l.length) : D)) x.1 x.2) (fun x => (fun (l : List TSlot) (left : Int) => []) x.1 x.2)
@[simp] theorem c167_f : c167.f = 167 := rfl
@[simp] theorem c167_own : c167.own = false := rfl
theorem c167_inj : ∀ u_ v_ : (List TSlot) × Int, ((fun x => (fun (l : List TSlot) (left : Int) => [encLTSlot l, dI left]) x.1 x.2) u_).map nz = ((fun x => (fun (l : List TSlot) (left : Int) => [encLTSlot l, dI left]) x.1 x.2) v_).map nz → u_ = v_ := by
  intro u_ v_ h
  obtain ⟨l, left⟩ := u_
  obtain ⟨l', left'⟩ := v_
  simp [nz_lit, nz1_lit, nz_agg, nz_sl, nz1_sl, encLTSlot] at h
  first | (simp [h]; done) | (obtain ⟨⟩ := h; simp_all; done) | simp_all
@[simp] theorem c167_fn (l : List TSlot) (left : Int) : c167.fn [.sl false 3 yTSlot (ML encTSlot l), .lit (.int .i64 left)] [] = some ((fun (l : List TSlot) (left : Int) => l.length ≤ maxLen ∧ 0 ≤ left ∧ left ≤ 1099511627776) l left, (fun (l : List TSlot) (left : Int) => (dI (if left - l.length < 0 then -1 else left - l.length) : D)) l left, (fun (l : List TSlot) (left : Int) => []) l left) :=
  mkCon_fn (fun x y h _ => c167_inj x y h) ((l, left) : (List TSlot) × Int) (by simp [nz, nz1, ML_nil, encLTSlot]) rfl
@[simp] theorem c167_fn1 (s_l : Nat) (z_l : D) (left : Int) : c167.fn [.sl false s_l z_l [], .lit (.int .i64 left)] [] = some ((fun (l : List TSlot) (left : Int) => l.length ≤ maxLen ∧ 0 ≤ left ∧ left ≤ 1099511627776) [] left, (fun (l : List TSlot) (left : Int) => (dI (if left - l.length < 0 then -1 else left - l.length) : D)) [] left, (fun (l : List TSlot) (left : Int) => []) [] left) :=
  mkCon_fn (fun x y h _ => c167_inj x y h) (([], left) : (List TSlot) × Int) (by simp [nz, nz1, ML_nil, encLTSlot]) rfl
theorem c167_pc (l : List TSlot) (left : Int) (hpre : l.length ≤ maxLen ∧ 0 ≤ left ∧ left ≤ 1099511627776) : PCo Try.prog 167 [encLTSlot l, dI left] (Tab.of []) (dI (if left - l.length < 0 then -1 else left - l.length)) (Tab.of []) := by
  refine pco_of_run [] (E := ⟨[], []⟩) (m := false) (base := 0) Env.ok_nil G_ok mix 300 6 Try.func167 (by kernel_rfl) rfl (by kernel_rfl) (by kernel_rfl) rfl ?_
  simp [Try.f167]
  simp [maxLen] at hpre
  all_goals omega
theorem c167_ok : c167.ok Try.prog := mkCon_ok fun ⟨l, left⟩ hpre => c167_pc l left hpre
/-- loop.example/g03007/laws.szClaimS -/
noncomputable def c168 : Con := mkCon 168 false (α := (List TClaim) × Int) (fun x => (fun (l : List TClaim) (left : Int) => [encLTClaim l, dI left]) x.1 x.2) (fun _ => []) (fun x => (fun (l : List TClaim) (left : Int) => l.length ≤ maxLen ∧ 0 ≤ left ∧ left ≤ 1099511627776) x.1 x.2) (fun x => (fun (l : List TClaim) (left : Int) => (dI (if left - l.length < 0 then -1 else left - l.length) : D)) x.1 x.2) (fun x => (fun (l : List TClaim) (left : Int) => []) x.1 x.2)
@[simp] theorem c168_f : c168.f = 168 := rfl
@[simp] theorem c168_own : c168.own = false := rfl
theorem c168_inj : ∀ u_ v_ : (List TClaim) × Int, ((fun x => (fun (l : List TClaim) (left : Int) => [encLTClaim l, dI left]) x.1 x.2) u_).map nz = ((fun x => (fun (l : List TClaim) (left : Int) => [encLTClaim l, dI left]) x.1 x.2) v_).map nz → u_ = v_ := by
  intro u_ v_ h
  obtain ⟨l, left⟩ := u_
  obtain ⟨l', left'⟩ := v_
  simp [nz_lit, nz1_lit, nz_agg, nz_sl, nz1_sl, encLTClaim] at h
  first | (simp [h]; done) | (obtain ⟨⟩ := h; simp_all; done) | simp_all
@[simp] theorem c168_fn (l : List TClaim) (left : Int) : c168.fn [.sl false 5 yTClaim (ML encTClaim l), .lit (.int .i64 left)] [] = some ((fun (l : List TClaim) (left : Int) => l.length ≤ maxLen ∧ 0 ≤ left ∧ left ≤ 1099511627776) l left, (fun (l : List TClaim) (left : Int) => (dI (if left - l.length < 0 then -1 else left - l.length) : D)) l left, (fun (l : List TClaim) (left : Int) => []) l left) :=
  mkCon_fn (fun x y h _ => c168_inj x y h) ((l, left) : (List TClaim) × Int) (by simp [nz, nz1, ML_nil, encLTClaim]) rfl
@[simp] theorem c168_fn1 (s_l : Nat) (z_l : D) (left : Int) : c168.fn [.sl false s_l z_l [], .lit (.int .i64 left)] [] = some ((fun (l : List TClaim) (left : Int) => l.length ≤ maxLen ∧ 0 ≤ left ∧ left ≤ 1099511627776) [] left, (fun (l : List TClaim) (left : Int) => (dI (if left - l.length < 0 then -1 else left - l.length) : D)) [] left, (fun (l : List TClaim) (left : Int) => []) [] left) :=
  mkCon_fn (fun x y h _ => c168_inj x y h) (([], left) : (List TClaim) × Int) (by simp [nz, nz1, ML_nil, encLTClaim]) rfl
theorem c168_pc (l : List TClaim) (left : Int) (hpre : l.length ≤ maxLen ∧ 0 ≤ left ∧ left ≤ 1099511627776) : PCo Try.prog 168 [encLTClaim l, dI left] (Tab.of []) (dI (if left - l.length < 0 then -1 else left - l.length)) (Tab.of []) := by
  refine pco_of_run [] (E := ⟨[], []⟩) (m := false) (base := 0) Env.ok_nil G_ok mix 300 6 Try.func168 (by kernel_rfl) rfl (by kernel_rfl) (by kernel_rfl) rfl ?_
  simp [Try.f168]
  simp [maxLen] at hpre
  all_goals omega
theorem c168_ok : c168.ok Try.prog := mkCon_ok fun ⟨l, left⟩ hpre => c168_pc l left hpre
/-- loop.example/g03007/laws.szTrialS -/
noncomputable def c169 : Con := mkCon 169 false (α := (List TTrial) × Int) (fun x => (fun (l : List TTrial) (left : Int) => [encLTTrial l, dI left]) x.1 x.2) (fun _ => []) (fun x => (fun (l : List TTrial) (left : Int) => l.length ≤ maxLen ∧ 0 ≤ left ∧ left ≤ 1099511627776) x.1 x.2) (fun x => (fun (l : List TTrial) (left : Int) => (dI (if left - l.length < 0 then -1 else left - l.length) : D)) x.1 x.2) (fun x => (fun (l : List TTrial) (left : Int) => []) x.1 x.2)
@[simp] theorem c169_f : c169.f = 169 := rfl
@[simp] theorem c169_own : c169.own = false := rfl
theorem c169_inj : ∀ u_ v_ : (List TTrial) × Int, ((fun x => (fun (l : List TTrial) (left : Int) => [encLTTrial l, dI left]) x.1 x.2) u_).map nz = ((fun x => (fun (l : List TTrial) (left : Int) => [encLTTrial l, dI left]) x.1 x.2) v_).map nz → u_ = v_ := by
  intro u_ v_ h
  obtain ⟨l, left⟩ := u_
  obtain ⟨l', left'⟩ := v_
  simp [nz_lit, nz1_lit, nz_agg, nz_sl, nz1_sl, encLTTrial] at h
  first | (simp [h]; done) | (obtain ⟨⟩ := h; simp_all; done) | simp_all
@[simp] theorem c169_fn (l : List TTrial) (left : Int) : c169.fn [.sl false 4 yTTrial (ML encTTrial l), .lit (.int .i64 left)] [] = some ((fun (l : List TTrial) (left : Int) => l.length ≤ maxLen ∧ 0 ≤ left ∧ left ≤ 1099511627776) l left, (fun (l : List TTrial) (left : Int) => (dI (if left - l.length < 0 then -1 else left - l.length) : D)) l left, (fun (l : List TTrial) (left : Int) => []) l left) :=
  mkCon_fn (fun x y h _ => c169_inj x y h) ((l, left) : (List TTrial) × Int) (by simp [nz, nz1, ML_nil, encLTTrial]) rfl
@[simp] theorem c169_fn1 (s_l : Nat) (z_l : D) (left : Int) : c169.fn [.sl false s_l z_l [], .lit (.int .i64 left)] [] = some ((fun (l : List TTrial) (left : Int) => l.length ≤ maxLen ∧ 0 ≤ left ∧ left ≤ 1099511627776) [] left, (fun (l : List TTrial) (left : Int) => (dI (if left - l.length < 0 then -1 else left - l.length) : D)) [] left, (fun (l : List TTrial) (left : Int) => []) [] left) :=
  mkCon_fn (fun x y h _ => c169_inj x y h) (([], left) : (List TTrial) × Int) (by simp [nz, nz1, ML_nil, encLTTrial]) rfl
theorem c169_pc (l : List TTrial) (left : Int) (hpre : l.length ≤ maxLen ∧ 0 ≤ left ∧ left ≤ 1099511627776) : PCo Try.prog 169 [encLTTrial l, dI left] (Tab.of []) (dI (if left - l.length < 0 then -1 else left - l.length)) (Tab.of []) := by
  refine pco_of_run [] (E := ⟨[], []⟩) (m := false) (base := 0) Env.ok_nil G_ok mix 300 6 Try.func169 (by kernel_rfl) rfl (by kernel_rfl) (by kernel_rfl) rfl ?_
  simp [Try.f169]
  simp [maxLen] at hpre
  all_goals omega
theorem c169_ok : c169.ok Try.prog := mkCon_ok fun ⟨l, left⟩ hpre => c169_pc l left hpre
/-- loop.example/g03007/laws.szHandS -/
noncomputable def c170 : Con := mkCon 170 false (α := (List THand) × Int) (fun x => (fun (l : List THand) (left : Int) => [encLTHand l, dI left]) x.1 x.2) (fun _ => []) (fun x => (fun (l : List THand) (left : Int) => l.length ≤ maxLen ∧ 0 ≤ left ∧ left ≤ 1099511627776) x.1 x.2) (fun x => (fun (l : List THand) (left : Int) => (dI (if left - l.length < 0 then -1 else left - l.length) : D)) x.1 x.2) (fun x => (fun (l : List THand) (left : Int) => []) x.1 x.2)
@[simp] theorem c170_f : c170.f = 170 := rfl
@[simp] theorem c170_own : c170.own = false := rfl
theorem c170_inj : ∀ u_ v_ : (List THand) × Int, ((fun x => (fun (l : List THand) (left : Int) => [encLTHand l, dI left]) x.1 x.2) u_).map nz = ((fun x => (fun (l : List THand) (left : Int) => [encLTHand l, dI left]) x.1 x.2) v_).map nz → u_ = v_ := by
  intro u_ v_ h
  obtain ⟨l, left⟩ := u_
  obtain ⟨l', left'⟩ := v_
  simp [nz_lit, nz1_lit, nz_agg, nz_sl, nz1_sl, encLTHand] at h
  first | (simp [h]; done) | (obtain ⟨⟩ := h; simp_all; done) | simp_all
@[simp] theorem c170_fn (l : List THand) (left : Int) : c170.fn [.sl false 5 yTHand (ML encTHand l), .lit (.int .i64 left)] [] = some ((fun (l : List THand) (left : Int) => l.length ≤ maxLen ∧ 0 ≤ left ∧ left ≤ 1099511627776) l left, (fun (l : List THand) (left : Int) => (dI (if left - l.length < 0 then -1 else left - l.length) : D)) l left, (fun (l : List THand) (left : Int) => []) l left) :=
  mkCon_fn (fun x y h _ => c170_inj x y h) ((l, left) : (List THand) × Int) (by simp [nz, nz1, ML_nil, encLTHand]) rfl
@[simp] theorem c170_fn1 (s_l : Nat) (z_l : D) (left : Int) : c170.fn [.sl false s_l z_l [], .lit (.int .i64 left)] [] = some ((fun (l : List THand) (left : Int) => l.length ≤ maxLen ∧ 0 ≤ left ∧ left ≤ 1099511627776) [] left, (fun (l : List THand) (left : Int) => (dI (if left - l.length < 0 then -1 else left - l.length) : D)) [] left, (fun (l : List THand) (left : Int) => []) [] left) :=
  mkCon_fn (fun x y h _ => c170_inj x y h) (([], left) : (List THand) × Int) (by simp [nz, nz1, ML_nil, encLTHand]) rfl
theorem c170_pc (l : List THand) (left : Int) (hpre : l.length ≤ maxLen ∧ 0 ≤ left ∧ left ≤ 1099511627776) : PCo Try.prog 170 [encLTHand l, dI left] (Tab.of []) (dI (if left - l.length < 0 then -1 else left - l.length)) (Tab.of []) := by
  refine pco_of_run [] (E := ⟨[], []⟩) (m := false) (base := 0) Env.ok_nil G_ok mix 300 6 Try.func170 (by kernel_rfl) rfl (by kernel_rfl) (by kernel_rfl) rfl ?_
  simp [Try.f170]
  simp [maxLen] at hpre
  all_goals omega
theorem c170_ok : c170.ok Try.prog := mkCon_ok fun ⟨l, left⟩ hpre => c170_pc l left hpre
/-- loop.example/g03007/laws.szEntryS -/
noncomputable def c171 : Con := mkCon 171 false (α := (List TEntry) × Int) (fun x => (fun (l : List TEntry) (left : Int) => [encLTEntry l, dI left]) x.1 x.2) (fun _ => []) (fun x => (fun (l : List TEntry) (left : Int) => l.length ≤ maxLen ∧ 0 ≤ left ∧ left ≤ 1099511627776) x.1 x.2) (fun x => (fun (l : List TEntry) (left : Int) => (dI (if left - l.length < 0 then -1 else left - l.length) : D)) x.1 x.2) (fun x => (fun (l : List TEntry) (left : Int) => []) x.1 x.2)
@[simp] theorem c171_f : c171.f = 171 := rfl
@[simp] theorem c171_own : c171.own = false := rfl
theorem c171_inj : ∀ u_ v_ : (List TEntry) × Int, ((fun x => (fun (l : List TEntry) (left : Int) => [encLTEntry l, dI left]) x.1 x.2) u_).map nz = ((fun x => (fun (l : List TEntry) (left : Int) => [encLTEntry l, dI left]) x.1 x.2) v_).map nz → u_ = v_ := by
  intro u_ v_ h
  obtain ⟨l, left⟩ := u_
  obtain ⟨l', left'⟩ := v_
  simp [nz_lit, nz1_lit, nz_agg, nz_sl, nz1_sl, encLTEntry] at h
  first | (simp [h]; done) | (obtain ⟨⟩ := h; simp_all; done) | simp_all
@[simp] theorem c171_fn (l : List TEntry) (left : Int) : c171.fn [.sl false 4 yTEntry (ML encTEntry l), .lit (.int .i64 left)] [] = some ((fun (l : List TEntry) (left : Int) => l.length ≤ maxLen ∧ 0 ≤ left ∧ left ≤ 1099511627776) l left, (fun (l : List TEntry) (left : Int) => (dI (if left - l.length < 0 then -1 else left - l.length) : D)) l left, (fun (l : List TEntry) (left : Int) => []) l left) :=
  mkCon_fn (fun x y h _ => c171_inj x y h) ((l, left) : (List TEntry) × Int) (by simp [nz, nz1, ML_nil, encLTEntry]) rfl
@[simp] theorem c171_fn1 (s_l : Nat) (z_l : D) (left : Int) : c171.fn [.sl false s_l z_l [], .lit (.int .i64 left)] [] = some ((fun (l : List TEntry) (left : Int) => l.length ≤ maxLen ∧ 0 ≤ left ∧ left ≤ 1099511627776) [] left, (fun (l : List TEntry) (left : Int) => (dI (if left - l.length < 0 then -1 else left - l.length) : D)) [] left, (fun (l : List TEntry) (left : Int) => []) [] left) :=
  mkCon_fn (fun x y h _ => c171_inj x y h) (([], left) : (List TEntry) × Int) (by simp [nz, nz1, ML_nil, encLTEntry]) rfl
theorem c171_pc (l : List TEntry) (left : Int) (hpre : l.length ≤ maxLen ∧ 0 ≤ left ∧ left ≤ 1099511627776) : PCo Try.prog 171 [encLTEntry l, dI left] (Tab.of []) (dI (if left - l.length < 0 then -1 else left - l.length)) (Tab.of []) := by
  refine pco_of_run [] (E := ⟨[], []⟩) (m := false) (base := 0) Env.ok_nil G_ok mix 300 6 Try.func171 (by kernel_rfl) rfl (by kernel_rfl) (by kernel_rfl) rfl ?_
  simp [Try.f171]
  simp [maxLen] at hpre
  all_goals omega
theorem c171_ok : c171.ok Try.prog := mkCon_ok fun ⟨l, left⟩ hpre => c171_pc l left hpre
/-- loop.example/g03007/laws.toSlotS -/
noncomputable def c172 : Con := mkCon 172 false (α := (List TSlot)) (fun x => (fun (l : List TSlot) => [encLTSlot l]) x) (fun _ => []) (fun x => (fun (l : List TSlot) => l.length ≤ 1099511627776) x) (fun x => (fun (l : List TSlot) => (.own (0, 1) 3 0 l.length : D)) x) (fun x => (fun (l : List TSlot) => [((0, 1), .arr false 3 yTSlot (ML encTSlot l))]) x)
@[simp] theorem c172_f : c172.f = 172 := rfl
@[simp] theorem c172_own : c172.own = false := rfl
theorem c172_inj : ∀ u_ v_ : (List TSlot), ((fun x => (fun (l : List TSlot) => [encLTSlot l]) x) u_).map nz = ((fun x => (fun (l : List TSlot) => [encLTSlot l]) x) v_).map nz → u_ = v_ := by
  intro u_ v_ h
  obtain l := u_
  obtain l' := v_
  simp [nz_lit, nz1_lit, nz_agg, nz_sl, nz1_sl, encLTSlot] at h
  first | (simp [h]; done) | (obtain ⟨⟩ := h; simp_all; done) | simp_all
@[simp] theorem c172_fn (l : List TSlot) : c172.fn [.sl false 3 yTSlot (ML encTSlot l)] [] = some ((fun (l : List TSlot) => l.length ≤ 1099511627776) l, (fun (l : List TSlot) => (.own (0, 1) 3 0 l.length : D)) l, (fun (l : List TSlot) => [((0, 1), .arr false 3 yTSlot (ML encTSlot l))]) l) :=
  mkCon_fn (fun x y h _ => c172_inj x y h) (l : (List TSlot)) (by simp [nz, nz1, ML_nil, encLTSlot]) rfl
@[simp] theorem c172_fn1 (s_l : Nat) (z_l : D) : c172.fn [.sl false s_l z_l []] [] = some ((fun (l : List TSlot) => l.length ≤ 1099511627776) [], (fun (l : List TSlot) => (.own (0, 1) 3 0 l.length : D)) [], (fun (l : List TSlot) => [((0, 1), .arr false 3 yTSlot (ML encTSlot l))]) []) :=
  mkCon_fn (fun x y h _ => c172_inj x y h) ([] : (List TSlot)) (by simp [nz, nz1, ML_nil, encLTSlot]) rfl
theorem c172_pc (l : List TSlot) (hpre : l.length ≤ 1099511627776) : PCo Try.prog 172 [encLTSlot l] (Tab.of []) (.own (0, 1) 3 0 l.length) (Tab.of [((0, 1), .arr false 3 yTSlot (ML encTSlot l))]) := by
  refine pco_of_run [] (E := ⟨[c211], []⟩) (m := false) (base := 0) (Env.ok_cons c211_ok Env.ok_nil) G_ok mix 300 6 Try.func172 (by kernel_rfl) rfl (by kernel_rfl) (by kernel_rfl) rfl ?_
  simp [Try.f172]
  refine ⟨by omega, ?_⟩
  refine loop_inv (fun p : Nat => p ≤ l.length) (fun p => [(0, encLTSlot l), (3, .own (0, 1) 3 0 l.length), (4, dI p)]) (fun p => [((0, 1), .arr false 3 yTSlot (ML encTSlot (l.take p ++ List.replicate (l.length - p) ⟨0, 0, 0⟩)))]) 2 (fun p => l.length - p) 0 100 (by simp) (by simp) (by first | (simp; done) | (simp; simp only [ML, List.map_replicate]; rfl)) ?_
  intro p hp
  simp
  refine ⟨fun hlt => ⟨by omega, by omega, Again.mk (p + 1) (by omega) (by simp [fill_step hlt]) (by first | omega | (simp; omega))⟩, fun hge => ?_⟩
  have : p = l.length := by omega
  subst this
  simp
theorem c172_ok : c172.ok Try.prog := mkCon_ok fun l hpre => c172_pc l hpre
/-- loop.example/g03007/laws.toClaimS -/
noncomputable def c173 : Con := mkCon 173 false (α := (List TClaim)) (fun x => (fun (l : List TClaim) => [encLTClaim l]) x) (fun _ => []) (fun x => (fun (l : List TClaim) => l.length ≤ 1099511627776) x) (fun x => (fun (l : List TClaim) => (.own (0, 1) 5 0 l.length : D)) x) (fun x => (fun (l : List TClaim) => [((0, 1), .arr false 5 yTClaim (ML encTClaim l))]) x)
@[simp] theorem c173_f : c173.f = 173 := rfl
@[simp] theorem c173_own : c173.own = false := rfl
theorem c173_inj : ∀ u_ v_ : (List TClaim), ((fun x => (fun (l : List TClaim) => [encLTClaim l]) x) u_).map nz = ((fun x => (fun (l : List TClaim) => [encLTClaim l]) x) v_).map nz → u_ = v_ := by
  intro u_ v_ h
  obtain l := u_
  obtain l' := v_
  simp [nz_lit, nz1_lit, nz_agg, nz_sl, nz1_sl, encLTClaim] at h
  first | (simp [h]; done) | (obtain ⟨⟩ := h; simp_all; done) | simp_all
@[simp] theorem c173_fn (l : List TClaim) : c173.fn [.sl false 5 yTClaim (ML encTClaim l)] [] = some ((fun (l : List TClaim) => l.length ≤ 1099511627776) l, (fun (l : List TClaim) => (.own (0, 1) 5 0 l.length : D)) l, (fun (l : List TClaim) => [((0, 1), .arr false 5 yTClaim (ML encTClaim l))]) l) :=
  mkCon_fn (fun x y h _ => c173_inj x y h) (l : (List TClaim)) (by simp [nz, nz1, ML_nil, encLTClaim]) rfl
@[simp] theorem c173_fn1 (s_l : Nat) (z_l : D) : c173.fn [.sl false s_l z_l []] [] = some ((fun (l : List TClaim) => l.length ≤ 1099511627776) [], (fun (l : List TClaim) => (.own (0, 1) 5 0 l.length : D)) [], (fun (l : List TClaim) => [((0, 1), .arr false 5 yTClaim (ML encTClaim l))]) []) :=
  mkCon_fn (fun x y h _ => c173_inj x y h) ([] : (List TClaim)) (by simp [nz, nz1, ML_nil, encLTClaim]) rfl
theorem c173_pc (l : List TClaim) (hpre : l.length ≤ 1099511627776) : PCo Try.prog 173 [encLTClaim l] (Tab.of []) (.own (0, 1) 5 0 l.length) (Tab.of [((0, 1), .arr false 5 yTClaim (ML encTClaim l))]) := by
  refine pco_of_run [] (E := ⟨[c212], []⟩) (m := false) (base := 0) (Env.ok_cons c212_ok Env.ok_nil) G_ok mix 300 6 Try.func173 (by kernel_rfl) rfl (by kernel_rfl) (by kernel_rfl) rfl ?_
  simp [Try.f173]
  refine ⟨by omega, ?_⟩
  refine loop_inv (fun p : Nat => p ≤ l.length) (fun p => [(0, encLTClaim l), (3, .own (0, 1) 5 0 l.length), (4, dI p)]) (fun p => [((0, 1), .arr false 5 yTClaim (ML encTClaim (l.take p ++ List.replicate (l.length - p) ⟨0, 0, 0, 0, 0⟩)))]) 2 (fun p => l.length - p) 0 100 (by simp) (by simp) (by first | (simp; done) | (simp; simp only [ML, List.map_replicate]; rfl)) ?_
  intro p hp
  simp
  refine ⟨fun hlt => ⟨by omega, by omega, Again.mk (p + 1) (by omega) (by simp [fill_step hlt]) (by first | omega | (simp; omega))⟩, fun hge => ?_⟩
  have : p = l.length := by omega
  subst this
  simp
theorem c173_ok : c173.ok Try.prog := mkCon_ok fun l hpre => c173_pc l hpre
/-- loop.example/g03007/laws.toTrialS -/
noncomputable def c174 : Con := mkCon 174 false (α := (List TTrial)) (fun x => (fun (l : List TTrial) => [encLTTrial l]) x) (fun _ => []) (fun x => (fun (l : List TTrial) => l.length ≤ 1099511627776) x) (fun x => (fun (l : List TTrial) => (.own (0, 1) 4 0 l.length : D)) x) (fun x => (fun (l : List TTrial) => [((0, 1), .arr false 4 yTTrial (ML encTTrial l))]) x)
@[simp] theorem c174_f : c174.f = 174 := rfl
@[simp] theorem c174_own : c174.own = false := rfl
theorem c174_inj : ∀ u_ v_ : (List TTrial), ((fun x => (fun (l : List TTrial) => [encLTTrial l]) x) u_).map nz = ((fun x => (fun (l : List TTrial) => [encLTTrial l]) x) v_).map nz → u_ = v_ := by
  intro u_ v_ h
  obtain l := u_
  obtain l' := v_
  simp [nz_lit, nz1_lit, nz_agg, nz_sl, nz1_sl, encLTTrial] at h
  first | (simp [h]; done) | (obtain ⟨⟩ := h; simp_all; done) | simp_all
@[simp] theorem c174_fn (l : List TTrial) : c174.fn [.sl false 4 yTTrial (ML encTTrial l)] [] = some ((fun (l : List TTrial) => l.length ≤ 1099511627776) l, (fun (l : List TTrial) => (.own (0, 1) 4 0 l.length : D)) l, (fun (l : List TTrial) => [((0, 1), .arr false 4 yTTrial (ML encTTrial l))]) l) :=
  mkCon_fn (fun x y h _ => c174_inj x y h) (l : (List TTrial)) (by simp [nz, nz1, ML_nil, encLTTrial]) rfl
@[simp] theorem c174_fn1 (s_l : Nat) (z_l : D) : c174.fn [.sl false s_l z_l []] [] = some ((fun (l : List TTrial) => l.length ≤ 1099511627776) [], (fun (l : List TTrial) => (.own (0, 1) 4 0 l.length : D)) [], (fun (l : List TTrial) => [((0, 1), .arr false 4 yTTrial (ML encTTrial l))]) []) :=
  mkCon_fn (fun x y h _ => c174_inj x y h) ([] : (List TTrial)) (by simp [nz, nz1, ML_nil, encLTTrial]) rfl
theorem c174_pc (l : List TTrial) (hpre : l.length ≤ 1099511627776) : PCo Try.prog 174 [encLTTrial l] (Tab.of []) (.own (0, 1) 4 0 l.length) (Tab.of [((0, 1), .arr false 4 yTTrial (ML encTTrial l))]) := by
  refine pco_of_run [] (E := ⟨[c213], []⟩) (m := false) (base := 0) (Env.ok_cons c213_ok Env.ok_nil) G_ok mix 300 6 Try.func174 (by kernel_rfl) rfl (by kernel_rfl) (by kernel_rfl) rfl ?_
  simp [Try.f174]
  refine ⟨by omega, ?_⟩
  refine loop_inv (fun p : Nat => p ≤ l.length) (fun p => [(0, encLTTrial l), (3, .own (0, 1) 4 0 l.length), (4, dI p)]) (fun p => [((0, 1), .arr false 4 yTTrial (ML encTTrial (l.take p ++ List.replicate (l.length - p) ⟨0, 0, 0, 0⟩)))]) 2 (fun p => l.length - p) 0 100 (by simp) (by simp) (by first | (simp; done) | (simp; simp only [ML, List.map_replicate]; rfl)) ?_
  intro p hp
  simp
  refine ⟨fun hlt => ⟨by omega, by omega, Again.mk (p + 1) (by omega) (by simp [fill_step hlt]) (by first | omega | (simp; omega))⟩, fun hge => ?_⟩
  have : p = l.length := by omega
  subst this
  simp
theorem c174_ok : c174.ok Try.prog := mkCon_ok fun l hpre => c174_pc l hpre
/-- loop.example/g03007/laws.toHandS -/
noncomputable def c175 : Con := mkCon 175 false (α := (List THand)) (fun x => (fun (l : List THand) => [encLTHand l]) x) (fun _ => []) (fun x => (fun (l : List THand) => l.length ≤ 1099511627776) x) (fun x => (fun (l : List THand) => (.own (0, 1) 5 0 l.length : D)) x) (fun x => (fun (l : List THand) => [((0, 1), .arr false 5 yTHand (ML encTHand l))]) x)
@[simp] theorem c175_f : c175.f = 175 := rfl
@[simp] theorem c175_own : c175.own = false := rfl
theorem c175_inj : ∀ u_ v_ : (List THand), ((fun x => (fun (l : List THand) => [encLTHand l]) x) u_).map nz = ((fun x => (fun (l : List THand) => [encLTHand l]) x) v_).map nz → u_ = v_ := by
  intro u_ v_ h
  obtain l := u_
  obtain l' := v_
  simp [nz_lit, nz1_lit, nz_agg, nz_sl, nz1_sl, encLTHand] at h
  first | (simp [h]; done) | (obtain ⟨⟩ := h; simp_all; done) | simp_all
@[simp] theorem c175_fn (l : List THand) : c175.fn [.sl false 5 yTHand (ML encTHand l)] [] = some ((fun (l : List THand) => l.length ≤ 1099511627776) l, (fun (l : List THand) => (.own (0, 1) 5 0 l.length : D)) l, (fun (l : List THand) => [((0, 1), .arr false 5 yTHand (ML encTHand l))]) l) :=
  mkCon_fn (fun x y h _ => c175_inj x y h) (l : (List THand)) (by simp [nz, nz1, ML_nil, encLTHand]) rfl
@[simp] theorem c175_fn1 (s_l : Nat) (z_l : D) : c175.fn [.sl false s_l z_l []] [] = some ((fun (l : List THand) => l.length ≤ 1099511627776) [], (fun (l : List THand) => (.own (0, 1) 5 0 l.length : D)) [], (fun (l : List THand) => [((0, 1), .arr false 5 yTHand (ML encTHand l))]) []) :=
  mkCon_fn (fun x y h _ => c175_inj x y h) ([] : (List THand)) (by simp [nz, nz1, ML_nil, encLTHand]) rfl
theorem c175_pc (l : List THand) (hpre : l.length ≤ 1099511627776) : PCo Try.prog 175 [encLTHand l] (Tab.of []) (.own (0, 1) 5 0 l.length) (Tab.of [((0, 1), .arr false 5 yTHand (ML encTHand l))]) := by
  refine pco_of_run [] (E := ⟨[c214], []⟩) (m := false) (base := 0) (Env.ok_cons c214_ok Env.ok_nil) G_ok mix 300 6 Try.func175 (by kernel_rfl) rfl (by kernel_rfl) (by kernel_rfl) rfl ?_
  simp [Try.f175]
  refine ⟨by omega, ?_⟩
  refine loop_inv (fun p : Nat => p ≤ l.length) (fun p => [(0, encLTHand l), (3, .own (0, 1) 5 0 l.length), (4, dI p)]) (fun p => [((0, 1), .arr false 5 yTHand (ML encTHand (l.take p ++ List.replicate (l.length - p) ⟨0, 0, 0, 0, 0⟩)))]) 2 (fun p => l.length - p) 0 100 (by simp) (by simp) (by first | (simp; done) | (simp; simp only [ML, List.map_replicate]; rfl)) ?_
  intro p hp
  simp
  refine ⟨fun hlt => ⟨by omega, by omega, Again.mk (p + 1) (by omega) (by simp [fill_step hlt]) (by first | omega | (simp; omega))⟩, fun hge => ?_⟩
  have : p = l.length := by omega
  subst this
  simp
theorem c175_ok : c175.ok Try.prog := mkCon_ok fun l hpre => c175_pc l hpre
/-- loop.example/g03007/laws.toEntryS -/
noncomputable def c176 : Con := mkCon 176 false (α := (List TEntry)) (fun x => (fun (l : List TEntry) => [encLTEntry l]) x) (fun _ => []) (fun x => (fun (l : List TEntry) => l.length ≤ 1099511627776) x) (fun x => (fun (l : List TEntry) => (.own (0, 1) 4 0 l.length : D)) x) (fun x => (fun (l : List TEntry) => [((0, 1), .arr false 4 yTEntry (ML encTEntry l))]) x)
@[simp] theorem c176_f : c176.f = 176 := rfl
@[simp] theorem c176_own : c176.own = false := rfl
theorem c176_inj : ∀ u_ v_ : (List TEntry), ((fun x => (fun (l : List TEntry) => [encLTEntry l]) x) u_).map nz = ((fun x => (fun (l : List TEntry) => [encLTEntry l]) x) v_).map nz → u_ = v_ := by
  intro u_ v_ h
  obtain l := u_
  obtain l' := v_
  simp [nz_lit, nz1_lit, nz_agg, nz_sl, nz1_sl, encLTEntry] at h
  first | (simp [h]; done) | (obtain ⟨⟩ := h; simp_all; done) | simp_all
@[simp] theorem c176_fn (l : List TEntry) : c176.fn [.sl false 4 yTEntry (ML encTEntry l)] [] = some ((fun (l : List TEntry) => l.length ≤ 1099511627776) l, (fun (l : List TEntry) => (.own (0, 1) 4 0 l.length : D)) l, (fun (l : List TEntry) => [((0, 1), .arr false 4 yTEntry (ML encTEntry l))]) l) :=
  mkCon_fn (fun x y h _ => c176_inj x y h) (l : (List TEntry)) (by simp [nz, nz1, ML_nil, encLTEntry]) rfl
@[simp] theorem c176_fn1 (s_l : Nat) (z_l : D) : c176.fn [.sl false s_l z_l []] [] = some ((fun (l : List TEntry) => l.length ≤ 1099511627776) [], (fun (l : List TEntry) => (.own (0, 1) 4 0 l.length : D)) [], (fun (l : List TEntry) => [((0, 1), .arr false 4 yTEntry (ML encTEntry l))]) []) :=
  mkCon_fn (fun x y h _ => c176_inj x y h) ([] : (List TEntry)) (by simp [nz, nz1, ML_nil, encLTEntry]) rfl
theorem c176_pc (l : List TEntry) (hpre : l.length ≤ 1099511627776) : PCo Try.prog 176 [encLTEntry l] (Tab.of []) (.own (0, 1) 4 0 l.length) (Tab.of [((0, 1), .arr false 4 yTEntry (ML encTEntry l))]) := by
  refine pco_of_run [] (E := ⟨[c215], []⟩) (m := false) (base := 0) (Env.ok_cons c215_ok Env.ok_nil) G_ok mix 300 6 Try.func176 (by kernel_rfl) rfl (by kernel_rfl) (by kernel_rfl) rfl ?_
  simp [Try.f176]
  refine ⟨by omega, ?_⟩
  refine loop_inv (fun p : Nat => p ≤ l.length) (fun p => [(0, encLTEntry l), (3, .own (0, 1) 4 0 l.length), (4, dI p)]) (fun p => [((0, 1), .arr false 4 yTEntry (ML encTEntry (l.take p ++ List.replicate (l.length - p) ⟨0, 0, 0, 0⟩)))]) 2 (fun p => l.length - p) 0 100 (by simp) (by simp) (by first | (simp; done) | (simp; simp only [ML, List.map_replicate]; rfl)) ?_
  intro p hp
  simp
  refine ⟨fun hlt => ⟨by omega, by omega, Again.mk (p + 1) (by omega) (by simp [fill_step hlt]) (by first | omega | (simp; omega))⟩, fun hge => ?_⟩
  have : p = l.length := by omega
  subst this
  simp
theorem c176_ok : c176.ok Try.prog := mkCon_ok fun l hpre => c176_pc l hpre
/-- loop.example/g03007/laws.eqSlotS -/
noncomputable def c178 : Con := mkCon 178 false (α := (List TSlot) × (List TSlot)) (fun x => (fun (a : List TSlot) (b : List TSlot) => [encLTSlot a, encLTSlot b]) x.1 x.2) (fun _ => []) (fun x => (fun (a : List TSlot) (b : List TSlot) => a.length ≤ 1099511627776 ∧ b.length ≤ 1099511627776) x.1 x.2) (fun x => (fun (a : List TSlot) (b : List TSlot) => (dB (decide (a = b)) : D)) x.1 x.2) (fun x => (fun (a : List TSlot) (b : List TSlot) => []) x.1 x.2)
@[simp] theorem c178_f : c178.f = 178 := rfl
@[simp] theorem c178_own : c178.own = false := rfl
theorem c178_inj : ∀ u_ v_ : (List TSlot) × (List TSlot), ((fun x => (fun (a : List TSlot) (b : List TSlot) => [encLTSlot a, encLTSlot b]) x.1 x.2) u_).map nz = ((fun x => (fun (a : List TSlot) (b : List TSlot) => [encLTSlot a, encLTSlot b]) x.1 x.2) v_).map nz → u_ = v_ := by
  intro u_ v_ h
  obtain ⟨a, b⟩ := u_
  obtain ⟨a', b'⟩ := v_
  simp [nz_lit, nz1_lit, nz_agg, nz_sl, nz1_sl, encLTSlot] at h
  first | (simp [h]; done) | (obtain ⟨⟩ := h; simp_all; done) | simp_all
@[simp] theorem c178_fn (a : List TSlot) (b : List TSlot) : c178.fn [.sl false 3 yTSlot (ML encTSlot a), .sl false 3 yTSlot (ML encTSlot b)] [] = some ((fun (a : List TSlot) (b : List TSlot) => a.length ≤ 1099511627776 ∧ b.length ≤ 1099511627776) a b, (fun (a : List TSlot) (b : List TSlot) => (dB (decide (a = b)) : D)) a b, (fun (a : List TSlot) (b : List TSlot) => []) a b) :=
  mkCon_fn (fun x y h _ => c178_inj x y h) ((a, b) : (List TSlot) × (List TSlot)) (by simp [nz, nz1, ML_nil, encLTSlot]) rfl
@[simp] theorem c178_fn1 (s_a : Nat) (z_a : D) (b : List TSlot) : c178.fn [.sl false s_a z_a [], .sl false 3 yTSlot (ML encTSlot b)] [] = some ((fun (a : List TSlot) (b : List TSlot) => a.length ≤ 1099511627776 ∧ b.length ≤ 1099511627776) [] b, (fun (a : List TSlot) (b : List TSlot) => (dB (decide (a = b)) : D)) [] b, (fun (a : List TSlot) (b : List TSlot) => []) [] b) :=
  mkCon_fn (fun x y h _ => c178_inj x y h) (([], b) : (List TSlot) × (List TSlot)) (by simp [nz, nz1, ML_nil, encLTSlot]) rfl
@[simp] theorem c178_fn2 (a : List TSlot) (s_b : Nat) (z_b : D) : c178.fn [.sl false 3 yTSlot (ML encTSlot a), .sl false s_b z_b []] [] = some ((fun (a : List TSlot) (b : List TSlot) => a.length ≤ 1099511627776 ∧ b.length ≤ 1099511627776) a [], (fun (a : List TSlot) (b : List TSlot) => (dB (decide (a = b)) : D)) a [], (fun (a : List TSlot) (b : List TSlot) => []) a []) :=
  mkCon_fn (fun x y h _ => c178_inj x y h) ((a, []) : (List TSlot) × (List TSlot)) (by simp [nz, nz1, ML_nil, encLTSlot]) rfl
@[simp] theorem c178_fn3 (s_a : Nat) (z_a : D) (s_b : Nat) (z_b : D) : c178.fn [.sl false s_a z_a [], .sl false s_b z_b []] [] = some ((fun (a : List TSlot) (b : List TSlot) => a.length ≤ 1099511627776 ∧ b.length ≤ 1099511627776) [] [], (fun (a : List TSlot) (b : List TSlot) => (dB (decide (a = b)) : D)) [] [], (fun (a : List TSlot) (b : List TSlot) => []) [] []) :=
  mkCon_fn (fun x y h _ => c178_inj x y h) (([], []) : (List TSlot) × (List TSlot)) (by simp [nz, nz1, ML_nil, encLTSlot]) rfl
theorem c178_pc (a : List TSlot) (b : List TSlot) (hpre : a.length ≤ 1099511627776 ∧ b.length ≤ 1099511627776) : PCo Try.prog 178 [encLTSlot a, encLTSlot b] (Tab.of []) (dB (decide (a = b))) (Tab.of []) := by
  refine pco_of_run [] (E := ⟨[c218], []⟩) (m := false) (base := 0) (Env.ok_cons c218_ok Env.ok_nil) G_ok mix 300 6 Try.func178 (by kernel_rfl) rfl (by kernel_rfl) (by kernel_rfl) rfl ?_
  simp [Try.f178]
  obtain ⟨pre1, pre2⟩ := hpre
  refine ⟨fun h => ?_, fun h => by intro e; subst e; exact absurd rfl h⟩
  refine loop_inv (fun p : Nat => p ≤ a.length ∧ a.take p = b.take p) (fun p => [(0, encLTSlot a), (1, encLTSlot b), (5, dI p)]) (fun _ => []) 1 (fun p => a.length - p) 0 100 (by simp) (by simp) (by simp) ?_
  intro p ⟨hp, hi⟩
  simp
  refine ⟨fun hlt => ⟨by omega, fun h2 => ⟨by omega, Again.mk (p + 1) ⟨by omega, take_eq_step hi (by omega) (by omega) h2⟩ (by simp) (by first | omega | (simp; omega))⟩, fun h2 => by intro e; subst e; exact absurd rfl h2⟩, fun hge => ?_⟩
  exact take_eq_full hi (by omega) (by omega)
theorem c178_ok : c178.ok Try.prog := mkCon_ok fun ⟨a, b⟩ hpre => c178_pc a b hpre
/-- loop.example/g03007/laws.eqClaimS -/
noncomputable def c179 : Con := mkCon 179 false (α := (List TClaim) × (List TClaim)) (fun x => (fun (a : List TClaim) (b : List TClaim) => [encLTClaim a, encLTClaim b]) x.1 x.2) (fun _ => []) (fun x => (fun (a : List TClaim) (b : List TClaim) => a.length ≤ 1099511627776 ∧ b.length ≤ 1099511627776) x.1 x.2) (fun x => (fun (a : List TClaim) (b : List TClaim) => (dB (decide (a = b)) : D)) x.1 x.2) (fun x => (fun (a : List TClaim) (b : List TClaim) => []) x.1 x.2)
@[simp] theorem c179_f : c179.f = 179 := rfl
@[simp] theorem c179_own : c179.own = false := rfl
theorem c179_inj : ∀ u_ v_ : (List TClaim) × (List TClaim), ((fun x => (fun (a : List TClaim) (b : List TClaim) => [encLTClaim a, encLTClaim b]) x.1 x.2) u_).map nz = ((fun x => (fun (a : List TClaim) (b : List TClaim) => [encLTClaim a, encLTClaim b]) x.1 x.2) v_).map nz → u_ = v_ := by
  intro u_ v_ h
  obtain ⟨a, b⟩ := u_
  obtain ⟨a', b'⟩ := v_
  simp [nz_lit, nz1_lit, nz_agg, nz_sl, nz1_sl, encLTClaim] at h
  first | (simp [h]; done) | (obtain ⟨⟩ := h; simp_all; done) | simp_all
@[simp] theorem c179_fn (a : List TClaim) (b : List TClaim) : c179.fn [.sl false 5 yTClaim (ML encTClaim a), .sl false 5 yTClaim (ML encTClaim b)] [] = some ((fun (a : List TClaim) (b : List TClaim) => a.length ≤ 1099511627776 ∧ b.length ≤ 1099511627776) a b, (fun (a : List TClaim) (b : List TClaim) => (dB (decide (a = b)) : D)) a b, (fun (a : List TClaim) (b : List TClaim) => []) a b) :=
  mkCon_fn (fun x y h _ => c179_inj x y h) ((a, b) : (List TClaim) × (List TClaim)) (by simp [nz, nz1, ML_nil, encLTClaim]) rfl
@[simp] theorem c179_fn1 (s_a : Nat) (z_a : D) (b : List TClaim) : c179.fn [.sl false s_a z_a [], .sl false 5 yTClaim (ML encTClaim b)] [] = some ((fun (a : List TClaim) (b : List TClaim) => a.length ≤ 1099511627776 ∧ b.length ≤ 1099511627776) [] b, (fun (a : List TClaim) (b : List TClaim) => (dB (decide (a = b)) : D)) [] b, (fun (a : List TClaim) (b : List TClaim) => []) [] b) :=
  mkCon_fn (fun x y h _ => c179_inj x y h) (([], b) : (List TClaim) × (List TClaim)) (by simp [nz, nz1, ML_nil, encLTClaim]) rfl
@[simp] theorem c179_fn2 (a : List TClaim) (s_b : Nat) (z_b : D) : c179.fn [.sl false 5 yTClaim (ML encTClaim a), .sl false s_b z_b []] [] = some ((fun (a : List TClaim) (b : List TClaim) => a.length ≤ 1099511627776 ∧ b.length ≤ 1099511627776) a [], (fun (a : List TClaim) (b : List TClaim) => (dB (decide (a = b)) : D)) a [], (fun (a : List TClaim) (b : List TClaim) => []) a []) :=
  mkCon_fn (fun x y h _ => c179_inj x y h) ((a, []) : (List TClaim) × (List TClaim)) (by simp [nz, nz1, ML_nil, encLTClaim]) rfl
@[simp] theorem c179_fn3 (s_a : Nat) (z_a : D) (s_b : Nat) (z_b : D) : c179.fn [.sl false s_a z_a [], .sl false s_b z_b []] [] = some ((fun (a : List TClaim) (b : List TClaim) => a.length ≤ 1099511627776 ∧ b.length ≤ 1099511627776) [] [], (fun (a : List TClaim) (b : List TClaim) => (dB (decide (a = b)) : D)) [] [], (fun (a : List TClaim) (b : List TClaim) => []) [] []) :=
  mkCon_fn (fun x y h _ => c179_inj x y h) (([], []) : (List TClaim) × (List TClaim)) (by simp [nz, nz1, ML_nil, encLTClaim]) rfl
theorem c179_pc (a : List TClaim) (b : List TClaim) (hpre : a.length ≤ 1099511627776 ∧ b.length ≤ 1099511627776) : PCo Try.prog 179 [encLTClaim a, encLTClaim b] (Tab.of []) (dB (decide (a = b))) (Tab.of []) := by
  refine pco_of_run [] (E := ⟨[c219], []⟩) (m := false) (base := 0) (Env.ok_cons c219_ok Env.ok_nil) G_ok mix 300 6 Try.func179 (by kernel_rfl) rfl (by kernel_rfl) (by kernel_rfl) rfl ?_
  simp [Try.f179]
  obtain ⟨pre1, pre2⟩ := hpre
  refine ⟨fun h => ?_, fun h => by intro e; subst e; exact absurd rfl h⟩
  refine loop_inv (fun p : Nat => p ≤ a.length ∧ a.take p = b.take p) (fun p => [(0, encLTClaim a), (1, encLTClaim b), (5, dI p)]) (fun _ => []) 1 (fun p => a.length - p) 0 100 (by simp) (by simp) (by simp) ?_
  intro p ⟨hp, hi⟩
  simp
  refine ⟨fun hlt => ⟨by omega, fun h2 => ⟨by omega, Again.mk (p + 1) ⟨by omega, take_eq_step hi (by omega) (by omega) h2⟩ (by simp) (by first | omega | (simp; omega))⟩, fun h2 => by intro e; subst e; exact absurd rfl h2⟩, fun hge => ?_⟩
  exact take_eq_full hi (by omega) (by omega)
theorem c179_ok : c179.ok Try.prog := mkCon_ok fun ⟨a, b⟩ hpre => c179_pc a b hpre
/-- loop.example/g03007/laws.eqTrialS -/
noncomputable def c180 : Con := mkCon 180 false (α := (List TTrial) × (List TTrial)) (fun x => (fun (a : List TTrial) (b : List TTrial) => [encLTTrial a, encLTTrial b]) x.1 x.2) (fun _ => []) (fun x => (fun (a : List TTrial) (b : List TTrial) => a.length ≤ 1099511627776 ∧ b.length ≤ 1099511627776) x.1 x.2) (fun x => (fun (a : List TTrial) (b : List TTrial) => (dB (decide (a = b)) : D)) x.1 x.2) (fun x => (fun (a : List TTrial) (b : List TTrial) => []) x.1 x.2)
@[simp] theorem c180_f : c180.f = 180 := rfl
@[simp] theorem c180_own : c180.own = false := rfl
theorem c180_inj : ∀ u_ v_ : (List TTrial) × (List TTrial), ((fun x => (fun (a : List TTrial) (b : List TTrial) => [encLTTrial a, encLTTrial b]) x.1 x.2) u_).map nz = ((fun x => (fun (a : List TTrial) (b : List TTrial) => [encLTTrial a, encLTTrial b]) x.1 x.2) v_).map nz → u_ = v_ := by
  intro u_ v_ h
  obtain ⟨a, b⟩ := u_
  obtain ⟨a', b'⟩ := v_
  simp [nz_lit, nz1_lit, nz_agg, nz_sl, nz1_sl, encLTTrial] at h
  first | (simp [h]; done) | (obtain ⟨⟩ := h; simp_all; done) | simp_all
@[simp] theorem c180_fn (a : List TTrial) (b : List TTrial) : c180.fn [.sl false 4 yTTrial (ML encTTrial a), .sl false 4 yTTrial (ML encTTrial b)] [] = some ((fun (a : List TTrial) (b : List TTrial) => a.length ≤ 1099511627776 ∧ b.length ≤ 1099511627776) a b, (fun (a : List TTrial) (b : List TTrial) => (dB (decide (a = b)) : D)) a b, (fun (a : List TTrial) (b : List TTrial) => []) a b) :=
  mkCon_fn (fun x y h _ => c180_inj x y h) ((a, b) : (List TTrial) × (List TTrial)) (by simp [nz, nz1, ML_nil, encLTTrial]) rfl
@[simp] theorem c180_fn1 (s_a : Nat) (z_a : D) (b : List TTrial) : c180.fn [.sl false s_a z_a [], .sl false 4 yTTrial (ML encTTrial b)] [] = some ((fun (a : List TTrial) (b : List TTrial) => a.length ≤ 1099511627776 ∧ b.length ≤ 1099511627776) [] b, (fun (a : List TTrial) (b : List TTrial) => (dB (decide (a = b)) : D)) [] b, (fun (a : List TTrial) (b : List TTrial) => []) [] b) :=
  mkCon_fn (fun x y h _ => c180_inj x y h) (([], b) : (List TTrial) × (List TTrial)) (by simp [nz, nz1, ML_nil, encLTTrial]) rfl
@[simp] theorem c180_fn2 (a : List TTrial) (s_b : Nat) (z_b : D) : c180.fn [.sl false 4 yTTrial (ML encTTrial a), .sl false s_b z_b []] [] = some ((fun (a : List TTrial) (b : List TTrial) => a.length ≤ 1099511627776 ∧ b.length ≤ 1099511627776) a [], (fun (a : List TTrial) (b : List TTrial) => (dB (decide (a = b)) : D)) a [], (fun (a : List TTrial) (b : List TTrial) => []) a []) :=
  mkCon_fn (fun x y h _ => c180_inj x y h) ((a, []) : (List TTrial) × (List TTrial)) (by simp [nz, nz1, ML_nil, encLTTrial]) rfl
@[simp] theorem c180_fn3 (s_a : Nat) (z_a : D) (s_b : Nat) (z_b : D) : c180.fn [.sl false s_a z_a [], .sl false s_b z_b []] [] = some ((fun (a : List TTrial) (b : List TTrial) => a.length ≤ 1099511627776 ∧ b.length ≤ 1099511627776) [] [], (fun (a : List TTrial) (b : List TTrial) => (dB (decide (a = b)) : D)) [] [], (fun (a : List TTrial) (b : List TTrial) => []) [] []) :=
  mkCon_fn (fun x y h _ => c180_inj x y h) (([], []) : (List TTrial) × (List TTrial)) (by simp [nz, nz1, ML_nil, encLTTrial]) rfl
theorem c180_pc (a : List TTrial) (b : List TTrial) (hpre : a.length ≤ 1099511627776 ∧ b.length ≤ 1099511627776) : PCo Try.prog 180 [encLTTrial a, encLTTrial b] (Tab.of []) (dB (decide (a = b))) (Tab.of []) := by
  refine pco_of_run [] (E := ⟨[c220], []⟩) (m := false) (base := 0) (Env.ok_cons c220_ok Env.ok_nil) G_ok mix 300 6 Try.func180 (by kernel_rfl) rfl (by kernel_rfl) (by kernel_rfl) rfl ?_
  simp [Try.f180]
  obtain ⟨pre1, pre2⟩ := hpre
  refine ⟨fun h => ?_, fun h => by intro e; subst e; exact absurd rfl h⟩
  refine loop_inv (fun p : Nat => p ≤ a.length ∧ a.take p = b.take p) (fun p => [(0, encLTTrial a), (1, encLTTrial b), (5, dI p)]) (fun _ => []) 1 (fun p => a.length - p) 0 100 (by simp) (by simp) (by simp) ?_
  intro p ⟨hp, hi⟩
  simp
  refine ⟨fun hlt => ⟨by omega, fun h2 => ⟨by omega, Again.mk (p + 1) ⟨by omega, take_eq_step hi (by omega) (by omega) h2⟩ (by simp) (by first | omega | (simp; omega))⟩, fun h2 => by intro e; subst e; exact absurd rfl h2⟩, fun hge => ?_⟩
  exact take_eq_full hi (by omega) (by omega)
theorem c180_ok : c180.ok Try.prog := mkCon_ok fun ⟨a, b⟩ hpre => c180_pc a b hpre
/-- loop.example/g03007/laws.eqHandS -/
noncomputable def c181 : Con := mkCon 181 false (α := (List THand) × (List THand)) (fun x => (fun (a : List THand) (b : List THand) => [encLTHand a, encLTHand b]) x.1 x.2) (fun _ => []) (fun x => (fun (a : List THand) (b : List THand) => a.length ≤ 1099511627776 ∧ b.length ≤ 1099511627776) x.1 x.2) (fun x => (fun (a : List THand) (b : List THand) => (dB (decide (a = b)) : D)) x.1 x.2) (fun x => (fun (a : List THand) (b : List THand) => []) x.1 x.2)
@[simp] theorem c181_f : c181.f = 181 := rfl
@[simp] theorem c181_own : c181.own = false := rfl
theorem c181_inj : ∀ u_ v_ : (List THand) × (List THand), ((fun x => (fun (a : List THand) (b : List THand) => [encLTHand a, encLTHand b]) x.1 x.2) u_).map nz = ((fun x => (fun (a : List THand) (b : List THand) => [encLTHand a, encLTHand b]) x.1 x.2) v_).map nz → u_ = v_ := by
  intro u_ v_ h
  obtain ⟨a, b⟩ := u_
  obtain ⟨a', b'⟩ := v_
  simp [nz_lit, nz1_lit, nz_agg, nz_sl, nz1_sl, encLTHand] at h
  first | (simp [h]; done) | (obtain ⟨⟩ := h; simp_all; done) | simp_all
@[simp] theorem c181_fn (a : List THand) (b : List THand) : c181.fn [.sl false 5 yTHand (ML encTHand a), .sl false 5 yTHand (ML encTHand b)] [] = some ((fun (a : List THand) (b : List THand) => a.length ≤ 1099511627776 ∧ b.length ≤ 1099511627776) a b, (fun (a : List THand) (b : List THand) => (dB (decide (a = b)) : D)) a b, (fun (a : List THand) (b : List THand) => []) a b) :=
  mkCon_fn (fun x y h _ => c181_inj x y h) ((a, b) : (List THand) × (List THand)) (by simp [nz, nz1, ML_nil, encLTHand]) rfl
@[simp] theorem c181_fn1 (s_a : Nat) (z_a : D) (b : List THand) : c181.fn [.sl false s_a z_a [], .sl false 5 yTHand (ML encTHand b)] [] = some ((fun (a : List THand) (b : List THand) => a.length ≤ 1099511627776 ∧ b.length ≤ 1099511627776) [] b, (fun (a : List THand) (b : List THand) => (dB (decide (a = b)) : D)) [] b, (fun (a : List THand) (b : List THand) => []) [] b) :=
  mkCon_fn (fun x y h _ => c181_inj x y h) (([], b) : (List THand) × (List THand)) (by simp [nz, nz1, ML_nil, encLTHand]) rfl
@[simp] theorem c181_fn2 (a : List THand) (s_b : Nat) (z_b : D) : c181.fn [.sl false 5 yTHand (ML encTHand a), .sl false s_b z_b []] [] = some ((fun (a : List THand) (b : List THand) => a.length ≤ 1099511627776 ∧ b.length ≤ 1099511627776) a [], (fun (a : List THand) (b : List THand) => (dB (decide (a = b)) : D)) a [], (fun (a : List THand) (b : List THand) => []) a []) :=
  mkCon_fn (fun x y h _ => c181_inj x y h) ((a, []) : (List THand) × (List THand)) (by simp [nz, nz1, ML_nil, encLTHand]) rfl
@[simp] theorem c181_fn3 (s_a : Nat) (z_a : D) (s_b : Nat) (z_b : D) : c181.fn [.sl false s_a z_a [], .sl false s_b z_b []] [] = some ((fun (a : List THand) (b : List THand) => a.length ≤ 1099511627776 ∧ b.length ≤ 1099511627776) [] [], (fun (a : List THand) (b : List THand) => (dB (decide (a = b)) : D)) [] [], (fun (a : List THand) (b : List THand) => []) [] []) :=
  mkCon_fn (fun x y h _ => c181_inj x y h) (([], []) : (List THand) × (List THand)) (by simp [nz, nz1, ML_nil, encLTHand]) rfl
theorem c181_pc (a : List THand) (b : List THand) (hpre : a.length ≤ 1099511627776 ∧ b.length ≤ 1099511627776) : PCo Try.prog 181 [encLTHand a, encLTHand b] (Tab.of []) (dB (decide (a = b))) (Tab.of []) := by
  refine pco_of_run [] (E := ⟨[c221], []⟩) (m := false) (base := 0) (Env.ok_cons c221_ok Env.ok_nil) G_ok mix 300 6 Try.func181 (by kernel_rfl) rfl (by kernel_rfl) (by kernel_rfl) rfl ?_
  simp [Try.f181]
  obtain ⟨pre1, pre2⟩ := hpre
  refine ⟨fun h => ?_, fun h => by intro e; subst e; exact absurd rfl h⟩
  refine loop_inv (fun p : Nat => p ≤ a.length ∧ a.take p = b.take p) (fun p => [(0, encLTHand a), (1, encLTHand b), (5, dI p)]) (fun _ => []) 1 (fun p => a.length - p) 0 100 (by simp) (by simp) (by simp) ?_
  intro p ⟨hp, hi⟩
  simp
  refine ⟨fun hlt => ⟨by omega, fun h2 => ⟨by omega, Again.mk (p + 1) ⟨by omega, take_eq_step hi (by omega) (by omega) h2⟩ (by simp) (by first | omega | (simp; omega))⟩, fun h2 => by intro e; subst e; exact absurd rfl h2⟩, fun hge => ?_⟩
  exact take_eq_full hi (by omega) (by omega)
theorem c181_ok : c181.ok Try.prog := mkCon_ok fun ⟨a, b⟩ hpre => c181_pc a b hpre
/-- loop.example/g03007/laws.eqEntryS -/
noncomputable def c182 : Con := mkCon 182 false (α := (List TEntry) × (List TEntry)) (fun x => (fun (a : List TEntry) (b : List TEntry) => [encLTEntry a, encLTEntry b]) x.1 x.2) (fun _ => []) (fun x => (fun (a : List TEntry) (b : List TEntry) => a.length ≤ 1099511627776 ∧ b.length ≤ 1099511627776) x.1 x.2) (fun x => (fun (a : List TEntry) (b : List TEntry) => (dB (decide (a = b)) : D)) x.1 x.2) (fun x => (fun (a : List TEntry) (b : List TEntry) => []) x.1 x.2)
@[simp] theorem c182_f : c182.f = 182 := rfl
@[simp] theorem c182_own : c182.own = false := rfl
theorem c182_inj : ∀ u_ v_ : (List TEntry) × (List TEntry), ((fun x => (fun (a : List TEntry) (b : List TEntry) => [encLTEntry a, encLTEntry b]) x.1 x.2) u_).map nz = ((fun x => (fun (a : List TEntry) (b : List TEntry) => [encLTEntry a, encLTEntry b]) x.1 x.2) v_).map nz → u_ = v_ := by
  intro u_ v_ h
  obtain ⟨a, b⟩ := u_
  obtain ⟨a', b'⟩ := v_
  simp [nz_lit, nz1_lit, nz_agg, nz_sl, nz1_sl, encLTEntry] at h
  first | (simp [h]; done) | (obtain ⟨⟩ := h; simp_all; done) | simp_all
@[simp] theorem c182_fn (a : List TEntry) (b : List TEntry) : c182.fn [.sl false 4 yTEntry (ML encTEntry a), .sl false 4 yTEntry (ML encTEntry b)] [] = some ((fun (a : List TEntry) (b : List TEntry) => a.length ≤ 1099511627776 ∧ b.length ≤ 1099511627776) a b, (fun (a : List TEntry) (b : List TEntry) => (dB (decide (a = b)) : D)) a b, (fun (a : List TEntry) (b : List TEntry) => []) a b) :=
  mkCon_fn (fun x y h _ => c182_inj x y h) ((a, b) : (List TEntry) × (List TEntry)) (by simp [nz, nz1, ML_nil, encLTEntry]) rfl
@[simp] theorem c182_fn1 (s_a : Nat) (z_a : D) (b : List TEntry) : c182.fn [.sl false s_a z_a [], .sl false 4 yTEntry (ML encTEntry b)] [] = some ((fun (a : List TEntry) (b : List TEntry) => a.length ≤ 1099511627776 ∧ b.length ≤ 1099511627776) [] b, (fun (a : List TEntry) (b : List TEntry) => (dB (decide (a = b)) : D)) [] b, (fun (a : List TEntry) (b : List TEntry) => []) [] b) :=
  mkCon_fn (fun x y h _ => c182_inj x y h) (([], b) : (List TEntry) × (List TEntry)) (by simp [nz, nz1, ML_nil, encLTEntry]) rfl
@[simp] theorem c182_fn2 (a : List TEntry) (s_b : Nat) (z_b : D) : c182.fn [.sl false 4 yTEntry (ML encTEntry a), .sl false s_b z_b []] [] = some ((fun (a : List TEntry) (b : List TEntry) => a.length ≤ 1099511627776 ∧ b.length ≤ 1099511627776) a [], (fun (a : List TEntry) (b : List TEntry) => (dB (decide (a = b)) : D)) a [], (fun (a : List TEntry) (b : List TEntry) => []) a []) :=
  mkCon_fn (fun x y h _ => c182_inj x y h) ((a, []) : (List TEntry) × (List TEntry)) (by simp [nz, nz1, ML_nil, encLTEntry]) rfl
@[simp] theorem c182_fn3 (s_a : Nat) (z_a : D) (s_b : Nat) (z_b : D) : c182.fn [.sl false s_a z_a [], .sl false s_b z_b []] [] = some ((fun (a : List TEntry) (b : List TEntry) => a.length ≤ 1099511627776 ∧ b.length ≤ 1099511627776) [] [], (fun (a : List TEntry) (b : List TEntry) => (dB (decide (a = b)) : D)) [] [], (fun (a : List TEntry) (b : List TEntry) => []) [] []) :=
  mkCon_fn (fun x y h _ => c182_inj x y h) (([], []) : (List TEntry) × (List TEntry)) (by simp [nz, nz1, ML_nil, encLTEntry]) rfl
theorem c182_pc (a : List TEntry) (b : List TEntry) (hpre : a.length ≤ 1099511627776 ∧ b.length ≤ 1099511627776) : PCo Try.prog 182 [encLTEntry a, encLTEntry b] (Tab.of []) (dB (decide (a = b))) (Tab.of []) := by
  refine pco_of_run [] (E := ⟨[c222], []⟩) (m := false) (base := 0) (Env.ok_cons c222_ok Env.ok_nil) G_ok mix 300 6 Try.func182 (by kernel_rfl) rfl (by kernel_rfl) (by kernel_rfl) rfl ?_
  simp [Try.f182]
  obtain ⟨pre1, pre2⟩ := hpre
  refine ⟨fun h => ?_, fun h => by intro e; subst e; exact absurd rfl h⟩
  refine loop_inv (fun p : Nat => p ≤ a.length ∧ a.take p = b.take p) (fun p => [(0, encLTEntry a), (1, encLTEntry b), (5, dI p)]) (fun _ => []) 1 (fun p => a.length - p) 0 100 (by simp) (by simp) (by simp) ?_
  intro p ⟨hp, hi⟩
  simp
  refine ⟨fun hlt => ⟨by omega, fun h2 => ⟨by omega, Again.mk (p + 1) ⟨by omega, take_eq_step hi (by omega) (by omega) h2⟩ (by simp) (by first | omega | (simp; omega))⟩, fun h2 => by intro e; subst e; exact absurd rfl h2⟩, fun hge => ?_⟩
  exact take_eq_full hi (by omega) (by omega)
theorem c182_ok : c182.ok Try.prog := mkCon_ok fun ⟨a, b⟩ hpre => c182_pc a b hpre
@[simp] def smH (h : THouse) : Prop := h.Finds.length ≤ 1073741823 ∧ (h.Secrets.length ≤ 1073741823 ∧ ∀ x ∈ h.Secrets, smS x) ∧ h.Slots.length ≤ 1073741823 ∧ h.Claims.length ≤ 1073741823 ∧ h.Trials.length ≤ 1073741823 ∧ h.Chain.length ≤ 1073741823 ∧ h.Book.length ≤ 1073741823
@[simp] def smHM (h : THouse) : Prop := h.Finds.length ≤ maxLen ∧ (h.Secrets.length ≤ maxLen ∧ ∀ x ∈ h.Secrets, x.Marks.length ≤ maxLen) ∧ h.Slots.length ≤ maxLen ∧ h.Claims.length ≤ maxLen ∧ h.Trials.length ≤ maxLen ∧ h.Chain.length ≤ maxLen ∧ h.Book.length ≤ maxLen
/-- loop.example/g03007/laws.toHouse -/
noncomputable def c99 : Con := mkCon 99 false (α := THouse) (fun x => (fun (h : THouse) => [encTHouse h]) x) (fun _ => []) (fun x => (fun (h : THouse) => smH h) x) (fun x => (fun (h : THouse) => (encTHouse h : D)) x) (fun x => (fun (h : THouse) => []) x)
@[simp] theorem c99_f : c99.f = 99 := rfl
@[simp] theorem c99_own : c99.own = false := rfl
theorem c99_inj : ∀ u_ v_ : THouse, ((fun x => (fun (h : THouse) => [encTHouse h]) x) u_).map nz = ((fun x => (fun (h : THouse) => [encTHouse h]) x) v_).map nz → u_ = v_ := by
  intro u_ v_ h
  obtain ⟨h_No, h_Finds, h_Secrets, h_Slots, h_Claims, h_Trials, h_Chain, h_Book, h_Now⟩ := u_
  obtain ⟨h_No', h_Finds', h_Secrets', h_Slots', h_Claims', h_Trials', h_Chain', h_Book', h_Now'⟩ := v_
  simp [nz_lit, nz1_lit, nz_agg, nz_sl, nz1_sl, encLTClaim, encLTEntry, encLTFind, encLTHand, encLTSecret, encLTSlot, encLTTrial, encTHouse] at h
  first | (simp [h]; done) | (obtain ⟨⟩ := h; simp_all; done) | simp_all
@[simp] theorem c99_fn (h_No : Int) (h_Finds : List TFind) (h_Secrets : List TSecret) (h_Slots : List TSlot) (h_Claims : List TClaim) (h_Trials : List TTrial) (h_Chain : List THand) (h_Book : List TEntry) (h_Now : Int) : c99.fn [.agg [.lit (.int .i64 h_No), .sl false 8 yTFind (ML encTFind h_Finds), .sl false 3 yTSecret (ML encTSecret h_Secrets), .sl false 3 yTSlot (ML encTSlot h_Slots), .sl false 5 yTClaim (ML encTClaim h_Claims), .sl false 4 yTTrial (ML encTTrial h_Trials), .sl false 5 yTHand (ML encTHand h_Chain), .sl false 4 yTEntry (ML encTEntry h_Book), .lit (.int .i64 h_Now)]] [] = some ((fun (h : THouse) => smH h) ⟨h_No, h_Finds, h_Secrets, h_Slots, h_Claims, h_Trials, h_Chain, h_Book, h_Now⟩, (fun (h : THouse) => (encTHouse h : D)) ⟨h_No, h_Finds, h_Secrets, h_Slots, h_Claims, h_Trials, h_Chain, h_Book, h_Now⟩, (fun (h : THouse) => []) ⟨h_No, h_Finds, h_Secrets, h_Slots, h_Claims, h_Trials, h_Chain, h_Book, h_Now⟩) :=
  mkCon_fn (fun x y h _ => c99_inj x y h) (⟨h_No, h_Finds, h_Secrets, h_Slots, h_Claims, h_Trials, h_Chain, h_Book, h_Now⟩ : THouse) (by simp [nz, nz1, ML_nil, encLTClaim, encLTEntry, encLTFind, encLTHand, encLTSecret, encLTSlot, encLTTrial, encTHouse]) rfl
theorem c99_pc (h : THouse) (hpre : smH h) : PCo Try.prog 99 [encTHouse h] (Tab.of []) (encTHouse h) (Tab.of []) := by
  obtain ⟨h_No, h_Finds, h_Secrets, h_Slots, h_Claims, h_Trials, h_Chain, h_Book, h_Now⟩ := h
  refine pco_of_run [] (E := ⟨[c49, c85, c172, c173, c174, c175, c176], []⟩) (m := false) (base := 0) (Env.ok_cons c49_ok (Env.ok_cons c85_ok (Env.ok_cons c172_ok (Env.ok_cons c173_ok (Env.ok_cons c174_ok (Env.ok_cons c175_ok (Env.ok_cons c176_ok Env.ok_nil))))))) G_ok mix 300 6 Try.func99 (by kernel_rfl) rfl (by kernel_rfl) (by kernel_rfl) rfl ?_
  simp [Try.f99]
  simp at hpre
  obtain ⟨h1, ⟨h2, h3⟩, h4, h5, h6, h7, h8⟩ := hpre
  repeat' (first | exact h3 | omega | refine And.intro ?_ ?_ | intro _)
theorem c99_ok : c99.ok Try.prog := mkCon_ok fun h hpre => c99_pc h hpre
/-- loop.example/g03007/laws.eqHouse -/
noncomputable def c101 : Con := mkCon 101 false (α := THouse × THouse) (fun x => (fun (a : THouse) (b : THouse) => [encTHouse a, encTHouse b]) x.1 x.2) (fun _ => []) (fun x => (fun (a : THouse) (b : THouse) => smH a ∧ smH b) x.1 x.2) (fun x => (fun (a : THouse) (b : THouse) => (dB (decide (a = b)) : D)) x.1 x.2) (fun x => (fun (a : THouse) (b : THouse) => []) x.1 x.2)
@[simp] theorem c101_f : c101.f = 101 := rfl
@[simp] theorem c101_own : c101.own = false := rfl
theorem c101_inj : ∀ u_ v_ : THouse × THouse, ((fun x => (fun (a : THouse) (b : THouse) => [encTHouse a, encTHouse b]) x.1 x.2) u_).map nz = ((fun x => (fun (a : THouse) (b : THouse) => [encTHouse a, encTHouse b]) x.1 x.2) v_).map nz → u_ = v_ := by
  intro u_ v_ h
  obtain ⟨⟨a_No, a_Finds, a_Secrets, a_Slots, a_Claims, a_Trials, a_Chain, a_Book, a_Now⟩, ⟨b_No, b_Finds, b_Secrets, b_Slots, b_Claims, b_Trials, b_Chain, b_Book, b_Now⟩⟩ := u_
  obtain ⟨⟨a_No', a_Finds', a_Secrets', a_Slots', a_Claims', a_Trials', a_Chain', a_Book', a_Now'⟩, ⟨b_No', b_Finds', b_Secrets', b_Slots', b_Claims', b_Trials', b_Chain', b_Book', b_Now'⟩⟩ := v_
  simp [nz_lit, nz1_lit, nz_agg, nz_sl, nz1_sl, encLTClaim, encLTEntry, encLTFind, encLTHand, encLTSecret, encLTSlot, encLTTrial, encTHouse] at h
  first | (simp [h]; done) | (obtain ⟨⟩ := h; simp_all; done) | simp_all
@[simp] theorem c101_fn (a_No : Int) (a_Finds : List TFind) (a_Secrets : List TSecret) (a_Slots : List TSlot) (a_Claims : List TClaim) (a_Trials : List TTrial) (a_Chain : List THand) (a_Book : List TEntry) (a_Now : Int) (b_No : Int) (b_Finds : List TFind) (b_Secrets : List TSecret) (b_Slots : List TSlot) (b_Claims : List TClaim) (b_Trials : List TTrial) (b_Chain : List THand) (b_Book : List TEntry) (b_Now : Int) : c101.fn [.agg [.lit (.int .i64 a_No), .sl false 8 yTFind (ML encTFind a_Finds), .sl false 3 yTSecret (ML encTSecret a_Secrets), .sl false 3 yTSlot (ML encTSlot a_Slots), .sl false 5 yTClaim (ML encTClaim a_Claims), .sl false 4 yTTrial (ML encTTrial a_Trials), .sl false 5 yTHand (ML encTHand a_Chain), .sl false 4 yTEntry (ML encTEntry a_Book), .lit (.int .i64 a_Now)], .agg [.lit (.int .i64 b_No), .sl false 8 yTFind (ML encTFind b_Finds), .sl false 3 yTSecret (ML encTSecret b_Secrets), .sl false 3 yTSlot (ML encTSlot b_Slots), .sl false 5 yTClaim (ML encTClaim b_Claims), .sl false 4 yTTrial (ML encTTrial b_Trials), .sl false 5 yTHand (ML encTHand b_Chain), .sl false 4 yTEntry (ML encTEntry b_Book), .lit (.int .i64 b_Now)]] [] = some ((fun (a : THouse) (b : THouse) => smH a ∧ smH b) ⟨a_No, a_Finds, a_Secrets, a_Slots, a_Claims, a_Trials, a_Chain, a_Book, a_Now⟩ ⟨b_No, b_Finds, b_Secrets, b_Slots, b_Claims, b_Trials, b_Chain, b_Book, b_Now⟩, (fun (a : THouse) (b : THouse) => (dB (decide (a = b)) : D)) ⟨a_No, a_Finds, a_Secrets, a_Slots, a_Claims, a_Trials, a_Chain, a_Book, a_Now⟩ ⟨b_No, b_Finds, b_Secrets, b_Slots, b_Claims, b_Trials, b_Chain, b_Book, b_Now⟩, (fun (a : THouse) (b : THouse) => []) ⟨a_No, a_Finds, a_Secrets, a_Slots, a_Claims, a_Trials, a_Chain, a_Book, a_Now⟩ ⟨b_No, b_Finds, b_Secrets, b_Slots, b_Claims, b_Trials, b_Chain, b_Book, b_Now⟩) :=
  mkCon_fn (fun x y h _ => c101_inj x y h) ((⟨a_No, a_Finds, a_Secrets, a_Slots, a_Claims, a_Trials, a_Chain, a_Book, a_Now⟩, ⟨b_No, b_Finds, b_Secrets, b_Slots, b_Claims, b_Trials, b_Chain, b_Book, b_Now⟩) : THouse × THouse) (by simp [nz, nz1, ML_nil, encLTClaim, encLTEntry, encLTFind, encLTHand, encLTSecret, encLTSlot, encLTTrial, encTHouse]) rfl
theorem c101_pc (a : THouse) (b : THouse) (hpre : smH a ∧ smH b) : PCo Try.prog 101 [encTHouse a, encTHouse b] (Tab.of []) (dB (decide (a = b))) (Tab.of []) := by
  obtain ⟨a_No, a_Finds, a_Secrets, a_Slots, a_Claims, a_Trials, a_Chain, a_Book, a_Now⟩ := a
  obtain ⟨b_No, b_Finds, b_Secrets, b_Slots, b_Claims, b_Trials, b_Chain, b_Book, b_Now⟩ := b
  refine pco_of_run [] (E := ⟨[c52, c87, c178, c179, c180, c181, c182], []⟩) (m := false) (base := 0) (Env.ok_cons c52_ok (Env.ok_cons c87_ok (Env.ok_cons c178_ok (Env.ok_cons c179_ok (Env.ok_cons c180_ok (Env.ok_cons c181_ok (Env.ok_cons c182_ok Env.ok_nil))))))) G_ok mix 300 6 Try.func101 (by kernel_rfl) rfl (by kernel_rfl) (by kernel_rfl) rfl ?_
  simp [Try.f101]
  simp at hpre
  obtain ⟨⟨h1, ⟨h2, h3⟩, h4, h5, h6, h7, h8⟩, k1, ⟨k2, k3⟩, k4, k5, k6, k7, k8⟩ := hpre
  repeat' (first | exact h3 | exact k3 | omega | refine And.intro ?_ ?_ | intro _)
  all_goals first | grind | trace_state
theorem c101_ok : c101.ok Try.prog := mkCon_ok fun ⟨a, b⟩ hpre => c101_pc a b hpre
def sz1 (n : Nat) (q : Int) : Int := if q - n < 0 then -1 else q - n
def thenS (q : Int) (f : Int → Int) : Int := if q < 0 then -1 else f q
def szHo (h : THouse) (q : Int) : Int := thenS (sz1 h.Finds.length q) fun a => thenS (szDeep szSec h.Secrets a) fun b => thenS (sz1 h.Slots.length b) fun c => thenS (sz1 h.Claims.length c) fun d => thenS (sz1 h.Trials.length d) fun e => thenS (sz1 h.Chain.length e) fun f => thenS (sz1 h.Book.length f) fun g => g
theorem sz1_ok {n : Nat} {q : Int} (h : 0 ≤ sz1 n q) : n ≤ q ∧ sz1 n q ≤ q := by
  simp only [sz1] at h ⊢; split at h <;> rename_i h2
  · omega
  · rw [if_neg h2]; omega
theorem thenS_ok {q : Int} {f : Int → Int} (h : 0 ≤ thenS q f) : 0 ≤ q ∧ 0 ≤ f q ∧ thenS q f = f q := by
  simp only [thenS] at h ⊢; split at h <;> rename_i h2
  · omega
  · rw [if_neg h2]; omega
theorem szHo_ok {h : THouse} {q : Int} (h0 : 0 ≤ szHo h q) : szHo h q ≤ q ∧ h.Finds.length ≤ q ∧ (h.Secrets.length ≤ q ∧ ∀ x ∈ h.Secrets, (x.Marks.length : Int) ≤ q) ∧ h.Slots.length ≤ q ∧ h.Claims.length ≤ q ∧ h.Trials.length ≤ q ∧ h.Chain.length ≤ q ∧ h.Book.length ≤ q := by
  simp only [szHo] at h0 ⊢
  have a := thenS_ok h0; rw [a.2.2]; have a1 := sz1_ok a.1
  have b := thenS_ok a.2.1; rw [b.2.2]; have b1 := szSS_ok b.1
  have c := thenS_ok b.2.1; rw [c.2.2]; have c1 := sz1_ok c.1
  have d := thenS_ok c.2.1; rw [d.2.2]; have d1 := sz1_ok d.1
  have e := thenS_ok d.2.1; rw [e.2.2]; have e1 := sz1_ok e.1
  have f := thenS_ok e.2.1; rw [f.2.2]; have f1 := sz1_ok f.1
  have g := thenS_ok f.2.1; rw [g.2.2]; have g1 := sz1_ok g.1
  refine ⟨by omega, by omega, ⟨by omega, fun x hx => ?_⟩, by omega, by omega, by omega, by omega, by omega⟩
  have := b1.2.2 x hx; omega
theorem if_sz1 (n : Nat) (q : Int) : (if q - n < 0 then -1 else q - n) = sz1 n q := rfl
/-- loop.example/g03007/laws.szHouse -/
noncomputable def c97 : Con := mkCon 97 false (α := THouse × Int) (fun x => (fun (h : THouse) (q : Int) => [encTHouse h, dI q]) x.1 x.2) (fun _ => []) (fun x => (fun (h : THouse) (q : Int) => smHM h ∧ 0 ≤ q ∧ q ≤ 1099511627776) x.1 x.2) (fun x => (fun (h : THouse) (q : Int) => (dI (szHo h q) : D)) x.1 x.2) (fun x => (fun (h : THouse) (q : Int) => []) x.1 x.2)
@[simp] theorem c97_f : c97.f = 97 := rfl
@[simp] theorem c97_own : c97.own = false := rfl
theorem c97_inj : ∀ u_ v_ : THouse × Int, ((fun x => (fun (h : THouse) (q : Int) => [encTHouse h, dI q]) x.1 x.2) u_).map nz = ((fun x => (fun (h : THouse) (q : Int) => [encTHouse h, dI q]) x.1 x.2) v_).map nz → u_ = v_ := by
  intro u_ v_ h
  obtain ⟨⟨h_No, h_Finds, h_Secrets, h_Slots, h_Claims, h_Trials, h_Chain, h_Book, h_Now⟩, q⟩ := u_
  obtain ⟨⟨h_No', h_Finds', h_Secrets', h_Slots', h_Claims', h_Trials', h_Chain', h_Book', h_Now'⟩, q'⟩ := v_
  simp [nz_lit, nz1_lit, nz_agg, nz_sl, nz1_sl, encLTClaim, encLTEntry, encLTFind, encLTHand, encLTSecret, encLTSlot, encLTTrial, encTHouse] at h
  first | (simp [h]; done) | (obtain ⟨⟩ := h; simp_all; done) | simp_all
@[simp] theorem c97_fn (h_No : Int) (h_Finds : List TFind) (h_Secrets : List TSecret) (h_Slots : List TSlot) (h_Claims : List TClaim) (h_Trials : List TTrial) (h_Chain : List THand) (h_Book : List TEntry) (h_Now : Int) (q : Int) : c97.fn [.agg [.lit (.int .i64 h_No), .sl false 8 yTFind (ML encTFind h_Finds), .sl false 3 yTSecret (ML encTSecret h_Secrets), .sl false 3 yTSlot (ML encTSlot h_Slots), .sl false 5 yTClaim (ML encTClaim h_Claims), .sl false 4 yTTrial (ML encTTrial h_Trials), .sl false 5 yTHand (ML encTHand h_Chain), .sl false 4 yTEntry (ML encTEntry h_Book), .lit (.int .i64 h_Now)], .lit (.int .i64 q)] [] = some ((fun (h : THouse) (q : Int) => smHM h ∧ 0 ≤ q ∧ q ≤ 1099511627776) ⟨h_No, h_Finds, h_Secrets, h_Slots, h_Claims, h_Trials, h_Chain, h_Book, h_Now⟩ q, (fun (h : THouse) (q : Int) => (dI (szHo h q) : D)) ⟨h_No, h_Finds, h_Secrets, h_Slots, h_Claims, h_Trials, h_Chain, h_Book, h_Now⟩ q, (fun (h : THouse) (q : Int) => []) ⟨h_No, h_Finds, h_Secrets, h_Slots, h_Claims, h_Trials, h_Chain, h_Book, h_Now⟩ q) :=
  mkCon_fn (fun x y h _ => c97_inj x y h) ((⟨h_No, h_Finds, h_Secrets, h_Slots, h_Claims, h_Trials, h_Chain, h_Book, h_Now⟩, q) : THouse × Int) (by simp [nz, nz1, ML_nil, encLTClaim, encLTEntry, encLTFind, encLTHand, encLTSecret, encLTSlot, encLTTrial, encTHouse]) rfl
theorem c97_pc (h : THouse) (q : Int) (hpre : smHM h ∧ 0 ≤ q ∧ q ≤ 1099511627776) : PCo Try.prog 97 [encTHouse h, dI q] (Tab.of []) (dI (szHo h q)) (Tab.of []) := by
  refine pco_of_run [] (E := ⟨[c47, c83, c167, c168, c169, c170, c171], []⟩) (m := false) (base := 0) (Env.ok_cons c47_ok (Env.ok_cons c83_ok (Env.ok_cons c167_ok (Env.ok_cons c168_ok (Env.ok_cons c169_ok (Env.ok_cons c170_ok (Env.ok_cons c171_ok Env.ok_nil))))))) G_ok mix 300 6 Try.func97 (by kernel_rfl) rfl (by kernel_rfl) (by kernel_rfl) rfl ?_
  simp at hpre
  obtain ⟨⟨h1, ⟨h2, h3⟩, h4, h5, h6, h7, h8⟩, h9, h10⟩ := hpre
  have hn1 : ∀ n q, 0 ≤ sz1 n q → sz1 n q ≤ q := fun n q h => (sz1_ok h).2
  have hn2 : ∀ l q, 0 ≤ szDeep szSec l q → szDeep szSec l q ≤ q := fun l q h => (szSS_ok h).2.1
  simp [Try.f97, if_sz1]
  refine ⟨⟨h1, h9, h10⟩, fun x => ?_, fun x1 => ⟨⟨h2, h3, x1, by have := hn1 _ _ x1; omega⟩, fun x => ?_, fun x2 => ⟨⟨h4, x2, by have := hn1 _ _ x1; have := hn2 _ _ x2; omega⟩, fun x => ?_, fun x3 => ⟨⟨h5, x3, by have := hn1 _ _ x1; have := hn2 _ _ x2; have := hn1 _ _ x3; omega⟩, fun x => ?_, fun x4 => ⟨⟨h6, x4, by have := hn1 _ _ x1; have := hn2 _ _ x2; have := hn1 _ _ x3; have := hn1 _ _ x4; omega⟩, fun x => ?_, fun x5 => ⟨⟨h7, x5, by have := hn1 _ _ x1; have := hn2 _ _ x2; have := hn1 _ _ x3; have := hn1 _ _ x4; have := hn1 _ _ x5; omega⟩, fun x => ?_, fun x6 => ⟨⟨h8, x6, by have := hn1 _ _ x1; have := hn2 _ _ x2; have := hn1 _ _ x3; have := hn1 _ _ x4; have := hn1 _ _ x5; have := hn1 _ _ x6; omega⟩, ?_⟩⟩⟩⟩⟩⟩⟩
  all_goals simp only [szHo, thenS]
  all_goals grind
theorem c97_ok : c97.ok Try.prog := mkCon_ok fun ⟨h, q⟩ hpre => c97_pc h q hpre

end Go.Proofs.YtmhbciaolpamaaaR
