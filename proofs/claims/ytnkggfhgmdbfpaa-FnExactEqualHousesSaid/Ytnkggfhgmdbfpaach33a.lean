/- Contracts of the functions that the laws run. -/
import Derived.Test.Ytnkggfhgmdbfpaach31b
import Derived.Test.Ytnkggfhgmdbfpaach06
import Derived.Test.YtnkggfhgmdbfpaahelpA
import Derived.Test.Ytnkggfhgmdbfpaagen
import Derived.Test.YtnkggfhgmdbfpaaEngB
namespace Go.Proofs.Ytnkggfhgmdbfpaa
open Go Go.Eng
set_option linter.unusedSimpArgs false
set_option linter.unusedVariables false
set_option maxRecDepth 10000
set_option maxHeartbeats 1000000
/-- loop.example/g03007/laws.toSlot -/
noncomputable def c139 : Con := mkCon 139 false (α := TSlot) (fun x => (fun (a : TSlot) => [encTSlot a]) x) (fun _ => []) (fun x => (fun (a : TSlot) => True) x) (fun x => (fun (a : TSlot) => (encTSlot a : D)) x) (fun x => (fun (a : TSlot) => []) x)
@[simp] theorem c139_f : c139.f = 139 := rfl
@[simp] theorem c139_own : c139.own = false := rfl
theorem c139_inj : ∀ u_ v_ : TSlot, ((fun x => (fun (a : TSlot) => [encTSlot a]) x) u_).map nz = ((fun x => (fun (a : TSlot) => [encTSlot a]) x) v_).map nz → u_ = v_ := by
  intro u_ v_ h
  obtain ⟨a_Id, a_Size, a_Thing⟩ := u_
  obtain ⟨a_Id', a_Size', a_Thing'⟩ := v_
  simp [nz_lit, nz1_lit, nz_agg, nz_sl, nz1_sl, encTSlot] at h
  first | (simp [h]; done) | (obtain ⟨⟩ := h; simp_all; done) | simp_all
@[simp] theorem c139_fn (a_Id : Int) (a_Size : Int) (a_Thing : Int) : c139.fn [.agg [.lit (.int .i64 a_Id), .lit (.int .i64 a_Size), .lit (.int .i64 a_Thing)]] [] = some ((fun (a : TSlot) => True) ⟨a_Id, a_Size, a_Thing⟩, (fun (a : TSlot) => (encTSlot a : D)) ⟨a_Id, a_Size, a_Thing⟩, (fun (a : TSlot) => []) ⟨a_Id, a_Size, a_Thing⟩) :=
  mkCon_fn (fun x y h _ => c139_inj x y h) (⟨a_Id, a_Size, a_Thing⟩ : TSlot) (by simp [nz, nz1, ML_nil, encTSlot]) rfl
theorem c139_pc (a : TSlot) : PCo Try.prog 139 [encTSlot a] (Tab.of []) (encTSlot a) (Tab.of []) := by
  obtain ⟨a_Id, a_Size, a_Thing⟩ := a
  refine pco_of_run [] (E := ⟨[], []⟩) (m := false) (base := 0) Env.ok_nil G_ok mix 300 6 Try.func139 (by kernel_rfl) rfl (by kernel_rfl) (by kernel_rfl) rfl ?_
  simp [Try.f139]
  all_goals first | omega | (rw [Bool.eq_iff_iff]; simp; omega) | grind
theorem c139_ok : c139.ok Try.prog := mkCon_ok fun a hpre => c139_pc a
/-- loop.example/g03007/laws.eqSlot -/
noncomputable def c143 : Con := mkCon 143 false (α := TSlot × TSlot) (fun x => (fun (a : TSlot) (b : TSlot) => [encTSlot a, encTSlot b]) x.1 x.2) (fun _ => []) (fun x => (fun (a : TSlot) (b : TSlot) => True) x.1 x.2) (fun x => (fun (a : TSlot) (b : TSlot) => (dB (decide (a = b)) : D)) x.1 x.2) (fun x => (fun (a : TSlot) (b : TSlot) => []) x.1 x.2)
@[simp] theorem c143_f : c143.f = 143 := rfl
@[simp] theorem c143_own : c143.own = false := rfl
theorem c143_inj : ∀ u_ v_ : TSlot × TSlot, ((fun x => (fun (a : TSlot) (b : TSlot) => [encTSlot a, encTSlot b]) x.1 x.2) u_).map nz = ((fun x => (fun (a : TSlot) (b : TSlot) => [encTSlot a, encTSlot b]) x.1 x.2) v_).map nz → u_ = v_ := by
  intro u_ v_ h
  obtain ⟨⟨a_Id, a_Size, a_Thing⟩, ⟨b_Id, b_Size, b_Thing⟩⟩ := u_
  obtain ⟨⟨a_Id', a_Size', a_Thing'⟩, ⟨b_Id', b_Size', b_Thing'⟩⟩ := v_
  simp [nz_lit, nz1_lit, nz_agg, nz_sl, nz1_sl, encTSlot] at h
  first | (simp [h]; done) | (obtain ⟨⟩ := h; simp_all; done) | simp_all
@[simp] theorem c143_fn (a_Id : Int) (a_Size : Int) (a_Thing : Int) (b_Id : Int) (b_Size : Int) (b_Thing : Int) : c143.fn [.agg [.lit (.int .i64 a_Id), .lit (.int .i64 a_Size), .lit (.int .i64 a_Thing)], .agg [.lit (.int .i64 b_Id), .lit (.int .i64 b_Size), .lit (.int .i64 b_Thing)]] [] = some ((fun (a : TSlot) (b : TSlot) => True) ⟨a_Id, a_Size, a_Thing⟩ ⟨b_Id, b_Size, b_Thing⟩, (fun (a : TSlot) (b : TSlot) => (dB (decide (a = b)) : D)) ⟨a_Id, a_Size, a_Thing⟩ ⟨b_Id, b_Size, b_Thing⟩, (fun (a : TSlot) (b : TSlot) => []) ⟨a_Id, a_Size, a_Thing⟩ ⟨b_Id, b_Size, b_Thing⟩) :=
  mkCon_fn (fun x y h _ => c143_inj x y h) ((⟨a_Id, a_Size, a_Thing⟩, ⟨b_Id, b_Size, b_Thing⟩) : TSlot × TSlot) (by simp [nz, nz1, ML_nil, encTSlot]) rfl
theorem c143_pc (a : TSlot) (b : TSlot) : PCo Try.prog 143 [encTSlot a, encTSlot b] (Tab.of []) (dB (decide (a = b))) (Tab.of []) := by
  obtain ⟨a_Id, a_Size, a_Thing⟩ := a
  obtain ⟨b_Id, b_Size, b_Thing⟩ := b
  refine pco_of_run [] (E := ⟨[], []⟩) (m := false) (base := 0) Env.ok_nil G_ok mix 300 6 Try.func143 (by kernel_rfl) rfl (by kernel_rfl) (by kernel_rfl) rfl ?_
  simp [Try.f143]
  all_goals first | omega | (rw [Bool.eq_iff_iff]; simp; omega) | grind
theorem c143_ok : c143.ok Try.prog := mkCon_ok fun ⟨a, b⟩ hpre => c143_pc a b
/-- loop.example/g03007/laws.toClaim -/
noncomputable def c226 : Con := mkCon 226 false (α := TClaim) (fun x => (fun (a : TClaim) => [encTClaim a]) x) (fun _ => []) (fun x => (fun (a : TClaim) => True) x) (fun x => (fun (a : TClaim) => (encTClaim a : D)) x) (fun x => (fun (a : TClaim) => []) x)
@[simp] theorem c226_f : c226.f = 226 := rfl
@[simp] theorem c226_own : c226.own = false := rfl
theorem c226_inj : ∀ u_ v_ : TClaim, ((fun x => (fun (a : TClaim) => [encTClaim a]) x) u_).map nz = ((fun x => (fun (a : TClaim) => [encTClaim a]) x) v_).map nz → u_ = v_ := by
  intro u_ v_ h
  obtain ⟨a_Id, a_Who, a_Thing, a_At, a_State⟩ := u_
  obtain ⟨a_Id', a_Who', a_Thing', a_At', a_State'⟩ := v_
  simp [nz_lit, nz1_lit, nz_agg, nz_sl, nz1_sl, encTClaim] at h
  first | (simp [h]; done) | (obtain ⟨⟩ := h; simp_all; done) | simp_all
@[simp] theorem c226_fn (a_Id : Int) (a_Who : Int) (a_Thing : Int) (a_At : Int) (a_State : Int) : c226.fn [.agg [.lit (.int .i64 a_Id), .lit (.int .i64 a_Who), .lit (.int .i64 a_Thing), .lit (.int .i64 a_At), .lit (.int .i64 a_State)]] [] = some ((fun (a : TClaim) => True) ⟨a_Id, a_Who, a_Thing, a_At, a_State⟩, (fun (a : TClaim) => (encTClaim a : D)) ⟨a_Id, a_Who, a_Thing, a_At, a_State⟩, (fun (a : TClaim) => []) ⟨a_Id, a_Who, a_Thing, a_At, a_State⟩) :=
  mkCon_fn (fun x y h _ => c226_inj x y h) (⟨a_Id, a_Who, a_Thing, a_At, a_State⟩ : TClaim) (by simp [nz, nz1, ML_nil, encTClaim]) rfl
theorem c226_pc (a : TClaim) : PCo Try.prog 226 [encTClaim a] (Tab.of []) (encTClaim a) (Tab.of []) := by
  obtain ⟨a_Id, a_Who, a_Thing, a_At, a_State⟩ := a
  refine pco_of_run [] (E := ⟨[], []⟩) (m := false) (base := 0) Env.ok_nil G_ok mix 300 6 Try.func226 (by kernel_rfl) rfl (by kernel_rfl) (by kernel_rfl) rfl ?_
  simp [Try.f226]
  all_goals first | omega | (rw [Bool.eq_iff_iff]; simp; omega) | grind
theorem c226_ok : c226.ok Try.prog := mkCon_ok fun a hpre => c226_pc a
/-- loop.example/g03007/laws.eqClaim -/
noncomputable def c234 : Con := mkCon 234 false (α := TClaim × TClaim) (fun x => (fun (a : TClaim) (b : TClaim) => [encTClaim a, encTClaim b]) x.1 x.2) (fun _ => []) (fun x => (fun (a : TClaim) (b : TClaim) => True) x.1 x.2) (fun x => (fun (a : TClaim) (b : TClaim) => (dB (decide (a = b)) : D)) x.1 x.2) (fun x => (fun (a : TClaim) (b : TClaim) => []) x.1 x.2)
@[simp] theorem c234_f : c234.f = 234 := rfl
@[simp] theorem c234_own : c234.own = false := rfl
theorem c234_inj : ∀ u_ v_ : TClaim × TClaim, ((fun x => (fun (a : TClaim) (b : TClaim) => [encTClaim a, encTClaim b]) x.1 x.2) u_).map nz = ((fun x => (fun (a : TClaim) (b : TClaim) => [encTClaim a, encTClaim b]) x.1 x.2) v_).map nz → u_ = v_ := by
  intro u_ v_ h
  obtain ⟨⟨a_Id, a_Who, a_Thing, a_At, a_State⟩, ⟨b_Id, b_Who, b_Thing, b_At, b_State⟩⟩ := u_
  obtain ⟨⟨a_Id', a_Who', a_Thing', a_At', a_State'⟩, ⟨b_Id', b_Who', b_Thing', b_At', b_State'⟩⟩ := v_
  simp [nz_lit, nz1_lit, nz_agg, nz_sl, nz1_sl, encTClaim] at h
  first | (simp [h]; done) | (obtain ⟨⟩ := h; simp_all; done) | simp_all
@[simp] theorem c234_fn (a_Id : Int) (a_Who : Int) (a_Thing : Int) (a_At : Int) (a_State : Int) (b_Id : Int) (b_Who : Int) (b_Thing : Int) (b_At : Int) (b_State : Int) : c234.fn [.agg [.lit (.int .i64 a_Id), .lit (.int .i64 a_Who), .lit (.int .i64 a_Thing), .lit (.int .i64 a_At), .lit (.int .i64 a_State)], .agg [.lit (.int .i64 b_Id), .lit (.int .i64 b_Who), .lit (.int .i64 b_Thing), .lit (.int .i64 b_At), .lit (.int .i64 b_State)]] [] = some ((fun (a : TClaim) (b : TClaim) => True) ⟨a_Id, a_Who, a_Thing, a_At, a_State⟩ ⟨b_Id, b_Who, b_Thing, b_At, b_State⟩, (fun (a : TClaim) (b : TClaim) => (dB (decide (a = b)) : D)) ⟨a_Id, a_Who, a_Thing, a_At, a_State⟩ ⟨b_Id, b_Who, b_Thing, b_At, b_State⟩, (fun (a : TClaim) (b : TClaim) => []) ⟨a_Id, a_Who, a_Thing, a_At, a_State⟩ ⟨b_Id, b_Who, b_Thing, b_At, b_State⟩) :=
  mkCon_fn (fun x y h _ => c234_inj x y h) ((⟨a_Id, a_Who, a_Thing, a_At, a_State⟩, ⟨b_Id, b_Who, b_Thing, b_At, b_State⟩) : TClaim × TClaim) (by simp [nz, nz1, ML_nil, encTClaim]) rfl
theorem c234_pc (a : TClaim) (b : TClaim) : PCo Try.prog 234 [encTClaim a, encTClaim b] (Tab.of []) (dB (decide (a = b))) (Tab.of []) := by
  obtain ⟨a_Id, a_Who, a_Thing, a_At, a_State⟩ := a
  obtain ⟨b_Id, b_Who, b_Thing, b_At, b_State⟩ := b
  refine pco_of_run [] (E := ⟨[], []⟩) (m := false) (base := 0) Env.ok_nil G_ok mix 300 6 Try.func234 (by kernel_rfl) rfl (by kernel_rfl) (by kernel_rfl) rfl ?_
  simp [Try.f234]
  all_goals first | omega | (rw [Bool.eq_iff_iff]; simp; omega) | grind
theorem c234_ok : c234.ok Try.prog := mkCon_ok fun ⟨a, b⟩ hpre => c234_pc a b
/-- loop.example/g03007/laws.toTrial -/
noncomputable def c227 : Con := mkCon 227 false (α := TTrial) (fun x => (fun (a : TTrial) => [encTTrial a]) x) (fun _ => []) (fun x => (fun (a : TTrial) => True) x) (fun x => (fun (a : TTrial) => (encTTrial a : D)) x) (fun x => (fun (a : TTrial) => []) x)
@[simp] theorem c227_f : c227.f = 227 := rfl
@[simp] theorem c227_own : c227.own = false := rfl
theorem c227_inj : ∀ u_ v_ : TTrial, ((fun x => (fun (a : TTrial) => [encTTrial a]) x) u_).map nz = ((fun x => (fun (a : TTrial) => [encTTrial a]) x) v_).map nz → u_ = v_ := by
  intro u_ v_ h
  obtain ⟨a_Claim, a_Asked, a_Right, a_Wrong⟩ := u_
  obtain ⟨a_Claim', a_Asked', a_Right', a_Wrong'⟩ := v_
  simp [nz_lit, nz1_lit, nz_agg, nz_sl, nz1_sl, encTTrial] at h
  first | (simp [h]; done) | (obtain ⟨⟩ := h; simp_all; done) | simp_all
@[simp] theorem c227_fn (a_Claim : Int) (a_Asked : Int) (a_Right : Int) (a_Wrong : Int) : c227.fn [.agg [.lit (.int .i64 a_Claim), .lit (.int .i64 a_Asked), .lit (.int .i64 a_Right), .lit (.int .i64 a_Wrong)]] [] = some ((fun (a : TTrial) => True) ⟨a_Claim, a_Asked, a_Right, a_Wrong⟩, (fun (a : TTrial) => (encTTrial a : D)) ⟨a_Claim, a_Asked, a_Right, a_Wrong⟩, (fun (a : TTrial) => []) ⟨a_Claim, a_Asked, a_Right, a_Wrong⟩) :=
  mkCon_fn (fun x y h _ => c227_inj x y h) (⟨a_Claim, a_Asked, a_Right, a_Wrong⟩ : TTrial) (by simp [nz, nz1, ML_nil, encTTrial]) rfl
theorem c227_pc (a : TTrial) : PCo Try.prog 227 [encTTrial a] (Tab.of []) (encTTrial a) (Tab.of []) := by
  obtain ⟨a_Claim, a_Asked, a_Right, a_Wrong⟩ := a
  refine pco_of_run [] (E := ⟨[], []⟩) (m := false) (base := 0) Env.ok_nil G_ok mix 300 6 Try.func227 (by kernel_rfl) rfl (by kernel_rfl) (by kernel_rfl) rfl ?_
  simp [Try.f227]
  all_goals first | omega | (rw [Bool.eq_iff_iff]; simp; omega) | grind
theorem c227_ok : c227.ok Try.prog := mkCon_ok fun a hpre => c227_pc a
/-- loop.example/g03007/laws.eqTrial -/
noncomputable def c235 : Con := mkCon 235 false (α := TTrial × TTrial) (fun x => (fun (a : TTrial) (b : TTrial) => [encTTrial a, encTTrial b]) x.1 x.2) (fun _ => []) (fun x => (fun (a : TTrial) (b : TTrial) => True) x.1 x.2) (fun x => (fun (a : TTrial) (b : TTrial) => (dB (decide (a = b)) : D)) x.1 x.2) (fun x => (fun (a : TTrial) (b : TTrial) => []) x.1 x.2)
@[simp] theorem c235_f : c235.f = 235 := rfl
@[simp] theorem c235_own : c235.own = false := rfl
theorem c235_inj : ∀ u_ v_ : TTrial × TTrial, ((fun x => (fun (a : TTrial) (b : TTrial) => [encTTrial a, encTTrial b]) x.1 x.2) u_).map nz = ((fun x => (fun (a : TTrial) (b : TTrial) => [encTTrial a, encTTrial b]) x.1 x.2) v_).map nz → u_ = v_ := by
  intro u_ v_ h
  obtain ⟨⟨a_Claim, a_Asked, a_Right, a_Wrong⟩, ⟨b_Claim, b_Asked, b_Right, b_Wrong⟩⟩ := u_
  obtain ⟨⟨a_Claim', a_Asked', a_Right', a_Wrong'⟩, ⟨b_Claim', b_Asked', b_Right', b_Wrong'⟩⟩ := v_
  simp [nz_lit, nz1_lit, nz_agg, nz_sl, nz1_sl, encTTrial] at h
  first | (simp [h]; done) | (obtain ⟨⟩ := h; simp_all; done) | simp_all
@[simp] theorem c235_fn (a_Claim : Int) (a_Asked : Int) (a_Right : Int) (a_Wrong : Int) (b_Claim : Int) (b_Asked : Int) (b_Right : Int) (b_Wrong : Int) : c235.fn [.agg [.lit (.int .i64 a_Claim), .lit (.int .i64 a_Asked), .lit (.int .i64 a_Right), .lit (.int .i64 a_Wrong)], .agg [.lit (.int .i64 b_Claim), .lit (.int .i64 b_Asked), .lit (.int .i64 b_Right), .lit (.int .i64 b_Wrong)]] [] = some ((fun (a : TTrial) (b : TTrial) => True) ⟨a_Claim, a_Asked, a_Right, a_Wrong⟩ ⟨b_Claim, b_Asked, b_Right, b_Wrong⟩, (fun (a : TTrial) (b : TTrial) => (dB (decide (a = b)) : D)) ⟨a_Claim, a_Asked, a_Right, a_Wrong⟩ ⟨b_Claim, b_Asked, b_Right, b_Wrong⟩, (fun (a : TTrial) (b : TTrial) => []) ⟨a_Claim, a_Asked, a_Right, a_Wrong⟩ ⟨b_Claim, b_Asked, b_Right, b_Wrong⟩) :=
  mkCon_fn (fun x y h _ => c235_inj x y h) ((⟨a_Claim, a_Asked, a_Right, a_Wrong⟩, ⟨b_Claim, b_Asked, b_Right, b_Wrong⟩) : TTrial × TTrial) (by simp [nz, nz1, ML_nil, encTTrial]) rfl
theorem c235_pc (a : TTrial) (b : TTrial) : PCo Try.prog 235 [encTTrial a, encTTrial b] (Tab.of []) (dB (decide (a = b))) (Tab.of []) := by
  obtain ⟨a_Claim, a_Asked, a_Right, a_Wrong⟩ := a
  obtain ⟨b_Claim, b_Asked, b_Right, b_Wrong⟩ := b
  refine pco_of_run [] (E := ⟨[], []⟩) (m := false) (base := 0) Env.ok_nil G_ok mix 300 6 Try.func235 (by kernel_rfl) rfl (by kernel_rfl) (by kernel_rfl) rfl ?_
  simp [Try.f235]
  all_goals first | omega | (rw [Bool.eq_iff_iff]; simp; omega) | grind
theorem c235_ok : c235.ok Try.prog := mkCon_ok fun ⟨a, b⟩ hpre => c235_pc a b
/-- loop.example/g03007/laws.toHand -/
noncomputable def c228 : Con := mkCon 228 false (α := THand) (fun x => (fun (a : THand) => [encTHand a]) x) (fun _ => []) (fun x => (fun (a : THand) => True) x) (fun x => (fun (a : THand) => (encTHand a : D)) x) (fun x => (fun (a : THand) => []) x)
@[simp] theorem c228_f : c228.f = 228 := rfl
@[simp] theorem c228_own : c228.own = false := rfl
theorem c228_inj : ∀ u_ v_ : THand, ((fun x => (fun (a : THand) => [encTHand a]) x) u_).map nz = ((fun x => (fun (a : THand) => [encTHand a]) x) v_).map nz → u_ = v_ := by
  intro u_ v_ h
  obtain ⟨a_Thing, a_Holder, a_Who, a_At, a_Seal⟩ := u_
  obtain ⟨a_Thing', a_Holder', a_Who', a_At', a_Seal'⟩ := v_
  simp [nz_lit, nz1_lit, nz_agg, nz_sl, nz1_sl, encTHand] at h
  first | (simp [h]; done) | (obtain ⟨⟩ := h; simp_all; done) | simp_all
@[simp] theorem c228_fn (a_Thing : Int) (a_Holder : Int) (a_Who : Int) (a_At : Int) (a_Seal : Int) : c228.fn [.agg [.lit (.int .i64 a_Thing), .lit (.int .i64 a_Holder), .lit (.int .i64 a_Who), .lit (.int .i64 a_At), .lit (.int .i64 a_Seal)]] [] = some ((fun (a : THand) => True) ⟨a_Thing, a_Holder, a_Who, a_At, a_Seal⟩, (fun (a : THand) => (encTHand a : D)) ⟨a_Thing, a_Holder, a_Who, a_At, a_Seal⟩, (fun (a : THand) => []) ⟨a_Thing, a_Holder, a_Who, a_At, a_Seal⟩) :=
  mkCon_fn (fun x y h _ => c228_inj x y h) (⟨a_Thing, a_Holder, a_Who, a_At, a_Seal⟩ : THand) (by simp [nz, nz1, ML_nil, encTHand]) rfl
theorem c228_pc (a : THand) : PCo Try.prog 228 [encTHand a] (Tab.of []) (encTHand a) (Tab.of []) := by
  obtain ⟨a_Thing, a_Holder, a_Who, a_At, a_Seal⟩ := a
  refine pco_of_run [] (E := ⟨[], []⟩) (m := false) (base := 0) Env.ok_nil G_ok mix 300 6 Try.func228 (by kernel_rfl) rfl (by kernel_rfl) (by kernel_rfl) rfl ?_
  simp [Try.f228]
  all_goals first | omega | (rw [Bool.eq_iff_iff]; simp; omega) | grind
theorem c228_ok : c228.ok Try.prog := mkCon_ok fun a hpre => c228_pc a
/-- loop.example/g03007/laws.eqHand -/
noncomputable def c236 : Con := mkCon 236 false (α := THand × THand) (fun x => (fun (a : THand) (b : THand) => [encTHand a, encTHand b]) x.1 x.2) (fun _ => []) (fun x => (fun (a : THand) (b : THand) => True) x.1 x.2) (fun x => (fun (a : THand) (b : THand) => (dB (decide (a = b)) : D)) x.1 x.2) (fun x => (fun (a : THand) (b : THand) => []) x.1 x.2)
@[simp] theorem c236_f : c236.f = 236 := rfl
@[simp] theorem c236_own : c236.own = false := rfl
theorem c236_inj : ∀ u_ v_ : THand × THand, ((fun x => (fun (a : THand) (b : THand) => [encTHand a, encTHand b]) x.1 x.2) u_).map nz = ((fun x => (fun (a : THand) (b : THand) => [encTHand a, encTHand b]) x.1 x.2) v_).map nz → u_ = v_ := by
  intro u_ v_ h
  obtain ⟨⟨a_Thing, a_Holder, a_Who, a_At, a_Seal⟩, ⟨b_Thing, b_Holder, b_Who, b_At, b_Seal⟩⟩ := u_
  obtain ⟨⟨a_Thing', a_Holder', a_Who', a_At', a_Seal'⟩, ⟨b_Thing', b_Holder', b_Who', b_At', b_Seal'⟩⟩ := v_
  simp [nz_lit, nz1_lit, nz_agg, nz_sl, nz1_sl, encTHand] at h
  first | (simp [h]; done) | (obtain ⟨⟩ := h; simp_all; done) | simp_all
@[simp] theorem c236_fn (a_Thing : Int) (a_Holder : Int) (a_Who : Int) (a_At : Int) (a_Seal : Int) (b_Thing : Int) (b_Holder : Int) (b_Who : Int) (b_At : Int) (b_Seal : Int) : c236.fn [.agg [.lit (.int .i64 a_Thing), .lit (.int .i64 a_Holder), .lit (.int .i64 a_Who), .lit (.int .i64 a_At), .lit (.int .i64 a_Seal)], .agg [.lit (.int .i64 b_Thing), .lit (.int .i64 b_Holder), .lit (.int .i64 b_Who), .lit (.int .i64 b_At), .lit (.int .i64 b_Seal)]] [] = some ((fun (a : THand) (b : THand) => True) ⟨a_Thing, a_Holder, a_Who, a_At, a_Seal⟩ ⟨b_Thing, b_Holder, b_Who, b_At, b_Seal⟩, (fun (a : THand) (b : THand) => (dB (decide (a = b)) : D)) ⟨a_Thing, a_Holder, a_Who, a_At, a_Seal⟩ ⟨b_Thing, b_Holder, b_Who, b_At, b_Seal⟩, (fun (a : THand) (b : THand) => []) ⟨a_Thing, a_Holder, a_Who, a_At, a_Seal⟩ ⟨b_Thing, b_Holder, b_Who, b_At, b_Seal⟩) :=
  mkCon_fn (fun x y h _ => c236_inj x y h) ((⟨a_Thing, a_Holder, a_Who, a_At, a_Seal⟩, ⟨b_Thing, b_Holder, b_Who, b_At, b_Seal⟩) : THand × THand) (by simp [nz, nz1, ML_nil, encTHand]) rfl
theorem c236_pc (a : THand) (b : THand) : PCo Try.prog 236 [encTHand a, encTHand b] (Tab.of []) (dB (decide (a = b))) (Tab.of []) := by
  obtain ⟨a_Thing, a_Holder, a_Who, a_At, a_Seal⟩ := a
  obtain ⟨b_Thing, b_Holder, b_Who, b_At, b_Seal⟩ := b
  refine pco_of_run [] (E := ⟨[], []⟩) (m := false) (base := 0) Env.ok_nil G_ok mix 300 6 Try.func236 (by kernel_rfl) rfl (by kernel_rfl) (by kernel_rfl) rfl ?_
  simp [Try.f236]
  all_goals first | omega | (rw [Bool.eq_iff_iff]; simp; omega) | grind
theorem c236_ok : c236.ok Try.prog := mkCon_ok fun ⟨a, b⟩ hpre => c236_pc a b
/-- loop.example/g03007/laws.toEntry -/
noncomputable def c229 : Con := mkCon 229 false (α := TEntry) (fun x => (fun (a : TEntry) => [encTEntry a]) x) (fun _ => []) (fun x => (fun (a : TEntry) => True) x) (fun x => (fun (a : TEntry) => (encTEntry a : D)) x) (fun x => (fun (a : TEntry) => []) x)
@[simp] theorem c229_f : c229.f = 229 := rfl
@[simp] theorem c229_own : c229.own = false := rfl
theorem c229_inj : ∀ u_ v_ : TEntry, ((fun x => (fun (a : TEntry) => [encTEntry a]) x) u_).map nz = ((fun x => (fun (a : TEntry) => [encTEntry a]) x) v_).map nz → u_ = v_ := by
  intro u_ v_ h
  obtain ⟨a_From, a_To, a_Cents, a_At⟩ := u_
  obtain ⟨a_From', a_To', a_Cents', a_At'⟩ := v_
  simp [nz_lit, nz1_lit, nz_agg, nz_sl, nz1_sl, encTEntry] at h
  first | (simp [h]; done) | (obtain ⟨⟩ := h; simp_all; done) | simp_all
@[simp] theorem c229_fn (a_From : Int) (a_To : Int) (a_Cents : Int) (a_At : Int) : c229.fn [.agg [.lit (.int .i64 a_From), .lit (.int .i64 a_To), .lit (.int .i64 a_Cents), .lit (.int .i64 a_At)]] [] = some ((fun (a : TEntry) => True) ⟨a_From, a_To, a_Cents, a_At⟩, (fun (a : TEntry) => (encTEntry a : D)) ⟨a_From, a_To, a_Cents, a_At⟩, (fun (a : TEntry) => []) ⟨a_From, a_To, a_Cents, a_At⟩) :=
  mkCon_fn (fun x y h _ => c229_inj x y h) (⟨a_From, a_To, a_Cents, a_At⟩ : TEntry) (by simp [nz, nz1, ML_nil, encTEntry]) rfl
theorem c229_pc (a : TEntry) : PCo Try.prog 229 [encTEntry a] (Tab.of []) (encTEntry a) (Tab.of []) := by
  obtain ⟨a_From, a_To, a_Cents, a_At⟩ := a
  refine pco_of_run [] (E := ⟨[], []⟩) (m := false) (base := 0) Env.ok_nil G_ok mix 300 6 Try.func229 (by kernel_rfl) rfl (by kernel_rfl) (by kernel_rfl) rfl ?_
  simp [Try.f229]
  all_goals first | omega | (rw [Bool.eq_iff_iff]; simp; omega) | grind
theorem c229_ok : c229.ok Try.prog := mkCon_ok fun a hpre => c229_pc a
/-- loop.example/g03007/laws.eqEntry -/
noncomputable def c237 : Con := mkCon 237 false (α := TEntry × TEntry) (fun x => (fun (a : TEntry) (b : TEntry) => [encTEntry a, encTEntry b]) x.1 x.2) (fun _ => []) (fun x => (fun (a : TEntry) (b : TEntry) => True) x.1 x.2) (fun x => (fun (a : TEntry) (b : TEntry) => (dB (decide (a = b)) : D)) x.1 x.2) (fun x => (fun (a : TEntry) (b : TEntry) => []) x.1 x.2)
@[simp] theorem c237_f : c237.f = 237 := rfl
@[simp] theorem c237_own : c237.own = false := rfl
theorem c237_inj : ∀ u_ v_ : TEntry × TEntry, ((fun x => (fun (a : TEntry) (b : TEntry) => [encTEntry a, encTEntry b]) x.1 x.2) u_).map nz = ((fun x => (fun (a : TEntry) (b : TEntry) => [encTEntry a, encTEntry b]) x.1 x.2) v_).map nz → u_ = v_ := by
  intro u_ v_ h
  obtain ⟨⟨a_From, a_To, a_Cents, a_At⟩, ⟨b_From, b_To, b_Cents, b_At⟩⟩ := u_
  obtain ⟨⟨a_From', a_To', a_Cents', a_At'⟩, ⟨b_From', b_To', b_Cents', b_At'⟩⟩ := v_
  simp [nz_lit, nz1_lit, nz_agg, nz_sl, nz1_sl, encTEntry] at h
  first | (simp [h]; done) | (obtain ⟨⟩ := h; simp_all; done) | simp_all
@[simp] theorem c237_fn (a_From : Int) (a_To : Int) (a_Cents : Int) (a_At : Int) (b_From : Int) (b_To : Int) (b_Cents : Int) (b_At : Int) : c237.fn [.agg [.lit (.int .i64 a_From), .lit (.int .i64 a_To), .lit (.int .i64 a_Cents), .lit (.int .i64 a_At)], .agg [.lit (.int .i64 b_From), .lit (.int .i64 b_To), .lit (.int .i64 b_Cents), .lit (.int .i64 b_At)]] [] = some ((fun (a : TEntry) (b : TEntry) => True) ⟨a_From, a_To, a_Cents, a_At⟩ ⟨b_From, b_To, b_Cents, b_At⟩, (fun (a : TEntry) (b : TEntry) => (dB (decide (a = b)) : D)) ⟨a_From, a_To, a_Cents, a_At⟩ ⟨b_From, b_To, b_Cents, b_At⟩, (fun (a : TEntry) (b : TEntry) => []) ⟨a_From, a_To, a_Cents, a_At⟩ ⟨b_From, b_To, b_Cents, b_At⟩) :=
  mkCon_fn (fun x y h _ => c237_inj x y h) ((⟨a_From, a_To, a_Cents, a_At⟩, ⟨b_From, b_To, b_Cents, b_At⟩) : TEntry × TEntry) (by simp [nz, nz1, ML_nil, encTEntry]) rfl
theorem c237_pc (a : TEntry) (b : TEntry) : PCo Try.prog 237 [encTEntry a, encTEntry b] (Tab.of []) (dB (decide (a = b))) (Tab.of []) := by
  obtain ⟨a_From, a_To, a_Cents, a_At⟩ := a
  obtain ⟨b_From, b_To, b_Cents, b_At⟩ := b
  refine pco_of_run [] (E := ⟨[], []⟩) (m := false) (base := 0) Env.ok_nil G_ok mix 300 6 Try.func237 (by kernel_rfl) rfl (by kernel_rfl) (by kernel_rfl) rfl ?_
  simp [Try.f237]
  all_goals first | omega | (rw [Bool.eq_iff_iff]; simp; omega) | grind
theorem c237_ok : c237.ok Try.prog := mkCon_ok fun ⟨a, b⟩ hpre => c237_pc a b
/-- loop.example/g03007/laws.szSlotS -/
noncomputable def c64 : Con := mkCon 64 false (α := (List TSlot) × Int) (fun x => (fun (l : List TSlot) (left : Int) => [encLTSlot l, dI left]) x.1 x.2) (fun _ => []) (fun x => (fun (l : List TSlot) (left : Int) => l.length ≤ maxLen ∧ 0 ≤ left ∧ left ≤ 1099511627776) x.1 x.2) (fun x => (fun (l : List TSlot) (left : Int) => (dI (if left - l.length < 0 then -1 else left - l.length) : D)) x.1 x.2) (fun x => (fun (l : List TSlot) (left : Int) => []) x.1 x.2)
@[simp] theorem c64_f : c64.f = 64 := rfl
@[simp] theorem c64_own : c64.own = false := rfl
theorem c64_inj : ∀ u_ v_ : (List TSlot) × Int, ((fun x => (fun (l : List TSlot) (left : Int) => [encLTSlot l, dI left]) x.1 x.2) u_).map nz = ((fun x => (fun (l : List TSlot) (left : Int) => [encLTSlot l, dI left]) x.1 x.2) v_).map nz → u_ = v_ := by
  intro u_ v_ h
  obtain ⟨l, left⟩ := u_
  obtain ⟨l', left'⟩ := v_
  simp [nz_lit, nz1_lit, nz_agg, nz_sl, nz1_sl, encLTSlot] at h
  first | (simp [h]; done) | (obtain ⟨⟩ := h; simp_all; done) | simp_all
@[simp] theorem c64_fn (l : List TSlot) (left : Int) : c64.fn [.sl false 3 yTSlot (ML encTSlot l), .lit (.int .i64 left)] [] = some ((fun (l : List TSlot) (left : Int) => l.length ≤ maxLen ∧ 0 ≤ left ∧ left ≤ 1099511627776) l left, (fun (l : List TSlot) (left : Int) => (dI (if left - l.length < 0 then -1 else left - l.length) : D)) l left, (fun (l : List TSlot) (left : Int) => []) l left) :=
  mkCon_fn (fun x y h _ => c64_inj x y h) ((l, left) : (List TSlot) × Int) (by simp [nz, nz1, ML_nil, encLTSlot]) rfl
@[simp] theorem c64_fn1 (s_l : Nat) (z_l : D) (left : Int) : c64.fn [.sl false s_l z_l [], .lit (.int .i64 left)] [] = some ((fun (l : List TSlot) (left : Int) => l.length ≤ maxLen ∧ 0 ≤ left ∧ left ≤ 1099511627776) [] left, (fun (l : List TSlot) (left : Int) => (dI (if left - l.length < 0 then -1 else left - l.length) : D)) [] left, (fun (l : List TSlot) (left : Int) => []) [] left) :=
  mkCon_fn (fun x y h _ => c64_inj x y h) (([], left) : (List TSlot) × Int) (by simp [nz, nz1, ML_nil, encLTSlot]) rfl
theorem c64_pc (l : List TSlot) (left : Int) (hpre : l.length ≤ maxLen ∧ 0 ≤ left ∧ left ≤ 1099511627776) : PCo Try.prog 64 [encLTSlot l, dI left] (Tab.of []) (dI (if left - l.length < 0 then -1 else left - l.length)) (Tab.of []) := by
  refine pco_of_run [] (E := ⟨[], []⟩) (m := false) (base := 0) Env.ok_nil G_ok mix 300 6 Try.func64 (by kernel_rfl) rfl (by kernel_rfl) (by kernel_rfl) rfl ?_
  simp [Try.f64]
  simp [maxLen] at hpre
  all_goals omega
theorem c64_ok : c64.ok Try.prog := mkCon_ok fun ⟨l, left⟩ hpre => c64_pc l left hpre
/-- loop.example/g03007/laws.szClaimS -/
noncomputable def c155 : Con := mkCon 155 false (α := (List TClaim) × Int) (fun x => (fun (l : List TClaim) (left : Int) => [encLTClaim l, dI left]) x.1 x.2) (fun _ => []) (fun x => (fun (l : List TClaim) (left : Int) => l.length ≤ maxLen ∧ 0 ≤ left ∧ left ≤ 1099511627776) x.1 x.2) (fun x => (fun (l : List TClaim) (left : Int) => (dI (if left - l.length < 0 then -1 else left - l.length) : D)) x.1 x.2) (fun x => (fun (l : List TClaim) (left : Int) => []) x.1 x.2)
@[simp] theorem c155_f : c155.f = 155 := rfl
@[simp] theorem c155_own : c155.own = false := rfl
theorem c155_inj : ∀ u_ v_ : (List TClaim) × Int, ((fun x => (fun (l : List TClaim) (left : Int) => [encLTClaim l, dI left]) x.1 x.2) u_).map nz = ((fun x => (fun (l : List TClaim) (left : Int) => [encLTClaim l, dI left]) x.1 x.2) v_).map nz → u_ = v_ := by
  intro u_ v_ h
  obtain ⟨l, left⟩ := u_
  obtain ⟨l', left'⟩ := v_
  simp [nz_lit, nz1_lit, nz_agg, nz_sl, nz1_sl, encLTClaim] at h
  first | (simp [h]; done) | (obtain ⟨⟩ := h; simp_all; done) | simp_all
@[simp] theorem c155_fn (l : List TClaim) (left : Int) : c155.fn [.sl false 5 yTClaim (ML encTClaim l), .lit (.int .i64 left)] [] = some ((fun (l : List TClaim) (left : Int) => l.length ≤ maxLen ∧ 0 ≤ left ∧ left ≤ 1099511627776) l left, (fun (l : List TClaim) (left : Int) => (dI (if left - l.length < 0 then -1 else left - l.length) : D)) l left, (fun (l : List TClaim) (left : Int) => []) l left) :=
  mkCon_fn (fun x y h _ => c155_inj x y h) ((l, left) : (List TClaim) × Int) (by simp [nz, nz1, ML_nil, encLTClaim]) rfl
@[simp] theorem c155_fn1 (s_l : Nat) (z_l : D) (left : Int) : c155.fn [.sl false s_l z_l [], .lit (.int .i64 left)] [] = some ((fun (l : List TClaim) (left : Int) => l.length ≤ maxLen ∧ 0 ≤ left ∧ left ≤ 1099511627776) [] left, (fun (l : List TClaim) (left : Int) => (dI (if left - l.length < 0 then -1 else left - l.length) : D)) [] left, (fun (l : List TClaim) (left : Int) => []) [] left) :=
  mkCon_fn (fun x y h _ => c155_inj x y h) (([], left) : (List TClaim) × Int) (by simp [nz, nz1, ML_nil, encLTClaim]) rfl
theorem c155_pc (l : List TClaim) (left : Int) (hpre : l.length ≤ maxLen ∧ 0 ≤ left ∧ left ≤ 1099511627776) : PCo Try.prog 155 [encLTClaim l, dI left] (Tab.of []) (dI (if left - l.length < 0 then -1 else left - l.length)) (Tab.of []) := by
  refine pco_of_run [] (E := ⟨[], []⟩) (m := false) (base := 0) Env.ok_nil G_ok mix 300 6 Try.func155 (by kernel_rfl) rfl (by kernel_rfl) (by kernel_rfl) rfl ?_
  simp [Try.f155]
  simp [maxLen] at hpre
  all_goals omega
theorem c155_ok : c155.ok Try.prog := mkCon_ok fun ⟨l, left⟩ hpre => c155_pc l left hpre
/-- loop.example/g03007/laws.szTrialS -/
noncomputable def c156 : Con := mkCon 156 false (α := (List TTrial) × Int) (fun x => (fun (l : List TTrial) (left : Int) => [encLTTrial l, dI left]) x.1 x.2) (fun _ => []) (fun x => (fun (l : List TTrial) (left : Int) => l.length ≤ maxLen ∧ 0 ≤ left ∧ left ≤ 1099511627776) x.1 x.2) (fun x => (fun (l : List TTrial) (left : Int) => (dI (if left - l.length < 0 then -1 else left - l.length) : D)) x.1 x.2) (fun x => (fun (l : List TTrial) (left : Int) => []) x.1 x.2)
@[simp] theorem c156_f : c156.f = 156 := rfl
@[simp] theorem c156_own : c156.own = false := rfl
theorem c156_inj : ∀ u_ v_ : (List TTrial) × Int, ((fun x => (fun (l : List TTrial) (left : Int) => [encLTTrial l, dI left]) x.1 x.2) u_).map nz = ((fun x => (fun (l : List TTrial) (left : Int) => [encLTTrial l, dI left]) x.1 x.2) v_).map nz → u_ = v_ := by
  intro u_ v_ h
  obtain ⟨l, left⟩ := u_
  obtain ⟨l', left'⟩ := v_
  simp [nz_lit, nz1_lit, nz_agg, nz_sl, nz1_sl, encLTTrial] at h
  first | (simp [h]; done) | (obtain ⟨⟩ := h; simp_all; done) | simp_all
@[simp] theorem c156_fn (l : List TTrial) (left : Int) : c156.fn [.sl false 4 yTTrial (ML encTTrial l), .lit (.int .i64 left)] [] = some ((fun (l : List TTrial) (left : Int) => l.length ≤ maxLen ∧ 0 ≤ left ∧ left ≤ 1099511627776) l left, (fun (l : List TTrial) (left : Int) => (dI (if left - l.length < 0 then -1 else left - l.length) : D)) l left, (fun (l : List TTrial) (left : Int) => []) l left) :=
  mkCon_fn (fun x y h _ => c156_inj x y h) ((l, left) : (List TTrial) × Int) (by simp [nz, nz1, ML_nil, encLTTrial]) rfl
@[simp] theorem c156_fn1 (s_l : Nat) (z_l : D) (left : Int) : c156.fn [.sl false s_l z_l [], .lit (.int .i64 left)] [] = some ((fun (l : List TTrial) (left : Int) => l.length ≤ maxLen ∧ 0 ≤ left ∧ left ≤ 1099511627776) [] left, (fun (l : List TTrial) (left : Int) => (dI (if left - l.length < 0 then -1 else left - l.length) : D)) [] left, (fun (l : List TTrial) (left : Int) => []) [] left) :=
  mkCon_fn (fun x y h _ => c156_inj x y h) (([], left) : (List TTrial) × Int) (by simp [nz, nz1, ML_nil, encLTTrial]) rfl
theorem c156_pc (l : List TTrial) (left : Int) (hpre : l.length ≤ maxLen ∧ 0 ≤ left ∧ left ≤ 1099511627776) : PCo Try.prog 156 [encLTTrial l, dI left] (Tab.of []) (dI (if left - l.length < 0 then -1 else left - l.length)) (Tab.of []) := by
  refine pco_of_run [] (E := ⟨[], []⟩) (m := false) (base := 0) Env.ok_nil G_ok mix 300 6 Try.func156 (by kernel_rfl) rfl (by kernel_rfl) (by kernel_rfl) rfl ?_
  simp [Try.f156]
  simp [maxLen] at hpre
  all_goals omega
theorem c156_ok : c156.ok Try.prog := mkCon_ok fun ⟨l, left⟩ hpre => c156_pc l left hpre
/-- loop.example/g03007/laws.szHandS -/
noncomputable def c157 : Con := mkCon 157 false (α := (List THand) × Int) (fun x => (fun (l : List THand) (left : Int) => [encLTHand l, dI left]) x.1 x.2) (fun _ => []) (fun x => (fun (l : List THand) (left : Int) => l.length ≤ maxLen ∧ 0 ≤ left ∧ left ≤ 1099511627776) x.1 x.2) (fun x => (fun (l : List THand) (left : Int) => (dI (if left - l.length < 0 then -1 else left - l.length) : D)) x.1 x.2) (fun x => (fun (l : List THand) (left : Int) => []) x.1 x.2)
@[simp] theorem c157_f : c157.f = 157 := rfl
@[simp] theorem c157_own : c157.own = false := rfl
theorem c157_inj : ∀ u_ v_ : (List THand) × Int, ((fun x => (fun (l : List THand) (left : Int) => [encLTHand l, dI left]) x.1 x.2) u_).map nz = ((fun x => (fun (l : List THand) (left : Int) => [encLTHand l, dI left]) x.1 x.2) v_).map nz → u_ = v_ := by
  intro u_ v_ h
  obtain ⟨l, left⟩ := u_
  obtain ⟨l', left'⟩ := v_
  simp [nz_lit, nz1_lit, nz_agg, nz_sl, nz1_sl, encLTHand] at h
  first | (simp [h]; done) | (obtain ⟨⟩ := h; simp_all; done) | simp_all
@[simp] theorem c157_fn (l : List THand) (left : Int) : c157.fn [.sl false 5 yTHand (ML encTHand l), .lit (.int .i64 left)] [] = some ((fun (l : List THand) (left : Int) => l.length ≤ maxLen ∧ 0 ≤ left ∧ left ≤ 1099511627776) l left, (fun (l : List THand) (left : Int) => (dI (if left - l.length < 0 then -1 else left - l.length) : D)) l left, (fun (l : List THand) (left : Int) => []) l left) :=
  mkCon_fn (fun x y h _ => c157_inj x y h) ((l, left) : (List THand) × Int) (by simp [nz, nz1, ML_nil, encLTHand]) rfl
@[simp] theorem c157_fn1 (s_l : Nat) (z_l : D) (left : Int) : c157.fn [.sl false s_l z_l [], .lit (.int .i64 left)] [] = some ((fun (l : List THand) (left : Int) => l.length ≤ maxLen ∧ 0 ≤ left ∧ left ≤ 1099511627776) [] left, (fun (l : List THand) (left : Int) => (dI (if left - l.length < 0 then -1 else left - l.length) : D)) [] left, (fun (l : List THand) (left : Int) => []) [] left) :=
  mkCon_fn (fun x y h _ => c157_inj x y h) (([], left) : (List THand) × Int) (by simp [nz, nz1, ML_nil, encLTHand]) rfl
theorem c157_pc (l : List THand) (left : Int) (hpre : l.length ≤ maxLen ∧ 0 ≤ left ∧ left ≤ 1099511627776) : PCo Try.prog 157 [encLTHand l, dI left] (Tab.of []) (dI (if left - l.length < 0 then -1 else left - l.length)) (Tab.of []) := by
  refine pco_of_run [] (E := ⟨[], []⟩) (m := false) (base := 0) Env.ok_nil G_ok mix 300 6 Try.func157 (by kernel_rfl) rfl (by kernel_rfl) (by kernel_rfl) rfl ?_
  simp [Try.f157]
  simp [maxLen] at hpre
  all_goals omega
theorem c157_ok : c157.ok Try.prog := mkCon_ok fun ⟨l, left⟩ hpre => c157_pc l left hpre
/-- loop.example/g03007/laws.szEntryS -/
noncomputable def c158 : Con := mkCon 158 false (α := (List TEntry) × Int) (fun x => (fun (l : List TEntry) (left : Int) => [encLTEntry l, dI left]) x.1 x.2) (fun _ => []) (fun x => (fun (l : List TEntry) (left : Int) => l.length ≤ maxLen ∧ 0 ≤ left ∧ left ≤ 1099511627776) x.1 x.2) (fun x => (fun (l : List TEntry) (left : Int) => (dI (if left - l.length < 0 then -1 else left - l.length) : D)) x.1 x.2) (fun x => (fun (l : List TEntry) (left : Int) => []) x.1 x.2)
@[simp] theorem c158_f : c158.f = 158 := rfl
@[simp] theorem c158_own : c158.own = false := rfl
theorem c158_inj : ∀ u_ v_ : (List TEntry) × Int, ((fun x => (fun (l : List TEntry) (left : Int) => [encLTEntry l, dI left]) x.1 x.2) u_).map nz = ((fun x => (fun (l : List TEntry) (left : Int) => [encLTEntry l, dI left]) x.1 x.2) v_).map nz → u_ = v_ := by
  intro u_ v_ h
  obtain ⟨l, left⟩ := u_
  obtain ⟨l', left'⟩ := v_
  simp [nz_lit, nz1_lit, nz_agg, nz_sl, nz1_sl, encLTEntry] at h
  first | (simp [h]; done) | (obtain ⟨⟩ := h; simp_all; done) | simp_all
@[simp] theorem c158_fn (l : List TEntry) (left : Int) : c158.fn [.sl false 4 yTEntry (ML encTEntry l), .lit (.int .i64 left)] [] = some ((fun (l : List TEntry) (left : Int) => l.length ≤ maxLen ∧ 0 ≤ left ∧ left ≤ 1099511627776) l left, (fun (l : List TEntry) (left : Int) => (dI (if left - l.length < 0 then -1 else left - l.length) : D)) l left, (fun (l : List TEntry) (left : Int) => []) l left) :=
  mkCon_fn (fun x y h _ => c158_inj x y h) ((l, left) : (List TEntry) × Int) (by simp [nz, nz1, ML_nil, encLTEntry]) rfl
@[simp] theorem c158_fn1 (s_l : Nat) (z_l : D) (left : Int) : c158.fn [.sl false s_l z_l [], .lit (.int .i64 left)] [] = some ((fun (l : List TEntry) (left : Int) => l.length ≤ maxLen ∧ 0 ≤ left ∧ left ≤ 1099511627776) [] left, (fun (l : List TEntry) (left : Int) => (dI (if left - l.length < 0 then -1 else left - l.length) : D)) [] left, (fun (l : List TEntry) (left : Int) => []) [] left) :=
  mkCon_fn (fun x y h _ => c158_inj x y h) (([], left) : (List TEntry) × Int) (by simp [nz, nz1, ML_nil, encLTEntry]) rfl
theorem c158_pc (l : List TEntry) (left : Int) (hpre : l.length ≤ maxLen ∧ 0 ≤ left ∧ left ≤ 1099511627776) : PCo Try.prog 158 [encLTEntry l, dI left] (Tab.of []) (dI (if left - l.length < 0 then -1 else left - l.length)) (Tab.of []) := by
  refine pco_of_run [] (E := ⟨[], []⟩) (m := false) (base := 0) Env.ok_nil G_ok mix 300 6 Try.func158 (by kernel_rfl) rfl (by kernel_rfl) (by kernel_rfl) rfl ?_
  simp [Try.f158]
  simp [maxLen] at hpre
  all_goals omega
theorem c158_ok : c158.ok Try.prog := mkCon_ok fun ⟨l, left⟩ hpre => c158_pc l left hpre
/-- loop.example/g03007/laws.toSlotS -/
noncomputable def c67 : Con := mkCon 67 false (α := (List TSlot)) (fun x => (fun (l : List TSlot) => [encLTSlot l]) x) (fun _ => []) (fun x => (fun (l : List TSlot) => l.length ≤ 1099511627776) x) (fun x => (fun (l : List TSlot) => (.own (0, 1) 3 0 l.length : D)) x) (fun x => (fun (l : List TSlot) => [((0, 1), .arr false 3 yTSlot (ML encTSlot l))]) x)
@[simp] theorem c67_f : c67.f = 67 := rfl
@[simp] theorem c67_own : c67.own = false := rfl
theorem c67_inj : ∀ u_ v_ : (List TSlot), ((fun x => (fun (l : List TSlot) => [encLTSlot l]) x) u_).map nz = ((fun x => (fun (l : List TSlot) => [encLTSlot l]) x) v_).map nz → u_ = v_ := by
  intro u_ v_ h
  obtain l := u_
  obtain l' := v_
  simp [nz_lit, nz1_lit, nz_agg, nz_sl, nz1_sl, encLTSlot] at h
  first | (simp [h]; done) | (obtain ⟨⟩ := h; simp_all; done) | simp_all
@[simp] theorem c67_fn (l : List TSlot) : c67.fn [.sl false 3 yTSlot (ML encTSlot l)] [] = some ((fun (l : List TSlot) => l.length ≤ 1099511627776) l, (fun (l : List TSlot) => (.own (0, 1) 3 0 l.length : D)) l, (fun (l : List TSlot) => [((0, 1), .arr false 3 yTSlot (ML encTSlot l))]) l) :=
  mkCon_fn (fun x y h _ => c67_inj x y h) (l : (List TSlot)) (by simp [nz, nz1, ML_nil, encLTSlot]) rfl
@[simp] theorem c67_fn1 (s_l : Nat) (z_l : D) : c67.fn [.sl false s_l z_l []] [] = some ((fun (l : List TSlot) => l.length ≤ 1099511627776) [], (fun (l : List TSlot) => (.own (0, 1) 3 0 l.length : D)) [], (fun (l : List TSlot) => [((0, 1), .arr false 3 yTSlot (ML encTSlot l))]) []) :=
  mkCon_fn (fun x y h _ => c67_inj x y h) ([] : (List TSlot)) (by simp [nz, nz1, ML_nil, encLTSlot]) rfl
theorem c67_pc (l : List TSlot) (hpre : l.length ≤ 1099511627776) : PCo Try.prog 67 [encLTSlot l] (Tab.of []) (.own (0, 1) 3 0 l.length) (Tab.of [((0, 1), .arr false 3 yTSlot (ML encTSlot l))]) := by
  refine pco_of_run [] (E := ⟨[c139], []⟩) (m := false) (base := 0) (Env.ok_cons c139_ok Env.ok_nil) G_ok mix 300 6 Try.func67 (by kernel_rfl) rfl (by kernel_rfl) (by kernel_rfl) rfl ?_
  simp [Try.f67]
  refine ⟨by omega, ?_⟩
  refine loop_inv (fun p : Nat => p ≤ l.length) (fun p => [(0, encLTSlot l), (3, .own (0, 1) 3 0 l.length), (4, dI p)]) (fun p => [((0, 1), .arr false 3 yTSlot (ML encTSlot (l.take p ++ List.replicate (l.length - p) ⟨0, 0, 0⟩)))]) 2 (fun p => l.length - p) 0 100 (by simp) (by simp) (by first | (simp; done) | (simp; simp only [ML, List.map_replicate]; rfl)) ?_
  intro p hp
  simp
  refine ⟨fun hlt => ⟨by omega, by omega, Again.mk (p + 1) (by omega) (by simp [fill_step hlt]) (by first | omega | (simp; omega))⟩, fun hge => ?_⟩
  have : p = l.length := by omega
  subst this
  simp
theorem c67_ok : c67.ok Try.prog := mkCon_ok fun l hpre => c67_pc l hpre
/-- loop.example/g03007/laws.toClaimS -/
noncomputable def c163 : Con := mkCon 163 false (α := (List TClaim)) (fun x => (fun (l : List TClaim) => [encLTClaim l]) x) (fun _ => []) (fun x => (fun (l : List TClaim) => l.length ≤ 1099511627776) x) (fun x => (fun (l : List TClaim) => (.own (0, 1) 5 0 l.length : D)) x) (fun x => (fun (l : List TClaim) => [((0, 1), .arr false 5 yTClaim (ML encTClaim l))]) x)
@[simp] theorem c163_f : c163.f = 163 := rfl
@[simp] theorem c163_own : c163.own = false := rfl
theorem c163_inj : ∀ u_ v_ : (List TClaim), ((fun x => (fun (l : List TClaim) => [encLTClaim l]) x) u_).map nz = ((fun x => (fun (l : List TClaim) => [encLTClaim l]) x) v_).map nz → u_ = v_ := by
  intro u_ v_ h
  obtain l := u_
  obtain l' := v_
  simp [nz_lit, nz1_lit, nz_agg, nz_sl, nz1_sl, encLTClaim] at h
  first | (simp [h]; done) | (obtain ⟨⟩ := h; simp_all; done) | simp_all
@[simp] theorem c163_fn (l : List TClaim) : c163.fn [.sl false 5 yTClaim (ML encTClaim l)] [] = some ((fun (l : List TClaim) => l.length ≤ 1099511627776) l, (fun (l : List TClaim) => (.own (0, 1) 5 0 l.length : D)) l, (fun (l : List TClaim) => [((0, 1), .arr false 5 yTClaim (ML encTClaim l))]) l) :=
  mkCon_fn (fun x y h _ => c163_inj x y h) (l : (List TClaim)) (by simp [nz, nz1, ML_nil, encLTClaim]) rfl
@[simp] theorem c163_fn1 (s_l : Nat) (z_l : D) : c163.fn [.sl false s_l z_l []] [] = some ((fun (l : List TClaim) => l.length ≤ 1099511627776) [], (fun (l : List TClaim) => (.own (0, 1) 5 0 l.length : D)) [], (fun (l : List TClaim) => [((0, 1), .arr false 5 yTClaim (ML encTClaim l))]) []) :=
  mkCon_fn (fun x y h _ => c163_inj x y h) ([] : (List TClaim)) (by simp [nz, nz1, ML_nil, encLTClaim]) rfl
theorem c163_pc (l : List TClaim) (hpre : l.length ≤ 1099511627776) : PCo Try.prog 163 [encLTClaim l] (Tab.of []) (.own (0, 1) 5 0 l.length) (Tab.of [((0, 1), .arr false 5 yTClaim (ML encTClaim l))]) := by
  refine pco_of_run [] (E := ⟨[c226], []⟩) (m := false) (base := 0) (Env.ok_cons c226_ok Env.ok_nil) G_ok mix 300 6 Try.func163 (by kernel_rfl) rfl (by kernel_rfl) (by kernel_rfl) rfl ?_
  simp [Try.f163]
  refine ⟨by omega, ?_⟩
  refine loop_inv (fun p : Nat => p ≤ l.length) (fun p => [(0, encLTClaim l), (3, .own (0, 1) 5 0 l.length), (4, dI p)]) (fun p => [((0, 1), .arr false 5 yTClaim (ML encTClaim (l.take p ++ List.replicate (l.length - p) ⟨0, 0, 0, 0, 0⟩)))]) 2 (fun p => l.length - p) 0 100 (by simp) (by simp) (by first | (simp; done) | (simp; simp only [ML, List.map_replicate]; rfl)) ?_
  intro p hp
  simp
  refine ⟨fun hlt => ⟨by omega, by omega, Again.mk (p + 1) (by omega) (by simp [fill_step hlt]) (by first | omega | (simp; omega))⟩, fun hge => ?_⟩
  have : p = l.length := by omega
  subst this
  simp
theorem c163_ok : c163.ok Try.prog := mkCon_ok fun l hpre => c163_pc l hpre
/-- loop.example/g03007/laws.toTrialS -/
noncomputable def c164 : Con := mkCon 164 false (α := (List TTrial)) (fun x => (fun (l : List TTrial) => [encLTTrial l]) x) (fun _ => []) (fun x => (fun (l : List TTrial) => l.length ≤ 1099511627776) x) (fun x => (fun (l : List TTrial) => (.own (0, 1) 4 0 l.length : D)) x) (fun x => (fun (l : List TTrial) => [((0, 1), .arr false 4 yTTrial (ML encTTrial l))]) x)
@[simp] theorem c164_f : c164.f = 164 := rfl
@[simp] theorem c164_own : c164.own = false := rfl
theorem c164_inj : ∀ u_ v_ : (List TTrial), ((fun x => (fun (l : List TTrial) => [encLTTrial l]) x) u_).map nz = ((fun x => (fun (l : List TTrial) => [encLTTrial l]) x) v_).map nz → u_ = v_ := by
  intro u_ v_ h
  obtain l := u_
  obtain l' := v_
  simp [nz_lit, nz1_lit, nz_agg, nz_sl, nz1_sl, encLTTrial] at h
  first | (simp [h]; done) | (obtain ⟨⟩ := h; simp_all; done) | simp_all
@[simp] theorem c164_fn (l : List TTrial) : c164.fn [.sl false 4 yTTrial (ML encTTrial l)] [] = some ((fun (l : List TTrial) => l.length ≤ 1099511627776) l, (fun (l : List TTrial) => (.own (0, 1) 4 0 l.length : D)) l, (fun (l : List TTrial) => [((0, 1), .arr false 4 yTTrial (ML encTTrial l))]) l) :=
  mkCon_fn (fun x y h _ => c164_inj x y h) (l : (List TTrial)) (by simp [nz, nz1, ML_nil, encLTTrial]) rfl
@[simp] theorem c164_fn1 (s_l : Nat) (z_l : D) : c164.fn [.sl false s_l z_l []] [] = some ((fun (l : List TTrial) => l.length ≤ 1099511627776) [], (fun (l : List TTrial) => (.own (0, 1) 4 0 l.length : D)) [], (fun (l : List TTrial) => [((0, 1), .arr false 4 yTTrial (ML encTTrial l))]) []) :=
  mkCon_fn (fun x y h _ => c164_inj x y h) ([] : (List TTrial)) (by simp [nz, nz1, ML_nil, encLTTrial]) rfl
theorem c164_pc (l : List TTrial) (hpre : l.length ≤ 1099511627776) : PCo Try.prog 164 [encLTTrial l] (Tab.of []) (.own (0, 1) 4 0 l.length) (Tab.of [((0, 1), .arr false 4 yTTrial (ML encTTrial l))]) := by
  refine pco_of_run [] (E := ⟨[c227], []⟩) (m := false) (base := 0) (Env.ok_cons c227_ok Env.ok_nil) G_ok mix 300 6 Try.func164 (by kernel_rfl) rfl (by kernel_rfl) (by kernel_rfl) rfl ?_
  simp [Try.f164]
  refine ⟨by omega, ?_⟩
  refine loop_inv (fun p : Nat => p ≤ l.length) (fun p => [(0, encLTTrial l), (3, .own (0, 1) 4 0 l.length), (4, dI p)]) (fun p => [((0, 1), .arr false 4 yTTrial (ML encTTrial (l.take p ++ List.replicate (l.length - p) ⟨0, 0, 0, 0⟩)))]) 2 (fun p => l.length - p) 0 100 (by simp) (by simp) (by first | (simp; done) | (simp; simp only [ML, List.map_replicate]; rfl)) ?_
  intro p hp
  simp
  refine ⟨fun hlt => ⟨by omega, by omega, Again.mk (p + 1) (by omega) (by simp [fill_step hlt]) (by first | omega | (simp; omega))⟩, fun hge => ?_⟩
  have : p = l.length := by omega
  subst this
  simp
theorem c164_ok : c164.ok Try.prog := mkCon_ok fun l hpre => c164_pc l hpre
/-- loop.example/g03007/laws.toHandS -/
noncomputable def c165 : Con := mkCon 165 false (α := (List THand)) (fun x => (fun (l : List THand) => [encLTHand l]) x) (fun _ => []) (fun x => (fun (l : List THand) => l.length ≤ 1099511627776) x) (fun x => (fun (l : List THand) => (.own (0, 1) 5 0 l.length : D)) x) (fun x => (fun (l : List THand) => [((0, 1), .arr false 5 yTHand (ML encTHand l))]) x)
@[simp] theorem c165_f : c165.f = 165 := rfl
@[simp] theorem c165_own : c165.own = false := rfl
theorem c165_inj : ∀ u_ v_ : (List THand), ((fun x => (fun (l : List THand) => [encLTHand l]) x) u_).map nz = ((fun x => (fun (l : List THand) => [encLTHand l]) x) v_).map nz → u_ = v_ := by
  intro u_ v_ h
  obtain l := u_
  obtain l' := v_
  simp [nz_lit, nz1_lit, nz_agg, nz_sl, nz1_sl, encLTHand] at h
  first | (simp [h]; done) | (obtain ⟨⟩ := h; simp_all; done) | simp_all
@[simp] theorem c165_fn (l : List THand) : c165.fn [.sl false 5 yTHand (ML encTHand l)] [] = some ((fun (l : List THand) => l.length ≤ 1099511627776) l, (fun (l : List THand) => (.own (0, 1) 5 0 l.length : D)) l, (fun (l : List THand) => [((0, 1), .arr false 5 yTHand (ML encTHand l))]) l) :=
  mkCon_fn (fun x y h _ => c165_inj x y h) (l : (List THand)) (by simp [nz, nz1, ML_nil, encLTHand]) rfl
@[simp] theorem c165_fn1 (s_l : Nat) (z_l : D) : c165.fn [.sl false s_l z_l []] [] = some ((fun (l : List THand) => l.length ≤ 1099511627776) [], (fun (l : List THand) => (.own (0, 1) 5 0 l.length : D)) [], (fun (l : List THand) => [((0, 1), .arr false 5 yTHand (ML encTHand l))]) []) :=
  mkCon_fn (fun x y h _ => c165_inj x y h) ([] : (List THand)) (by simp [nz, nz1, ML_nil, encLTHand]) rfl
theorem c165_pc (l : List THand) (hpre : l.length ≤ 1099511627776) : PCo Try.prog 165 [encLTHand l] (Tab.of []) (.own (0, 1) 5 0 l.length) (Tab.of [((0, 1), .arr false 5 yTHand (ML encTHand l))]) := by
  refine pco_of_run [] (E := ⟨[c228], []⟩) (m := false) (base := 0) (Env.ok_cons c228_ok Env.ok_nil) G_ok mix 300 6 Try.func165 (by kernel_rfl) rfl (by kernel_rfl) (by kernel_rfl) rfl ?_
  simp [Try.f165]
  refine ⟨by omega, ?_⟩
  refine loop_inv (fun p : Nat => p ≤ l.length) (fun p => [(0, encLTHand l), (3, .own (0, 1) 5 0 l.length), (4, dI p)]) (fun p => [((0, 1), .arr false 5 yTHand (ML encTHand (l.take p ++ List.replicate (l.length - p) ⟨0, 0, 0, 0, 0⟩)))]) 2 (fun p => l.length - p) 0 100 (by simp) (by simp) (by first | (simp; done) | (simp; simp only [ML, List.map_replicate]; rfl)) ?_
  intro p hp
  simp
  refine ⟨fun hlt => ⟨by omega, by omega, Again.mk (p + 1) (by omega) (by simp [fill_step hlt]) (by first | omega | (simp; omega))⟩, fun hge => ?_⟩
  have : p = l.length := by omega
  subst this
  simp
theorem c165_ok : c165.ok Try.prog := mkCon_ok fun l hpre => c165_pc l hpre
/-- loop.example/g03007/laws.toEntryS -/
noncomputable def c166 : Con := mkCon 166 false (α := (List TEntry)) (fun x => (fun (l : List TEntry) => [encLTEntry l]) x) (fun _ => []) (fun x => (fun (l : List TEntry) => l.length ≤ 1099511627776) x) (fun x => (fun (l : List TEntry) => (.own (0, 1) 4 0 l.length : D)) x) (fun x => (fun (l : List TEntry) => [((0, 1), .arr false 4 yTEntry (ML encTEntry l))]) x)
@[simp] theorem c166_f : c166.f = 166 := rfl
@[simp] theorem c166_own : c166.own = false := rfl
theorem c166_inj : ∀ u_ v_ : (List TEntry), ((fun x => (fun (l : List TEntry) => [encLTEntry l]) x) u_).map nz = ((fun x => (fun (l : List TEntry) => [encLTEntry l]) x) v_).map nz → u_ = v_ := by
  intro u_ v_ h
  obtain l := u_
  obtain l' := v_
  simp [nz_lit, nz1_lit, nz_agg, nz_sl, nz1_sl, encLTEntry] at h
  first | (simp [h]; done) | (obtain ⟨⟩ := h; simp_all; done) | simp_all
@[simp] theorem c166_fn (l : List TEntry) : c166.fn [.sl false 4 yTEntry (ML encTEntry l)] [] = some ((fun (l : List TEntry) => l.length ≤ 1099511627776) l, (fun (l : List TEntry) => (.own (0, 1) 4 0 l.length : D)) l, (fun (l : List TEntry) => [((0, 1), .arr false 4 yTEntry (ML encTEntry l))]) l) :=
  mkCon_fn (fun x y h _ => c166_inj x y h) (l : (List TEntry)) (by simp [nz, nz1, ML_nil, encLTEntry]) rfl
@[simp] theorem c166_fn1 (s_l : Nat) (z_l : D) : c166.fn [.sl false s_l z_l []] [] = some ((fun (l : List TEntry) => l.length ≤ 1099511627776) [], (fun (l : List TEntry) => (.own (0, 1) 4 0 l.length : D)) [], (fun (l : List TEntry) => [((0, 1), .arr false 4 yTEntry (ML encTEntry l))]) []) :=
  mkCon_fn (fun x y h _ => c166_inj x y h) ([] : (List TEntry)) (by simp [nz, nz1, ML_nil, encLTEntry]) rfl
theorem c166_pc (l : List TEntry) (hpre : l.length ≤ 1099511627776) : PCo Try.prog 166 [encLTEntry l] (Tab.of []) (.own (0, 1) 4 0 l.length) (Tab.of [((0, 1), .arr false 4 yTEntry (ML encTEntry l))]) := by
  refine pco_of_run [] (E := ⟨[c229], []⟩) (m := false) (base := 0) (Env.ok_cons c229_ok Env.ok_nil) G_ok mix 300 6 Try.func166 (by kernel_rfl) rfl (by kernel_rfl) (by kernel_rfl) rfl ?_
  simp [Try.f166]
  refine ⟨by omega, ?_⟩
  refine loop_inv (fun p : Nat => p ≤ l.length) (fun p => [(0, encLTEntry l), (3, .own (0, 1) 4 0 l.length), (4, dI p)]) (fun p => [((0, 1), .arr false 4 yTEntry (ML encTEntry (l.take p ++ List.replicate (l.length - p) ⟨0, 0, 0, 0⟩)))]) 2 (fun p => l.length - p) 0 100 (by simp) (by simp) (by first | (simp; done) | (simp; simp only [ML, List.map_replicate]; rfl)) ?_
  intro p hp
  simp
  refine ⟨fun hlt => ⟨by omega, by omega, Again.mk (p + 1) (by omega) (by simp [fill_step hlt]) (by first | omega | (simp; omega))⟩, fun hge => ?_⟩
  have : p = l.length := by omega
  subst this
  simp
theorem c166_ok : c166.ok Try.prog := mkCon_ok fun l hpre => c166_pc l hpre
/-- loop.example/g03007/laws.eqSlotS -/
noncomputable def c70 : Con := mkCon 70 false (α := (List TSlot) × (List TSlot)) (fun x => (fun (a : List TSlot) (b : List TSlot) => [encLTSlot a, encLTSlot b]) x.1 x.2) (fun _ => []) (fun x => (fun (a : List TSlot) (b : List TSlot) => a.length ≤ 1099511627776 ∧ b.length ≤ 1099511627776) x.1 x.2) (fun x => (fun (a : List TSlot) (b : List TSlot) => (dB (decide (a = b)) : D)) x.1 x.2) (fun x => (fun (a : List TSlot) (b : List TSlot) => []) x.1 x.2)
@[simp] theorem c70_f : c70.f = 70 := rfl
@[simp] theorem c70_own : c70.own = false := rfl
theorem c70_inj : ∀ u_ v_ : (List TSlot) × (List TSlot), ((fun x => (fun (a : List TSlot) (b : List TSlot) => [encLTSlot a, encLTSlot b]) x.1 x.2) u_).map nz = ((fun x => (fun (a : List TSlot) (b : List TSlot) => [encLTSlot a, encLTSlot b]) x.1 x.2) v_).map nz → u_ = v_ := by
  intro u_ v_ h
  obtain ⟨a, b⟩ := u_
  obtain ⟨a', b'⟩ := v_
  simp [nz_lit, nz1_lit, nz_agg, nz_sl, nz1_sl, encLTSlot] at h
  first | (simp [h]; done) | (obtain ⟨⟩ := h; simp_all; done) | simp_all
@[simp] theorem c70_fn (a : List TSlot) (b : List TSlot) : c70.fn [.sl false 3 yTSlot (ML encTSlot a), .sl false 3 yTSlot (ML encTSlot b)] [] = some ((fun (a : List TSlot) (b : List TSlot) => a.length ≤ 1099511627776 ∧ b.length ≤ 1099511627776) a b, (fun (a : List TSlot) (b : List TSlot) => (dB (decide (a = b)) : D)) a b, (fun (a : List TSlot) (b : List TSlot) => []) a b) :=
  mkCon_fn (fun x y h _ => c70_inj x y h) ((a, b) : (List TSlot) × (List TSlot)) (by simp [nz, nz1, ML_nil, encLTSlot]) rfl
@[simp] theorem c70_fn1 (s_a : Nat) (z_a : D) (b : List TSlot) : c70.fn [.sl false s_a z_a [], .sl false 3 yTSlot (ML encTSlot b)] [] = some ((fun (a : List TSlot) (b : List TSlot) => a.length ≤ 1099511627776 ∧ b.length ≤ 1099511627776) [] b, (fun (a : List TSlot) (b : List TSlot) => (dB (decide (a = b)) : D)) [] b, (fun (a : List TSlot) (b : List TSlot) => []) [] b) :=
  mkCon_fn (fun x y h _ => c70_inj x y h) (([], b) : (List TSlot) × (List TSlot)) (by simp [nz, nz1, ML_nil, encLTSlot]) rfl
@[simp] theorem c70_fn2 (a : List TSlot) (s_b : Nat) (z_b : D) : c70.fn [.sl false 3 yTSlot (ML encTSlot a), .sl false s_b z_b []] [] = some ((fun (a : List TSlot) (b : List TSlot) => a.length ≤ 1099511627776 ∧ b.length ≤ 1099511627776) a [], (fun (a : List TSlot) (b : List TSlot) => (dB (decide (a = b)) : D)) a [], (fun (a : List TSlot) (b : List TSlot) => []) a []) :=
  mkCon_fn (fun x y h _ => c70_inj x y h) ((a, []) : (List TSlot) × (List TSlot)) (by simp [nz, nz1, ML_nil, encLTSlot]) rfl
@[simp] theorem c70_fn3 (s_a : Nat) (z_a : D) (s_b : Nat) (z_b : D) : c70.fn [.sl false s_a z_a [], .sl false s_b z_b []] [] = some ((fun (a : List TSlot) (b : List TSlot) => a.length ≤ 1099511627776 ∧ b.length ≤ 1099511627776) [] [], (fun (a : List TSlot) (b : List TSlot) => (dB (decide (a = b)) : D)) [] [], (fun (a : List TSlot) (b : List TSlot) => []) [] []) :=
  mkCon_fn (fun x y h _ => c70_inj x y h) (([], []) : (List TSlot) × (List TSlot)) (by simp [nz, nz1, ML_nil, encLTSlot]) rfl
theorem c70_pc (a : List TSlot) (b : List TSlot) (hpre : a.length ≤ 1099511627776 ∧ b.length ≤ 1099511627776) : PCo Try.prog 70 [encLTSlot a, encLTSlot b] (Tab.of []) (dB (decide (a = b))) (Tab.of []) := by
  refine pco_of_run [] (E := ⟨[c143], []⟩) (m := false) (base := 0) (Env.ok_cons c143_ok Env.ok_nil) G_ok mix 300 6 Try.func70 (by kernel_rfl) rfl (by kernel_rfl) (by kernel_rfl) rfl ?_
  simp [Try.f70]
  obtain ⟨pre1, pre2⟩ := hpre
  refine ⟨fun h => ?_, fun h => by intro e; subst e; exact absurd rfl h⟩
  refine loop_inv (fun p : Nat => p ≤ a.length ∧ a.take p = b.take p) (fun p => [(0, encLTSlot a), (1, encLTSlot b), (5, dI p)]) (fun _ => []) 1 (fun p => a.length - p) 0 100 (by simp) (by simp) (by simp) ?_
  intro p ⟨hp, hi⟩
  simp
  refine ⟨fun hlt => ⟨by omega, fun h2 => ⟨by omega, Again.mk (p + 1) ⟨by omega, take_eq_step hi (by omega) (by omega) h2⟩ (by simp) (by first | omega | (simp; omega))⟩, fun h2 => by intro e; subst e; exact absurd rfl h2⟩, fun hge => ?_⟩
  exact take_eq_full hi (by omega) (by omega)
theorem c70_ok : c70.ok Try.prog := mkCon_ok fun ⟨a, b⟩ hpre => c70_pc a b hpre
/-- loop.example/g03007/laws.eqClaimS -/
noncomputable def c175 : Con := mkCon 175 false (α := (List TClaim) × (List TClaim)) (fun x => (fun (a : List TClaim) (b : List TClaim) => [encLTClaim a, encLTClaim b]) x.1 x.2) (fun _ => []) (fun x => (fun (a : List TClaim) (b : List TClaim) => a.length ≤ 1099511627776 ∧ b.length ≤ 1099511627776) x.1 x.2) (fun x => (fun (a : List TClaim) (b : List TClaim) => (dB (decide (a = b)) : D)) x.1 x.2) (fun x => (fun (a : List TClaim) (b : List TClaim) => []) x.1 x.2)
@[simp] theorem c175_f : c175.f = 175 := rfl
@[simp] theorem c175_own : c175.own = false := rfl
theorem c175_inj : ∀ u_ v_ : (List TClaim) × (List TClaim), ((fun x => (fun (a : List TClaim) (b : List TClaim) => [encLTClaim a, encLTClaim b]) x.1 x.2) u_).map nz = ((fun x => (fun (a : List TClaim) (b : List TClaim) => [encLTClaim a, encLTClaim b]) x.1 x.2) v_).map nz → u_ = v_ := by
  intro u_ v_ h
  obtain ⟨a, b⟩ := u_
  obtain ⟨a', b'⟩ := v_
  simp [nz_lit, nz1_lit, nz_agg, nz_sl, nz1_sl, encLTClaim] at h
  first | (simp [h]; done) | (obtain ⟨⟩ := h; simp_all; done) | simp_all
@[simp] theorem c175_fn (a : List TClaim) (b : List TClaim) : c175.fn [.sl false 5 yTClaim (ML encTClaim a), .sl false 5 yTClaim (ML encTClaim b)] [] = some ((fun (a : List TClaim) (b : List TClaim) => a.length ≤ 1099511627776 ∧ b.length ≤ 1099511627776) a b, (fun (a : List TClaim) (b : List TClaim) => (dB (decide (a = b)) : D)) a b, (fun (a : List TClaim) (b : List TClaim) => []) a b) :=
  mkCon_fn (fun x y h _ => c175_inj x y h) ((a, b) : (List TClaim) × (List TClaim)) (by simp [nz, nz1, ML_nil, encLTClaim]) rfl
@[simp] theorem c175_fn1 (s_a : Nat) (z_a : D) (b : List TClaim) : c175.fn [.sl false s_a z_a [], .sl false 5 yTClaim (ML encTClaim b)] [] = some ((fun (a : List TClaim) (b : List TClaim) => a.length ≤ 1099511627776 ∧ b.length ≤ 1099511627776) [] b, (fun (a : List TClaim) (b : List TClaim) => (dB (decide (a = b)) : D)) [] b, (fun (a : List TClaim) (b : List TClaim) => []) [] b) :=
  mkCon_fn (fun x y h _ => c175_inj x y h) (([], b) : (List TClaim) × (List TClaim)) (by simp [nz, nz1, ML_nil, encLTClaim]) rfl
@[simp] theorem c175_fn2 (a : List TClaim) (s_b : Nat) (z_b : D) : c175.fn [.sl false 5 yTClaim (ML encTClaim a), .sl false s_b z_b []] [] = some ((fun (a : List TClaim) (b : List TClaim) => a.length ≤ 1099511627776 ∧ b.length ≤ 1099511627776) a [], (fun (a : List TClaim) (b : List TClaim) => (dB (decide (a = b)) : D)) a [], (fun (a : List TClaim) (b : List TClaim) => []) a []) :=
  mkCon_fn (fun x y h _ => c175_inj x y h) ((a, []) : (List TClaim) × (List TClaim)) (by simp [nz, nz1, ML_nil, encLTClaim]) rfl
@[simp] theorem c175_fn3 (s_a : Nat) (z_a : D) (s_b : Nat) (z_b : D) : c175.fn [.sl false s_a z_a [], .sl false s_b z_b []] [] = some ((fun (a : List TClaim) (b : List TClaim) => a.length ≤ 1099511627776 ∧ b.length ≤ 1099511627776) [] [], (fun (a : List TClaim) (b : List TClaim) => (dB (decide (a = b)) : D)) [] [], (fun (a : List TClaim) (b : List TClaim) => []) [] []) :=
  mkCon_fn (fun x y h _ => c175_inj x y h) (([], []) : (List TClaim) × (List TClaim)) (by simp [nz, nz1, ML_nil, encLTClaim]) rfl
theorem c175_pc (a : List TClaim) (b : List TClaim) (hpre : a.length ≤ 1099511627776 ∧ b.length ≤ 1099511627776) : PCo Try.prog 175 [encLTClaim a, encLTClaim b] (Tab.of []) (dB (decide (a = b))) (Tab.of []) := by
  refine pco_of_run [] (E := ⟨[c234], []⟩) (m := false) (base := 0) (Env.ok_cons c234_ok Env.ok_nil) G_ok mix 300 6 Try.func175 (by kernel_rfl) rfl (by kernel_rfl) (by kernel_rfl) rfl ?_
  simp [Try.f175]
  obtain ⟨pre1, pre2⟩ := hpre
  refine ⟨fun h => ?_, fun h => by intro e; subst e; exact absurd rfl h⟩
  refine loop_inv (fun p : Nat => p ≤ a.length ∧ a.take p = b.take p) (fun p => [(0, encLTClaim a), (1, encLTClaim b), (5, dI p)]) (fun _ => []) 1 (fun p => a.length - p) 0 100 (by simp) (by simp) (by simp) ?_
  intro p ⟨hp, hi⟩
  simp
  refine ⟨fun hlt => ⟨by omega, fun h2 => ⟨by omega, Again.mk (p + 1) ⟨by omega, take_eq_step hi (by omega) (by omega) h2⟩ (by simp) (by first | omega | (simp; omega))⟩, fun h2 => by intro e; subst e; exact absurd rfl h2⟩, fun hge => ?_⟩
  exact take_eq_full hi (by omega) (by omega)
theorem c175_ok : c175.ok Try.prog := mkCon_ok fun ⟨a, b⟩ hpre => c175_pc a b hpre
/-- loop.example/g03007/laws.eqTrialS -/
noncomputable def c176 : Con := mkCon 176 false (α := (List TTrial) × (List TTrial)) (fun x => (fun (a : List TTrial) (b : List TTrial) => [encLTTrial a, encLTTrial b]) x.1 x.2) (fun _ => []) (fun x => (fun (a : List TTrial) (b : List TTrial) => a.length ≤ 1099511627776 ∧ b.length ≤ 1099511627776) x.1 x.2) (fun x => (fun (a : List TTrial) (b : List TTrial) => (dB (decide (a = b)) : D)) x.1 x.2) (fun x => (fun (a : List TTrial) (b : List TTrial) => []) x.1 x.2)
@[simp] theorem c176_f : c176.f = 176 := rfl
@[simp] theorem c176_own : c176.own = false := rfl
theorem c176_inj : ∀ u_ v_ : (List TTrial) × (List TTrial), ((fun x => (fun (a : List TTrial) (b : List TTrial) => [encLTTrial a, encLTTrial b]) x.1 x.2) u_).map nz = ((fun x => (fun (a : List TTrial) (b : List TTrial) => [encLTTrial a, encLTTrial b]) x.1 x.2) v_).map nz → u_ = v_ := by
  intro u_ v_ h
  obtain ⟨a, b⟩ := u_
  obtain ⟨a', b'⟩ := v_
  simp [nz_lit, nz1_lit, nz_agg, nz_sl, nz1_sl, encLTTrial] at h
  first | (simp [h]; done) | (obtain ⟨⟩ := h; simp_all; done) | simp_all
@[simp] theorem c176_fn (a : List TTrial) (b : List TTrial) : c176.fn [.sl false 4 yTTrial (ML encTTrial a), .sl false 4 yTTrial (ML encTTrial b)] [] = some ((fun (a : List TTrial) (b : List TTrial) => a.length ≤ 1099511627776 ∧ b.length ≤ 1099511627776) a b, (fun (a : List TTrial) (b : List TTrial) => (dB (decide (a = b)) : D)) a b, (fun (a : List TTrial) (b : List TTrial) => []) a b) :=
  mkCon_fn (fun x y h _ => c176_inj x y h) ((a, b) : (List TTrial) × (List TTrial)) (by simp [nz, nz1, ML_nil, encLTTrial]) rfl
@[simp] theorem c176_fn1 (s_a : Nat) (z_a : D) (b : List TTrial) : c176.fn [.sl false s_a z_a [], .sl false 4 yTTrial (ML encTTrial b)] [] = some ((fun (a : List TTrial) (b : List TTrial) => a.length ≤ 1099511627776 ∧ b.length ≤ 1099511627776) [] b, (fun (a : List TTrial) (b : List TTrial) => (dB (decide (a = b)) : D)) [] b, (fun (a : List TTrial) (b : List TTrial) => []) [] b) :=
  mkCon_fn (fun x y h _ => c176_inj x y h) (([], b) : (List TTrial) × (List TTrial)) (by simp [nz, nz1, ML_nil, encLTTrial]) rfl
@[simp] theorem c176_fn2 (a : List TTrial) (s_b : Nat) (z_b : D) : c176.fn [.sl false 4 yTTrial (ML encTTrial a), .sl false s_b z_b []] [] = some ((fun (a : List TTrial) (b : List TTrial) => a.length ≤ 1099511627776 ∧ b.length ≤ 1099511627776) a [], (fun (a : List TTrial) (b : List TTrial) => (dB (decide (a = b)) : D)) a [], (fun (a : List TTrial) (b : List TTrial) => []) a []) :=
  mkCon_fn (fun x y h _ => c176_inj x y h) ((a, []) : (List TTrial) × (List TTrial)) (by simp [nz, nz1, ML_nil, encLTTrial]) rfl
@[simp] theorem c176_fn3 (s_a : Nat) (z_a : D) (s_b : Nat) (z_b : D) : c176.fn [.sl false s_a z_a [], .sl false s_b z_b []] [] = some ((fun (a : List TTrial) (b : List TTrial) => a.length ≤ 1099511627776 ∧ b.length ≤ 1099511627776) [] [], (fun (a : List TTrial) (b : List TTrial) => (dB (decide (a = b)) : D)) [] [], (fun (a : List TTrial) (b : List TTrial) => []) [] []) :=
  mkCon_fn (fun x y h _ => c176_inj x y h) (([], []) : (List TTrial) × (List TTrial)) (by simp [nz, nz1, ML_nil, encLTTrial]) rfl
theorem c176_pc (a : List TTrial) (b : List TTrial) (hpre : a.length ≤ 1099511627776 ∧ b.length ≤ 1099511627776) : PCo Try.prog 176 [encLTTrial a, encLTTrial b] (Tab.of []) (dB (decide (a = b))) (Tab.of []) := by
  refine pco_of_run [] (E := ⟨[c235], []⟩) (m := false) (base := 0) (Env.ok_cons c235_ok Env.ok_nil) G_ok mix 300 6 Try.func176 (by kernel_rfl) rfl (by kernel_rfl) (by kernel_rfl) rfl ?_
  simp [Try.f176]
  obtain ⟨pre1, pre2⟩ := hpre
  refine ⟨fun h => ?_, fun h => by intro e; subst e; exact absurd rfl h⟩
  refine loop_inv (fun p : Nat => p ≤ a.length ∧ a.take p = b.take p) (fun p => [(0, encLTTrial a), (1, encLTTrial b), (5, dI p)]) (fun _ => []) 1 (fun p => a.length - p) 0 100 (by simp) (by simp) (by simp) ?_
  intro p ⟨hp, hi⟩
  simp
  refine ⟨fun hlt => ⟨by omega, fun h2 => ⟨by omega, Again.mk (p + 1) ⟨by omega, take_eq_step hi (by omega) (by omega) h2⟩ (by simp) (by first | omega | (simp; omega))⟩, fun h2 => by intro e; subst e; exact absurd rfl h2⟩, fun hge => ?_⟩
  exact take_eq_full hi (by omega) (by omega)
theorem c176_ok : c176.ok Try.prog := mkCon_ok fun ⟨a, b⟩ hpre => c176_pc a b hpre
/-- loop.example/g03007/laws.eqHandS -/
noncomputable def c177 : Con := mkCon 177 false (α := (List THand) × (List THand)) (fun x => (fun (a : List THand) (b : List THand) => [encLTHand a, encLTHand b]) x.1 x.2) (fun _ => []) (fun x => (fun (a : List THand) (b : List THand) => a.length ≤ 1099511627776 ∧ b.length ≤ 1099511627776) x.1 x.2) (fun x => (fun (a : List THand) (b : List THand) => (dB (decide (a = b)) : D)) x.1 x.2) (fun x => (fun (a : List THand) (b : List THand) => []) x.1 x.2)
@[simp] theorem c177_f : c177.f = 177 := rfl
@[simp] theorem c177_own : c177.own = false := rfl
theorem c177_inj : ∀ u_ v_ : (List THand) × (List THand), ((fun x => (fun (a : List THand) (b : List THand) => [encLTHand a, encLTHand b]) x.1 x.2) u_).map nz = ((fun x => (fun (a : List THand) (b : List THand) => [encLTHand a, encLTHand b]) x.1 x.2) v_).map nz → u_ = v_ := by
  intro u_ v_ h
  obtain ⟨a, b⟩ := u_
  obtain ⟨a', b'⟩ := v_
  simp [nz_lit, nz1_lit, nz_agg, nz_sl, nz1_sl, encLTHand] at h
  first | (simp [h]; done) | (obtain ⟨⟩ := h; simp_all; done) | simp_all
@[simp] theorem c177_fn (a : List THand) (b : List THand) : c177.fn [.sl false 5 yTHand (ML encTHand a), .sl false 5 yTHand (ML encTHand b)] [] = some ((fun (a : List THand) (b : List THand) => a.length ≤ 1099511627776 ∧ b.length ≤ 1099511627776) a b, (fun (a : List THand) (b : List THand) => (dB (decide (a = b)) : D)) a b, (fun (a : List THand) (b : List THand) => []) a b) :=
  mkCon_fn (fun x y h _ => c177_inj x y h) ((a, b) : (List THand) × (List THand)) (by simp [nz, nz1, ML_nil, encLTHand]) rfl
@[simp] theorem c177_fn1 (s_a : Nat) (z_a : D) (b : List THand) : c177.fn [.sl false s_a z_a [], .sl false 5 yTHand (ML encTHand b)] [] = some ((fun (a : List THand) (b : List THand) => a.length ≤ 1099511627776 ∧ b.length ≤ 1099511627776) [] b, (fun (a : List THand) (b : List THand) => (dB (decide (a = b)) : D)) [] b, (fun (a : List THand) (b : List THand) => []) [] b) :=
  mkCon_fn (fun x y h _ => c177_inj x y h) (([], b) : (List THand) × (List THand)) (by simp [nz, nz1, ML_nil, encLTHand]) rfl
@[simp] theorem c177_fn2 (a : List THand) (s_b : Nat) (z_b : D) : c177.fn [.sl false 5 yTHand (ML encTHand a), .sl false s_b z_b []] [] = some ((fun (a : List THand) (b : List THand) => a.length ≤ 1099511627776 ∧ b.length ≤ 1099511627776) a [], (fun (a : List THand) (b : List THand) => (dB (decide (a = b)) : D)) a [], (fun (a : List THand) (b : List THand) => []) a []) :=
  mkCon_fn (fun x y h _ => c177_inj x y h) ((a, []) : (List THand) × (List THand)) (by simp [nz, nz1, ML_nil, encLTHand]) rfl
@[simp] theorem c177_fn3 (s_a : Nat) (z_a : D) (s_b : Nat) (z_b : D) : c177.fn [.sl false s_a z_a [], .sl false s_b z_b []] [] = some ((fun (a : List THand) (b : List THand) => a.length ≤ 1099511627776 ∧ b.length ≤ 1099511627776) [] [], (fun (a : List THand) (b : List THand) => (dB (decide (a = b)) : D)) [] [], (fun (a : List THand) (b : List THand) => []) [] []) :=
  mkCon_fn (fun x y h _ => c177_inj x y h) (([], []) : (List THand) × (List THand)) (by simp [nz, nz1, ML_nil, encLTHand]) rfl
theorem c177_pc (a : List THand) (b : List THand) (hpre : a.length ≤ 1099511627776 ∧ b.length ≤ 1099511627776) : PCo Try.prog 177 [encLTHand a, encLTHand b] (Tab.of []) (dB (decide (a = b))) (Tab.of []) := by
  refine pco_of_run [] (E := ⟨[c236], []⟩) (m := false) (base := 0) (Env.ok_cons c236_ok Env.ok_nil) G_ok mix 300 6 Try.func177 (by kernel_rfl) rfl (by kernel_rfl) (by kernel_rfl) rfl ?_
  simp [Try.f177]
  obtain ⟨pre1, pre2⟩ := hpre
  refine ⟨fun h => ?_, fun h => by intro e; subst e; exact absurd rfl h⟩
  refine loop_inv (fun p : Nat => p ≤ a.length ∧ a.take p = b.take p) (fun p => [(0, encLTHand a), (1, encLTHand b), (5, dI p)]) (fun _ => []) 1 (fun p => a.length - p) 0 100 (by simp) (by simp) (by simp) ?_
  intro p ⟨hp, hi⟩
  simp
  refine ⟨fun hlt => ⟨by omega, fun h2 => ⟨by omega, Again.mk (p + 1) ⟨by omega, take_eq_step hi (by omega) (by omega) h2⟩ (by simp) (by first | omega | (simp; omega))⟩, fun h2 => by intro e; subst e; exact absurd rfl h2⟩, fun hge => ?_⟩
  exact take_eq_full hi (by omega) (by omega)
theorem c177_ok : c177.ok Try.prog := mkCon_ok fun ⟨a, b⟩ hpre => c177_pc a b hpre
/-- loop.example/g03007/laws.eqEntryS -/
noncomputable def c178 : Con := mkCon 178 false (α := (List TEntry) × (List TEntry)) (fun x => (fun (a : List TEntry) (b : List TEntry) => [encLTEntry a, encLTEntry b]) x.1 x.2) (fun _ => []) (fun x => (fun (a : List TEntry) (b : List TEntry) => a.length ≤ 1099511627776 ∧ b.length ≤ 1099511627776) x.1 x.2) (fun x => (fun (a : List TEntry) (b : List TEntry) => (dB (decide (a = b)) : D)) x.1 x.2) (fun x => (fun (a : List TEntry) (b : List TEntry) => []) x.1 x.2)
@[simp] theorem c178_f : c178.f = 178 := rfl
@[simp] theorem c178_own : c178.own = false := rfl
theorem c178_inj : ∀ u_ v_ : (List TEntry) × (List TEntry), ((fun x => (fun (a : List TEntry) (b : List TEntry) => [encLTEntry a, encLTEntry b]) x.1 x.2) u_).map nz = ((fun x => (fun (a : List TEntry) (b : List TEntry) => [encLTEntry a, encLTEntry b]) x.1 x.2) v_).map nz → u_ = v_ := by
  intro u_ v_ h
  obtain ⟨a, b⟩ := u_
  obtain ⟨a', b'⟩ := v_
  simp [nz_lit, nz1_lit, nz_agg, nz_sl, nz1_sl, encLTEntry] at h
  first | (simp [h]; done) | (obtain ⟨⟩ := h; simp_all; done) | simp_all
@[simp] theorem c178_fn (a : List TEntry) (b : List TEntry) : c178.fn [.sl false 4 yTEntry (ML encTEntry a), .sl false 4 yTEntry (ML encTEntry b)] [] = some ((fun (a : List TEntry) (b : List TEntry) => a.length ≤ 1099511627776 ∧ b.length ≤ 1099511627776) a b, (fun (a : List TEntry) (b : List TEntry) => (dB (decide (a = b)) : D)) a b, (fun (a : List TEntry) (b : List TEntry) => []) a b) :=
  mkCon_fn (fun x y h _ => c178_inj x y h) ((a, b) : (List TEntry) × (List TEntry)) (by simp [nz, nz1, ML_nil, encLTEntry]) rfl
@[simp] theorem c178_fn1 (s_a : Nat) (z_a : D) (b : List TEntry) : c178.fn [.sl false s_a z_a [], .sl false 4 yTEntry (ML encTEntry b)] [] = some ((fun (a : List TEntry) (b : List TEntry) => a.length ≤ 1099511627776 ∧ b.length ≤ 1099511627776) [] b, (fun (a : List TEntry) (b : List TEntry) => (dB (decide (a = b)) : D)) [] b, (fun (a : List TEntry) (b : List TEntry) => []) [] b) :=
  mkCon_fn (fun x y h _ => c178_inj x y h) (([], b) : (List TEntry) × (List TEntry)) (by simp [nz, nz1, ML_nil, encLTEntry]) rfl
@[simp] theorem c178_fn2 (a : List TEntry) (s_b : Nat) (z_b : D) : c178.fn [.sl false 4 yTEntry (ML encTEntry a), .sl false s_b z_b []] [] = some ((fun (a : List TEntry) (b : List TEntry) => a.length ≤ 1099511627776 ∧ b.length ≤ 1099511627776) a [], (fun (a : List TEntry) (b : List TEntry) => (dB (decide (a = b)) : D)) a [], (fun (a : List TEntry) (b : List TEntry) => []) a []) :=
  mkCon_fn (fun x y h _ => c178_inj x y h) ((a, []) : (List TEntry) × (List TEntry)) (by simp [nz, nz1, ML_nil, encLTEntry]) rfl
@[simp] theorem c178_fn3 (s_a : Nat) (z_a : D) (s_b : Nat) (z_b : D) : c178.fn [.sl false s_a z_a [], .sl false s_b z_b []] [] = some ((fun (a : List TEntry) (b : List TEntry) => a.length ≤ 1099511627776 ∧ b.length ≤ 1099511627776) [] [], (fun (a : List TEntry) (b : List TEntry) => (dB (decide (a = b)) : D)) [] [], (fun (a : List TEntry) (b : List TEntry) => []) [] []) :=
  mkCon_fn (fun x y h _ => c178_inj x y h) (([], []) : (List TEntry) × (List TEntry)) (by simp [nz, nz1, ML_nil, encLTEntry]) rfl
theorem c178_pc (a : List TEntry) (b : List TEntry) (hpre : a.length ≤ 1099511627776 ∧ b.length ≤ 1099511627776) : PCo Try.prog 178 [encLTEntry a, encLTEntry b] (Tab.of []) (dB (decide (a = b))) (Tab.of []) := by
  refine pco_of_run [] (E := ⟨[c237], []⟩) (m := false) (base := 0) (Env.ok_cons c237_ok Env.ok_nil) G_ok mix 300 6 Try.func178 (by kernel_rfl) rfl (by kernel_rfl) (by kernel_rfl) rfl ?_
  simp [Try.f178]
  obtain ⟨pre1, pre2⟩ := hpre
  refine ⟨fun h => ?_, fun h => by intro e; subst e; exact absurd rfl h⟩
  refine loop_inv (fun p : Nat => p ≤ a.length ∧ a.take p = b.take p) (fun p => [(0, encLTEntry a), (1, encLTEntry b), (5, dI p)]) (fun _ => []) 1 (fun p => a.length - p) 0 100 (by simp) (by simp) (by simp) ?_
  intro p ⟨hp, hi⟩
  simp
  refine ⟨fun hlt => ⟨by omega, fun h2 => ⟨by omega, Again.mk (p + 1) ⟨by omega, take_eq_step hi (by omega) (by omega) h2⟩ (by simp) (by first | omega | (simp; omega))⟩, fun h2 => by intro e; subst e; exact absurd rfl h2⟩, fun hge => ?_⟩
  exact take_eq_full hi (by omega) (by omega)
theorem c178_ok : c178.ok Try.prog := mkCon_ok fun ⟨a, b⟩ hpre => c178_pc a b hpre
@[simp] def smH (h : THouse) : Prop := h.Finds.length ≤ 1073741823 ∧ (h.Secrets.length ≤ 1073741823 ∧ ∀ x ∈ h.Secrets, smS x) ∧ h.Slots.length ≤ 1073741823 ∧ h.Claims.length ≤ 1073741823 ∧ h.Trials.length ≤ 1073741823 ∧ h.Chain.length ≤ 1073741823 ∧ h.Book.length ≤ 1073741823
@[simp] def smHM (h : THouse) : Prop := h.Finds.length ≤ maxLen ∧ (h.Secrets.length ≤ maxLen ∧ ∀ x ∈ h.Secrets, x.Marks.length ≤ maxLen) ∧ h.Slots.length ≤ maxLen ∧ h.Claims.length ≤ maxLen ∧ h.Trials.length ≤ maxLen ∧ h.Chain.length ≤ maxLen ∧ h.Book.length ≤ maxLen
/-- loop.example/g03007/laws.toHouse -/
noncomputable def c94 : Con := mkCon 94 false (α := THouse) (fun x => (fun (h : THouse) => [encTHouse h]) x) (fun _ => []) (fun x => (fun (h : THouse) => smH h) x) (fun x => (fun (h : THouse) => (encTHouse h : D)) x) (fun x => (fun (h : THouse) => []) x)
@[simp] theorem c94_f : c94.f = 94 := rfl
@[simp] theorem c94_own : c94.own = false := rfl
theorem c94_inj : ∀ u_ v_ : THouse, ((fun x => (fun (h : THouse) => [encTHouse h]) x) u_).map nz = ((fun x => (fun (h : THouse) => [encTHouse h]) x) v_).map nz → u_ = v_ := by
  intro u_ v_ h
  obtain ⟨h_No, h_Finds, h_Secrets, h_Slots, h_Claims, h_Trials, h_Chain, h_Book, h_Now⟩ := u_
  obtain ⟨h_No', h_Finds', h_Secrets', h_Slots', h_Claims', h_Trials', h_Chain', h_Book', h_Now'⟩ := v_
  simp [nz_lit, nz1_lit, nz_agg, nz_sl, nz1_sl, encLTClaim, encLTEntry, encLTFind, encLTHand, encLTSecret, encLTSlot, encLTTrial, encTHouse] at h
  first | (simp [h]; done) | (obtain ⟨⟩ := h; simp_all; done) | simp_all
@[simp] theorem c94_fn (h_No : Int) (h_Finds : List TFind) (h_Secrets : List TSecret) (h_Slots : List TSlot) (h_Claims : List TClaim) (h_Trials : List TTrial) (h_Chain : List THand) (h_Book : List TEntry) (h_Now : Int) : c94.fn [.agg [.lit (.int .i64 h_No), .sl false 8 yTFind (ML encTFind h_Finds), .sl false 3 yTSecret (ML encTSecret h_Secrets), .sl false 3 yTSlot (ML encTSlot h_Slots), .sl false 5 yTClaim (ML encTClaim h_Claims), .sl false 4 yTTrial (ML encTTrial h_Trials), .sl false 5 yTHand (ML encTHand h_Chain), .sl false 4 yTEntry (ML encTEntry h_Book), .lit (.int .i64 h_Now)]] [] = some ((fun (h : THouse) => smH h) ⟨h_No, h_Finds, h_Secrets, h_Slots, h_Claims, h_Trials, h_Chain, h_Book, h_Now⟩, (fun (h : THouse) => (encTHouse h : D)) ⟨h_No, h_Finds, h_Secrets, h_Slots, h_Claims, h_Trials, h_Chain, h_Book, h_Now⟩, (fun (h : THouse) => []) ⟨h_No, h_Finds, h_Secrets, h_Slots, h_Claims, h_Trials, h_Chain, h_Book, h_Now⟩) :=
  mkCon_fn (fun x y h _ => c94_inj x y h) (⟨h_No, h_Finds, h_Secrets, h_Slots, h_Claims, h_Trials, h_Chain, h_Book, h_Now⟩ : THouse) (by simp [nz, nz1, ML_nil, encLTClaim, encLTEntry, encLTFind, encLTHand, encLTSecret, encLTSlot, encLTTrial, encTHouse]) rfl
theorem c94_pc (h : THouse) (hpre : smH h) : PCo Try.prog 94 [encTHouse h] (Tab.of []) (encTHouse h) (Tab.of []) := by
  obtain ⟨h_No, h_Finds, h_Secrets, h_Slots, h_Claims, h_Trials, h_Chain, h_Book, h_Now⟩ := h
  refine pco_of_run [] (E := ⟨[c48, c67, c162, c163, c164, c165, c166], []⟩) (m := false) (base := 0) (Env.ok_cons c48_ok (Env.ok_cons c67_ok (Env.ok_cons c162_ok (Env.ok_cons c163_ok (Env.ok_cons c164_ok (Env.ok_cons c165_ok (Env.ok_cons c166_ok Env.ok_nil))))))) G_ok mix 300 6 Try.func94 (by kernel_rfl) rfl (by kernel_rfl) (by kernel_rfl) rfl ?_
  simp [Try.f94]
  simp at hpre
  obtain ⟨h1, ⟨h2, h3⟩, h4, h5, h6, h7, h8⟩ := hpre
  repeat' (first | exact h3 | omega | refine And.intro ?_ ?_ | intro _)
theorem c94_ok : c94.ok Try.prog := mkCon_ok fun h hpre => c94_pc h hpre
/-- loop.example/g03007/laws.eqHouse -/
noncomputable def c96 : Con := mkCon 96 false (α := THouse × THouse) (fun x => (fun (a : THouse) (b : THouse) => [encTHouse a, encTHouse b]) x.1 x.2) (fun _ => []) (fun x => (fun (a : THouse) (b : THouse) => smH a ∧ smH b) x.1 x.2) (fun x => (fun (a : THouse) (b : THouse) => (dB (decide (a = b)) : D)) x.1 x.2) (fun x => (fun (a : THouse) (b : THouse) => []) x.1 x.2)
@[simp] theorem c96_f : c96.f = 96 := rfl
@[simp] theorem c96_own : c96.own = false := rfl
theorem c96_inj : ∀ u_ v_ : THouse × THouse, ((fun x => (fun (a : THouse) (b : THouse) => [encTHouse a, encTHouse b]) x.1 x.2) u_).map nz = ((fun x => (fun (a : THouse) (b : THouse) => [encTHouse a, encTHouse b]) x.1 x.2) v_).map nz → u_ = v_ := by
  intro u_ v_ h
  obtain ⟨⟨a_No, a_Finds, a_Secrets, a_Slots, a_Claims, a_Trials, a_Chain, a_Book, a_Now⟩, ⟨b_No, b_Finds, b_Secrets, b_Slots, b_Claims, b_Trials, b_Chain, b_Book, b_Now⟩⟩ := u_
  obtain ⟨⟨a_No', a_Finds', a_Secrets', a_Slots', a_Claims', a_Trials', a_Chain', a_Book', a_Now'⟩, ⟨b_No', b_Finds', b_Secrets', b_Slots', b_Claims', b_Trials', b_Chain', b_Book', b_Now'⟩⟩ := v_
  simp [nz_lit, nz1_lit, nz_agg, nz_sl, nz1_sl, encLTClaim, encLTEntry, encLTFind, encLTHand, encLTSecret, encLTSlot, encLTTrial, encTHouse] at h
  first | (simp [h]; done) | (obtain ⟨⟩ := h; simp_all; done) | simp_all
@[simp] theorem c96_fn (a_No : Int) (a_Finds : List TFind) (a_Secrets : List TSecret) (a_Slots : List TSlot) (a_Claims : List TClaim) (a_Trials : List TTrial) (a_Chain : List THand) (a_Book : List TEntry) (a_Now : Int) (b_No : Int) (b_Finds : List TFind) (b_Secrets : List TSecret) (b_Slots : List TSlot) (b_Claims : List TClaim) (b_Trials : List TTrial) (b_Chain : List THand) (b_Book : List TEntry) (b_Now : Int) : c96.fn [.agg [.lit (.int .i64 a_No), .sl false 8 yTFind (ML encTFind a_Finds), .sl false 3 yTSecret (ML encTSecret a_Secrets), .sl false 3 yTSlot (ML encTSlot a_Slots), .sl false 5 yTClaim (ML encTClaim a_Claims), .sl false 4 yTTrial (ML encTTrial a_Trials), .sl false 5 yTHand (ML encTHand a_Chain), .sl false 4 yTEntry (ML encTEntry a_Book), .lit (.int .i64 a_Now)], .agg [.lit (.int .i64 b_No), .sl false 8 yTFind (ML encTFind b_Finds), .sl false 3 yTSecret (ML encTSecret b_Secrets), .sl false 3 yTSlot (ML encTSlot b_Slots), .sl false 5 yTClaim (ML encTClaim b_Claims), .sl false 4 yTTrial (ML encTTrial b_Trials), .sl false 5 yTHand (ML encTHand b_Chain), .sl false 4 yTEntry (ML encTEntry b_Book), .lit (.int .i64 b_Now)]] [] = some ((fun (a : THouse) (b : THouse) => smH a ∧ smH b) ⟨a_No, a_Finds, a_Secrets, a_Slots, a_Claims, a_Trials, a_Chain, a_Book, a_Now⟩ ⟨b_No, b_Finds, b_Secrets, b_Slots, b_Claims, b_Trials, b_Chain, b_Book, b_Now⟩, (fun (a : THouse) (b : THouse) => (dB (decide (a = b)) : D)) ⟨a_No, a_Finds, a_Secrets, a_Slots, a_Claims, a_Trials, a_Chain, a_Book, a_Now⟩ ⟨b_No, b_Finds, b_Secrets, b_Slots, b_Claims, b_Trials, b_Chain, b_Book, b_Now⟩, (fun (a : THouse) (b : THouse) => []) ⟨a_No, a_Finds, a_Secrets, a_Slots, a_Claims, a_Trials, a_Chain, a_Book, a_Now⟩ ⟨b_No, b_Finds, b_Secrets, b_Slots, b_Claims, b_Trials, b_Chain, b_Book, b_Now⟩) :=
  mkCon_fn (fun x y h _ => c96_inj x y h) ((⟨a_No, a_Finds, a_Secrets, a_Slots, a_Claims, a_Trials, a_Chain, a_Book, a_Now⟩, ⟨b_No, b_Finds, b_Secrets, b_Slots, b_Claims, b_Trials, b_Chain, b_Book, b_Now⟩) : THouse × THouse) (by simp [nz, nz1, ML_nil, encLTClaim, encLTEntry, encLTFind, encLTHand, encLTSecret, encLTSlot, encLTTrial, encTHouse]) rfl
theorem c96_pc (a : THouse) (b : THouse) (hpre : smH a ∧ smH b) : PCo Try.prog 96 [encTHouse a, encTHouse b] (Tab.of []) (dB (decide (a = b))) (Tab.of []) := by
  obtain ⟨a_No, a_Finds, a_Secrets, a_Slots, a_Claims, a_Trials, a_Chain, a_Book, a_Now⟩ := a
  obtain ⟨b_No, b_Finds, b_Secrets, b_Slots, b_Claims, b_Trials, b_Chain, b_Book, b_Now⟩ := b
  refine pco_of_run [] (E := ⟨[c51, c70, c174, c175, c176, c177, c178], []⟩) (m := false) (base := 0) (Env.ok_cons c51_ok (Env.ok_cons c70_ok (Env.ok_cons c174_ok (Env.ok_cons c175_ok (Env.ok_cons c176_ok (Env.ok_cons c177_ok (Env.ok_cons c178_ok Env.ok_nil))))))) G_ok mix 300 6 Try.func96 (by kernel_rfl) rfl (by kernel_rfl) (by kernel_rfl) rfl ?_
  simp [Try.f96]
  simp at hpre
  obtain ⟨⟨h1, ⟨h2, h3⟩, h4, h5, h6, h7, h8⟩, k1, ⟨k2, k3⟩, k4, k5, k6, k7, k8⟩ := hpre
  repeat' (first | exact h3 | exact k3 | omega | refine And.intro ?_ ?_ | intro _)
  all_goals first | grind | trace_state
theorem c96_ok : c96.ok Try.prog := mkCon_ok fun ⟨a, b⟩ hpre => c96_pc a b hpre
def sz1 (n : Nat) (q : Int) : Int := if q - n < 0 then -1 else q - n
def thenS (q : Int) (f : Int → Int) : Int := if q < 0 then -1 else f q
def szHo (h : THouse) (q : Int) : Int := thenS (sz1 h.Finds.length q) fun a => thenS (szDeep szSec h.Secrets a) fun b => thenS (sz1 h.Slots.length b) fun c => thenS (sz1 h.Claims.length c) fun d => thenS (sz1 h.Trials.length d) fun e => thenS (sz1 h.Chain.length e) fun f => thenS (sz1 h.Book.length f) fun g => g
theorem sz1_ok {n : Nat} {q : Int} (h : 0 ≤ sz1 n q) : n ≤ q ∧ sz1 n q ≤ q := by
  simp only [sz1] at h ⊢; split at h <;> rename_i h2
  · omega
  · rw [if_neg h2]; omega
theorem thenS_ok {q : Int} {f : Int → Int} (h : 0 ≤ thenS q f) : 0 ≤ q ∧ 0 ≤ f q ∧ thenS q f = f q := by
  simp only [thenS] at h ⊢; split at h <;> rename_i h2
  · omega
  · rw [if_neg h2]; omega
theorem szHo_ok {h : THouse} {q : Int} (h0 : 0 ≤ szHo h q) : szHo h q ≤ q ∧ h.Finds.length ≤ q ∧ (h.Secrets.length ≤ q ∧ ∀ x ∈ h.Secrets, (x.Marks.length : Int) ≤ q) ∧ h.Slots.length ≤ q ∧ h.Claims.length ≤ q ∧ h.Trials.length ≤ q ∧ h.Chain.length ≤ q ∧ h.Book.length ≤ q := by
  simp only [szHo] at h0 ⊢
  have a := thenS_ok h0; rw [a.2.2]; have a1 := sz1_ok a.1
  have b := thenS_ok a.2.1; rw [b.2.2]; have b1 := szSS_ok b.1
  have c := thenS_ok b.2.1; rw [c.2.2]; have c1 := sz1_ok c.1
  have d := thenS_ok c.2.1; rw [d.2.2]; have d1 := sz1_ok d.1
  have e := thenS_ok d.2.1; rw [e.2.2]; have e1 := sz1_ok e.1
  have f := thenS_ok e.2.1; rw [f.2.2]; have f1 := sz1_ok f.1
  have g := thenS_ok f.2.1; rw [g.2.2]; have g1 := sz1_ok g.1
  refine ⟨by omega, by omega, ⟨by omega, fun x hx => ?_⟩, by omega, by omega, by omega, by omega, by omega⟩
  have := b1.2.2 x hx; omega
theorem if_sz1 (n : Nat) (q : Int) : (if q - n < 0 then -1 else q - n) = sz1 n q := rfl
/-- loop.example/g03007/laws.szHouse -/
noncomputable def c92 : Con := mkCon 92 false (α := THouse × Int) (fun x => (fun (h : THouse) (q : Int) => [encTHouse h, dI q]) x.1 x.2) (fun _ => []) (fun x => (fun (h : THouse) (q : Int) => smHM h ∧ 0 ≤ q ∧ q ≤ 1099511627776) x.1 x.2) (fun x => (fun (h : THouse) (q : Int) => (dI (szHo h q) : D)) x.1 x.2) (fun x => (fun (h : THouse) (q : Int) => []) x.1 x.2)
@[simp] theorem c92_f : c92.f = 92 := rfl
@[simp] theorem c92_own : c92.own = false := rfl
theorem c92_inj : ∀ u_ v_ : THouse × Int, ((fun x => (fun (h : THouse) (q : Int) => [encTHouse h, dI q]) x.1 x.2) u_).map nz = ((fun x => (fun (h : THouse) (q : Int) => [encTHouse h, dI q]) x.1 x.2) v_).map nz → u_ = v_ := by
  intro u_ v_ h
  obtain ⟨⟨h_No, h_Finds, h_Secrets, h_Slots, h_Claims, h_Trials, h_Chain, h_Book, h_Now⟩, q⟩ := u_
  obtain ⟨⟨h_No', h_Finds', h_Secrets', h_Slots', h_Claims', h_Trials', h_Chain', h_Book', h_Now'⟩, q'⟩ := v_
  simp [nz_lit, nz1_lit, nz_agg, nz_sl, nz1_sl, encLTClaim, encLTEntry, encLTFind, encLTHand, encLTSecret, encLTSlot, encLTTrial, encTHouse] at h
  first | (simp [h]; done) | (obtain ⟨⟩ := h; simp_all; done) | simp_all
@[simp] theorem c92_fn (h_No : Int) (h_Finds : List TFind) (h_Secrets : List TSecret) (h_Slots : List TSlot) (h_Claims : List TClaim) (h_Trials : List TTrial) (h_Chain : List THand) (h_Book : List TEntry) (h_Now : Int) (q : Int) : c92.fn [.agg [.lit (.int .i64 h_No), .sl false 8 yTFind (ML encTFind h_Finds), .sl false 3 yTSecret (ML encTSecret h_Secrets), .sl false 3 yTSlot (ML encTSlot h_Slots), .sl false 5 yTClaim (ML encTClaim h_Claims), .sl false 4 yTTrial (ML encTTrial h_Trials), .sl false 5 yTHand (ML encTHand h_Chain), .sl false 4 yTEntry (ML encTEntry h_Book), .lit (.int .i64 h_Now)], .lit (.int .i64 q)] [] = some ((fun (h : THouse) (q : Int) => smHM h ∧ 0 ≤ q ∧ q ≤ 1099511627776) ⟨h_No, h_Finds, h_Secrets, h_Slots, h_Claims, h_Trials, h_Chain, h_Book, h_Now⟩ q, (fun (h : THouse) (q : Int) => (dI (szHo h q) : D)) ⟨h_No, h_Finds, h_Secrets, h_Slots, h_Claims, h_Trials, h_Chain, h_Book, h_Now⟩ q, (fun (h : THouse) (q : Int) => []) ⟨h_No, h_Finds, h_Secrets, h_Slots, h_Claims, h_Trials, h_Chain, h_Book, h_Now⟩ q) :=
  mkCon_fn (fun x y h _ => c92_inj x y h) ((⟨h_No, h_Finds, h_Secrets, h_Slots, h_Claims, h_Trials, h_Chain, h_Book, h_Now⟩, q) : THouse × Int) (by simp [nz, nz1, ML_nil, encLTClaim, encLTEntry, encLTFind, encLTHand, encLTSecret, encLTSlot, encLTTrial, encTHouse]) rfl
theorem c92_pc (h : THouse) (q : Int) (hpre : smHM h ∧ 0 ≤ q ∧ q ≤ 1099511627776) : PCo Try.prog 92 [encTHouse h, dI q] (Tab.of []) (dI (szHo h q)) (Tab.of []) := by
  refine pco_of_run [] (E := ⟨[c45, c64, c154, c155, c156, c157, c158], []⟩) (m := false) (base := 0) (Env.ok_cons c45_ok (Env.ok_cons c64_ok (Env.ok_cons c154_ok (Env.ok_cons c155_ok (Env.ok_cons c156_ok (Env.ok_cons c157_ok (Env.ok_cons c158_ok Env.ok_nil))))))) G_ok mix 300 6 Try.func92 (by kernel_rfl) rfl (by kernel_rfl) (by kernel_rfl) rfl ?_
  simp at hpre
  obtain ⟨⟨h1, ⟨h2, h3⟩, h4, h5, h6, h7, h8⟩, h9, h10⟩ := hpre
  have hn1 : ∀ n q, 0 ≤ sz1 n q → sz1 n q ≤ q := fun n q h => (sz1_ok h).2
  have hn2 : ∀ l q, 0 ≤ szDeep szSec l q → szDeep szSec l q ≤ q := fun l q h => (szSS_ok h).2.1
  simp [Try.f92, if_sz1]
  refine ⟨⟨h1, h9, h10⟩, fun x => ?_, fun x1 => ⟨⟨h2, h3, x1, by have := hn1 _ _ x1; omega⟩, fun x => ?_, fun x2 => ⟨⟨h4, x2, by have := hn1 _ _ x1; have := hn2 _ _ x2; omega⟩, fun x => ?_, fun x3 => ⟨⟨h5, x3, by have := hn1 _ _ x1; have := hn2 _ _ x2; have := hn1 _ _ x3; omega⟩, fun x => ?_, fun x4 => ⟨⟨h6, x4, by have := hn1 _ _ x1; have := hn2 _ _ x2; have := hn1 _ _ x3; have := hn1 _ _ x4; omega⟩, fun x => ?_, fun x5 => ⟨⟨h7, x5, by have := hn1 _ _ x1; have := hn2 _ _ x2; have := hn1 _ _ x3; have := hn1 _ _ x4; have := hn1 _ _ x5; omega⟩, fun x => ?_, fun x6 => ⟨⟨h8, x6, by have := hn1 _ _ x1; have := hn2 _ _ x2; have := hn1 _ _ x3; have := hn1 _ _ x4; have := hn1 _ _ x5; have := hn1 _ _ x6; omega⟩, ?_⟩⟩⟩⟩⟩⟩⟩
  all_goals simp only [szHo, thenS]
  all_goals grind
theorem c92_ok : c92.ok Try.prog := mkCon_ok fun ⟨h, q⟩ hpre => c92_pc h q hpre

end Go.Proofs.Ytnkggfhgmdbfpaa
