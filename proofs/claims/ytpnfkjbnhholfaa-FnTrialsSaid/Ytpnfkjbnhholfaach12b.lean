/- Contracts of the functions that the laws run. -/
import Derived.Test.Ytpnfkjbnhholfaach12
import Derived.Test.YtpnfkjbnhholfaaEngB
namespace Go.Proofs.Ytpnfkjbnhholfaa
open Go Go.Eng
set_option linter.unusedSimpArgs false
set_option linter.unusedVariables false
set_option maxRecDepth 10000
set_option maxHeartbeats 1000000
def mGive (l : List TMark) (x : TTrial) (a : Int) : TTrial := if mNextQ l x = 0 then x else if lookQ (mNextQ l x) l = a then ⟨x.Claim, x.Asked + 1, x.Right + 1, x.Wrong⟩ else ⟨x.Claim, x.Asked + 1, x.Right, x.Wrong + 1⟩
theorem nextQ_bd {l : List TMark} {x : TTrial} (h : ¬ mNextQ l x = 0) : 0 ≤ x.Right ∧ x.Right ≤ 100 ∧ 0 ≤ x.Wrong ∧ x.Wrong ≤ 100 ∧ x.Asked = x.Right + x.Wrong := by
  have h1 : mTrialState l x = 0 := by
    by_cases h2 : mTrialState l x = 0
    · exact h2
    · exact absurd (by simp [mNextQ, h2]) h
  have h2 : mIsTrial x = true := by grind [mTrialState]
  simp [mIsTrial, mIn] at h2; omega
/-- loop.example/g03007/spec.GiveAnswer -/
noncomputable def c221 : Con := mkCon 221 false (α := (List TMark) × TTrial × Int) (fun x => (fun (l : List TMark) (x : TTrial) (a : Int) => [encLTMark l, encTTrial x, dI a]) x.1 x.2.1 x.2.2) (fun _ => []) (fun x => (fun (l : List TMark) (x : TTrial) (a : Int) => l.length ≤ 1073741823) x.1 x.2.1 x.2.2) (fun x => (fun (l : List TMark) (x : TTrial) (a : Int) => (.tup [encTTrial (mGive l x a), dB (decide (¬ mNextQ l x = 0))] : D)) x.1 x.2.1 x.2.2) (fun x => (fun (l : List TMark) (x : TTrial) (a : Int) => []) x.1 x.2.1 x.2.2)
@[simp] theorem c221_f : c221.f = 221 := rfl
@[simp] theorem c221_own : c221.own = false := rfl
theorem c221_inj : ∀ u_ v_ : (List TMark) × TTrial × Int, ((fun x => (fun (l : List TMark) (x : TTrial) (a : Int) => [encLTMark l, encTTrial x, dI a]) x.1 x.2.1 x.2.2) u_).map nz = ((fun x => (fun (l : List TMark) (x : TTrial) (a : Int) => [encLTMark l, encTTrial x, dI a]) x.1 x.2.1 x.2.2) v_).map nz → u_ = v_ := by
  intro u_ v_ h
  obtain ⟨l, ⟨x_Claim, x_Asked, x_Right, x_Wrong⟩, a⟩ := u_
  obtain ⟨l', ⟨x_Claim', x_Asked', x_Right', x_Wrong'⟩, a'⟩ := v_
  simp [nz_lit, nz1_lit, nz_agg, nz_sl, nz1_sl, encLTMark, encTTrial] at h
  first | (simp [h]; done) | (obtain ⟨⟩ := h; simp_all; done) | simp_all
@[simp] theorem c221_fn (l : List TMark) (x_Claim : Int) (x_Asked : Int) (x_Right : Int) (x_Wrong : Int) (a : Int) : c221.fn [.sl false 2 yTMark (ML encTMark l), .agg [.lit (.int .i64 x_Claim), .lit (.int .i64 x_Asked), .lit (.int .i64 x_Right), .lit (.int .i64 x_Wrong)], .lit (.int .i64 a)] [] = some ((fun (l : List TMark) (x : TTrial) (a : Int) => l.length ≤ 1073741823) l ⟨x_Claim, x_Asked, x_Right, x_Wrong⟩ a, (fun (l : List TMark) (x : TTrial) (a : Int) => (.tup [encTTrial (mGive l x a), dB (decide (¬ mNextQ l x = 0))] : D)) l ⟨x_Claim, x_Asked, x_Right, x_Wrong⟩ a, (fun (l : List TMark) (x : TTrial) (a : Int) => []) l ⟨x_Claim, x_Asked, x_Right, x_Wrong⟩ a) :=
  mkCon_fn (fun x y h _ => c221_inj x y h) ((l, ⟨x_Claim, x_Asked, x_Right, x_Wrong⟩, a) : (List TMark) × TTrial × Int) (by simp [nz, nz1, ML_nil, encLTMark, encTTrial]) rfl
@[simp] theorem c221_fn1 (s_l : Nat) (z_l : D) (x_Claim : Int) (x_Asked : Int) (x_Right : Int) (x_Wrong : Int) (a : Int) : c221.fn [.sl false s_l z_l [], .agg [.lit (.int .i64 x_Claim), .lit (.int .i64 x_Asked), .lit (.int .i64 x_Right), .lit (.int .i64 x_Wrong)], .lit (.int .i64 a)] [] = some ((fun (l : List TMark) (x : TTrial) (a : Int) => l.length ≤ 1073741823) [] ⟨x_Claim, x_Asked, x_Right, x_Wrong⟩ a, (fun (l : List TMark) (x : TTrial) (a : Int) => (.tup [encTTrial (mGive l x a), dB (decide (¬ mNextQ l x = 0))] : D)) [] ⟨x_Claim, x_Asked, x_Right, x_Wrong⟩ a, (fun (l : List TMark) (x : TTrial) (a : Int) => []) [] ⟨x_Claim, x_Asked, x_Right, x_Wrong⟩ a) :=
  mkCon_fn (fun x y h _ => c221_inj x y h) (([], ⟨x_Claim, x_Asked, x_Right, x_Wrong⟩, a) : (List TMark) × TTrial × Int) (by simp [nz, nz1, ML_nil, encLTMark, encTTrial]) rfl
theorem c221_pc (l : List TMark) (x : TTrial) (a : Int) (hpre : l.length ≤ 1073741823) : PCo Try.prog 221 [encLTMark l, encTTrial x, dI a] (Tab.of []) (.tup [encTTrial (mGive l x a), dB (decide (¬ mNextQ l x = 0))]) (Tab.of []) := by
  refine pco_of_run [] (E := ⟨[c86, c87], [], []⟩) (m := false) (base := 0) (Env.ok_cons c86_ok (Env.ok_cons c87_ok Env.ok_nil)) G_ok mix 300 6 Try.func221 (by kernel_rfl) rfl (by kernel_rfl) (by kernel_rfl) rfl ?_
  obtain ⟨c, k, r, w⟩ := x
  by_cases h : mNextQ l ⟨c, k, r, w⟩ = 0
  · simp [Try.f221, h, mGive]
    exact hpre
  · have hb := nextQ_bd h
    simp at hb
    by_cases h2 : lookQ (mNextQ l ⟨c, k, r, w⟩) l = a
    · simp [Try.f221, h, h2, mGive]
      omega
    · simp [Try.f221, h, h2, mGive]
      omega
theorem c221_ok : c221.ok Try.prog := mkCon_ok fun ⟨l, x, a⟩ hpre => c221_pc l x a hpre
/-- (loop.example/g03007/impl.rightAnswer).next -/
noncomputable def c269 : Con := mkCon 269 false (α := TTrial) (fun x => (fun (x : TTrial) => ([.agg [], encTTrial x] : List D)) x) (fun x => (fun (x : TTrial) => ([] : List (Nm × OO))) x) (fun x => (fun (x : TTrial) => -1000 ≤ x.Asked ∧ x.Asked ≤ 1000 ∧ -1000 ≤ x.Right ∧ x.Right ≤ 1000) x) (fun x => (fun (x : TTrial) => (encTTrial ⟨x.Claim, x.Asked + 1, x.Right + 1, x.Wrong⟩ : D)) x) (fun x => (fun (x : TTrial) => ([] : List (Nm × OO))) x)
@[simp] theorem c269_f : c269.f = 269 := rfl
@[simp] theorem c269_own : c269.own = false := rfl
theorem c269_inj : ∀ u_ v_ : TTrial, ((fun x => (fun (x : TTrial) => ([.agg [], encTTrial x] : List D)) x) u_).map nz = ((fun x => (fun (x : TTrial) => ([.agg [], encTTrial x] : List D)) x) v_).map nz → (fun x => (fun (x : TTrial) => ([] : List (Nm × OO))) x) u_ = (fun x => (fun (x : TTrial) => ([] : List (Nm × OO))) x) v_ → u_ = v_ := by
  intro u_ v_ h h2_
  obtain ⟨x_Claim, x_Asked, x_Right, x_Wrong⟩ := u_
  obtain ⟨x_Claim', x_Asked', x_Right', x_Wrong'⟩ := v_
  simp [nz_lit, nz1_lit, nz_agg, nz_sl, nz1_sl, nz_sx, nz_el, nz1_el, nz_own, nz1_own, nz_ptr, nz_fn, nz_iface] at h h2_
  first | (simp [h, h2_]; done) | (obtain ⟨h3_, h4_⟩ := List.append_inj h2_ h.1; simp_all; done) | simp_all | grind
@[simp] theorem c269_fn (x_Claim : Int) (x_Asked : Int) (x_Right : Int) (x_Wrong : Int) : c269.fn ([.agg [], .agg [.lit (.int .i64 x_Claim), .lit (.int .i64 x_Asked), .lit (.int .i64 x_Right), .lit (.int .i64 x_Wrong)]]) ([]) = some (-1000 ≤ (⟨x_Claim, x_Asked, x_Right, x_Wrong⟩ : TTrial).Asked ∧ (⟨x_Claim, x_Asked, x_Right, x_Wrong⟩ : TTrial).Asked ≤ 1000 ∧ -1000 ≤ (⟨x_Claim, x_Asked, x_Right, x_Wrong⟩ : TTrial).Right ∧ (⟨x_Claim, x_Asked, x_Right, x_Wrong⟩ : TTrial).Right ≤ 1000, encTTrial ⟨(⟨x_Claim, x_Asked, x_Right, x_Wrong⟩ : TTrial).Claim, (⟨x_Claim, x_Asked, x_Right, x_Wrong⟩ : TTrial).Asked + 1, (⟨x_Claim, x_Asked, x_Right, x_Wrong⟩ : TTrial).Right + 1, (⟨x_Claim, x_Asked, x_Right, x_Wrong⟩ : TTrial).Wrong⟩, []) :=
  mkCon_fn c269_inj (⟨x_Claim, x_Asked, x_Right, x_Wrong⟩ : TTrial) rfl rfl
theorem c269_pc (x : TTrial) (hpre : -1000 ≤ x.Asked ∧ x.Asked ≤ 1000 ∧ -1000 ≤ x.Right ∧ x.Right ≤ 1000) : PCo Try.prog 269 ([.agg [], encTTrial x]) (Tab.of ([])) (encTTrial ⟨x.Claim, x.Asked + 1, x.Right + 1, x.Wrong⟩) (Tab.of ([])) := by
  refine pco_of_run [] (E := ⟨[], [], []⟩) (m := false) (base := 0) Env.ok_nil G_ok mix 300 6 Try.func269 (by kernel_rfl) rfl (by kernel_rfl) (by kernel_rfl) rfl ?_
  simp [Try.f269]
  all_goals first | omega | (rw [Bool.eq_iff_iff]; simp; omega) | grind
theorem c269_ok : c269.ok Try.prog := mkCon_ok fun x hpre => c269_pc x hpre
/-- (loop.example/g03007/impl.wrongAnswer).next -/
noncomputable def c270 : Con := mkCon 270 false (α := TTrial) (fun x => (fun (x : TTrial) => ([.agg [], encTTrial x] : List D)) x) (fun x => (fun (x : TTrial) => ([] : List (Nm × OO))) x) (fun x => (fun (x : TTrial) => -1000 ≤ x.Asked ∧ x.Asked ≤ 1000 ∧ -1000 ≤ x.Wrong ∧ x.Wrong ≤ 1000) x) (fun x => (fun (x : TTrial) => (encTTrial ⟨x.Claim, x.Asked + 1, x.Right, x.Wrong + 1⟩ : D)) x) (fun x => (fun (x : TTrial) => ([] : List (Nm × OO))) x)
@[simp] theorem c270_f : c270.f = 270 := rfl
@[simp] theorem c270_own : c270.own = false := rfl
theorem c270_inj : ∀ u_ v_ : TTrial, ((fun x => (fun (x : TTrial) => ([.agg [], encTTrial x] : List D)) x) u_).map nz = ((fun x => (fun (x : TTrial) => ([.agg [], encTTrial x] : List D)) x) v_).map nz → (fun x => (fun (x : TTrial) => ([] : List (Nm × OO))) x) u_ = (fun x => (fun (x : TTrial) => ([] : List (Nm × OO))) x) v_ → u_ = v_ := by
  intro u_ v_ h h2_
  obtain ⟨x_Claim, x_Asked, x_Right, x_Wrong⟩ := u_
  obtain ⟨x_Claim', x_Asked', x_Right', x_Wrong'⟩ := v_
  simp [nz_lit, nz1_lit, nz_agg, nz_sl, nz1_sl, nz_sx, nz_el, nz1_el, nz_own, nz1_own, nz_ptr, nz_fn, nz_iface] at h h2_
  first | (simp [h, h2_]; done) | (obtain ⟨h3_, h4_⟩ := List.append_inj h2_ h.1; simp_all; done) | simp_all | grind
@[simp] theorem c270_fn (x_Claim : Int) (x_Asked : Int) (x_Right : Int) (x_Wrong : Int) : c270.fn ([.agg [], .agg [.lit (.int .i64 x_Claim), .lit (.int .i64 x_Asked), .lit (.int .i64 x_Right), .lit (.int .i64 x_Wrong)]]) ([]) = some (-1000 ≤ (⟨x_Claim, x_Asked, x_Right, x_Wrong⟩ : TTrial).Asked ∧ (⟨x_Claim, x_Asked, x_Right, x_Wrong⟩ : TTrial).Asked ≤ 1000 ∧ -1000 ≤ (⟨x_Claim, x_Asked, x_Right, x_Wrong⟩ : TTrial).Wrong ∧ (⟨x_Claim, x_Asked, x_Right, x_Wrong⟩ : TTrial).Wrong ≤ 1000, encTTrial ⟨(⟨x_Claim, x_Asked, x_Right, x_Wrong⟩ : TTrial).Claim, (⟨x_Claim, x_Asked, x_Right, x_Wrong⟩ : TTrial).Asked + 1, (⟨x_Claim, x_Asked, x_Right, x_Wrong⟩ : TTrial).Right, (⟨x_Claim, x_Asked, x_Right, x_Wrong⟩ : TTrial).Wrong + 1⟩, []) :=
  mkCon_fn c270_inj (⟨x_Claim, x_Asked, x_Right, x_Wrong⟩ : TTrial) rfl rfl
theorem c270_pc (x : TTrial) (hpre : -1000 ≤ x.Asked ∧ x.Asked ≤ 1000 ∧ -1000 ≤ x.Wrong ∧ x.Wrong ≤ 1000) : PCo Try.prog 270 ([.agg [], encTTrial x]) (Tab.of ([])) (encTTrial ⟨x.Claim, x.Asked + 1, x.Right, x.Wrong + 1⟩) (Tab.of ([])) := by
  refine pco_of_run [] (E := ⟨[], [], []⟩) (m := false) (base := 0) Env.ok_nil G_ok mix 300 6 Try.func270 (by kernel_rfl) rfl (by kernel_rfl) (by kernel_rfl) rfl ?_
  simp [Try.f270]
  all_goals first | omega | (rw [Bool.eq_iff_iff]; simp; omega) | grind
theorem c270_ok : c270.ok Try.prog := mkCon_ok fun x hpre => c270_pc x hpre
/-- loop.example/g03007/impl.judge -/
noncomputable def c88 : Con := mkCon 88 false (α := (List TMark) × Int × Int) (fun x => (fun (l : List TMark) (q : Int) (a : Int) => [encLTMark l, dI q, dI a]) x.1 x.2.1 x.2.2) (fun _ => []) (fun x => (fun (l : List TMark) (q : Int) (a : Int) => l.length ≤ 1073741823) x.1 x.2.1 x.2.2) (fun x => (fun (l : List TMark) (q : Int) (a : Int) => (if lookQ q l = a then .iface 218 (.agg []) else .iface 219 (.agg []) : D)) x.1 x.2.1 x.2.2) (fun x => (fun (l : List TMark) (q : Int) (a : Int) => []) x.1 x.2.1 x.2.2)
@[simp] theorem c88_f : c88.f = 88 := rfl
@[simp] theorem c88_own : c88.own = false := rfl
theorem c88_inj : ∀ u_ v_ : (List TMark) × Int × Int, ((fun x => (fun (l : List TMark) (q : Int) (a : Int) => [encLTMark l, dI q, dI a]) x.1 x.2.1 x.2.2) u_).map nz = ((fun x => (fun (l : List TMark) (q : Int) (a : Int) => [encLTMark l, dI q, dI a]) x.1 x.2.1 x.2.2) v_).map nz → u_ = v_ := by
  intro u_ v_ h
  obtain ⟨l, q, a⟩ := u_
  obtain ⟨l', q', a'⟩ := v_
  simp [nz_lit, nz1_lit, nz_agg, nz_sl, nz1_sl, encLTMark] at h
  first | (simp [h]; done) | (obtain ⟨⟩ := h; simp_all; done) | simp_all
@[simp] theorem c88_fn (l : List TMark) (q : Int) (a : Int) : c88.fn [.sl false 2 yTMark (ML encTMark l), .lit (.int .i64 q), .lit (.int .i64 a)] [] = some ((fun (l : List TMark) (q : Int) (a : Int) => l.length ≤ 1073741823) l q a, (fun (l : List TMark) (q : Int) (a : Int) => (if lookQ q l = a then .iface 218 (.agg []) else .iface 219 (.agg []) : D)) l q a, (fun (l : List TMark) (q : Int) (a : Int) => []) l q a) :=
  mkCon_fn (fun x y h _ => c88_inj x y h) ((l, q, a) : (List TMark) × Int × Int) (by simp [nz, nz1, ML_nil, encLTMark]) rfl
@[simp] theorem c88_fn1 (s_l : Nat) (z_l : D) (q : Int) (a : Int) : c88.fn [.sl false s_l z_l [], .lit (.int .i64 q), .lit (.int .i64 a)] [] = some ((fun (l : List TMark) (q : Int) (a : Int) => l.length ≤ 1073741823) [] q a, (fun (l : List TMark) (q : Int) (a : Int) => (if lookQ q l = a then .iface 218 (.agg []) else .iface 219 (.agg []) : D)) [] q a, (fun (l : List TMark) (q : Int) (a : Int) => []) [] q a) :=
  mkCon_fn (fun x y h _ => c88_inj x y h) (([], q, a) : (List TMark) × Int × Int) (by simp [nz, nz1, ML_nil, encLTMark]) rfl
theorem c88_pc (l : List TMark) (q : Int) (a : Int) (hpre : l.length ≤ 1073741823) : PCo Try.prog 88 [encLTMark l, dI q, dI a] (Tab.of []) (if lookQ q l = a then .iface 218 (.agg []) else .iface 219 (.agg [])) (Tab.of []) := by
  refine pco_of_run [] (E := ⟨[c28], [], []⟩) (m := false) (base := 0) (Env.ok_cons c28_ok Env.ok_nil) G_ok mix 300 6 Try.func88 (by kernel_rfl) rfl (by kernel_rfl) (by kernel_rfl) rfl ?_
  by_cases h : lookQ q l = a
  · simp [Try.f88, h]
    omega
  · simp [Try.f88, h]
    omega
theorem c88_ok : c88.ok Try.prog := mkCon_ok fun ⟨l, q, a⟩ hpre => c88_pc l q a hpre
/-- loop.example/g03007/impl.GiveAnswer -/
noncomputable def c22 : Con := mkCon 22 false (α := (List TMark) × TTrial × Int) (fun x => (fun (l : List TMark) (x : TTrial) (a : Int) => [encLTMark l, encTTrial x, dI a]) x.1 x.2.1 x.2.2) (fun _ => []) (fun x => (fun (l : List TMark) (x : TTrial) (a : Int) => l.length ≤ 1073741823) x.1 x.2.1 x.2.2) (fun x => (fun (l : List TMark) (x : TTrial) (a : Int) => (.tup [encTTrial (mGive l x a), dB (decide (¬ mNextQ l x = 0))] : D)) x.1 x.2.1 x.2.2) (fun x => (fun (l : List TMark) (x : TTrial) (a : Int) => []) x.1 x.2.1 x.2.2)
@[simp] theorem c22_f : c22.f = 22 := rfl
@[simp] theorem c22_own : c22.own = false := rfl
theorem c22_inj : ∀ u_ v_ : (List TMark) × TTrial × Int, ((fun x => (fun (l : List TMark) (x : TTrial) (a : Int) => [encLTMark l, encTTrial x, dI a]) x.1 x.2.1 x.2.2) u_).map nz = ((fun x => (fun (l : List TMark) (x : TTrial) (a : Int) => [encLTMark l, encTTrial x, dI a]) x.1 x.2.1 x.2.2) v_).map nz → u_ = v_ := by
  intro u_ v_ h
  obtain ⟨l, ⟨x_Claim, x_Asked, x_Right, x_Wrong⟩, a⟩ := u_
  obtain ⟨l', ⟨x_Claim', x_Asked', x_Right', x_Wrong'⟩, a'⟩ := v_
  simp [nz_lit, nz1_lit, nz_agg, nz_sl, nz1_sl, encLTMark, encTTrial] at h
  first | (simp [h]; done) | (obtain ⟨⟩ := h; simp_all; done) | simp_all
@[simp] theorem c22_fn (l : List TMark) (x_Claim : Int) (x_Asked : Int) (x_Right : Int) (x_Wrong : Int) (a : Int) : c22.fn [.sl false 2 yTMark (ML encTMark l), .agg [.lit (.int .i64 x_Claim), .lit (.int .i64 x_Asked), .lit (.int .i64 x_Right), .lit (.int .i64 x_Wrong)], .lit (.int .i64 a)] [] = some ((fun (l : List TMark) (x : TTrial) (a : Int) => l.length ≤ 1073741823) l ⟨x_Claim, x_Asked, x_Right, x_Wrong⟩ a, (fun (l : List TMark) (x : TTrial) (a : Int) => (.tup [encTTrial (mGive l x a), dB (decide (¬ mNextQ l x = 0))] : D)) l ⟨x_Claim, x_Asked, x_Right, x_Wrong⟩ a, (fun (l : List TMark) (x : TTrial) (a : Int) => []) l ⟨x_Claim, x_Asked, x_Right, x_Wrong⟩ a) :=
  mkCon_fn (fun x y h _ => c22_inj x y h) ((l, ⟨x_Claim, x_Asked, x_Right, x_Wrong⟩, a) : (List TMark) × TTrial × Int) (by simp [nz, nz1, ML_nil, encLTMark, encTTrial]) rfl
@[simp] theorem c22_fn1 (s_l : Nat) (z_l : D) (x_Claim : Int) (x_Asked : Int) (x_Right : Int) (x_Wrong : Int) (a : Int) : c22.fn [.sl false s_l z_l [], .agg [.lit (.int .i64 x_Claim), .lit (.int .i64 x_Asked), .lit (.int .i64 x_Right), .lit (.int .i64 x_Wrong)], .lit (.int .i64 a)] [] = some ((fun (l : List TMark) (x : TTrial) (a : Int) => l.length ≤ 1073741823) [] ⟨x_Claim, x_Asked, x_Right, x_Wrong⟩ a, (fun (l : List TMark) (x : TTrial) (a : Int) => (.tup [encTTrial (mGive l x a), dB (decide (¬ mNextQ l x = 0))] : D)) [] ⟨x_Claim, x_Asked, x_Right, x_Wrong⟩ a, (fun (l : List TMark) (x : TTrial) (a : Int) => []) [] ⟨x_Claim, x_Asked, x_Right, x_Wrong⟩ a) :=
  mkCon_fn (fun x y h _ => c22_inj x y h) (([], ⟨x_Claim, x_Asked, x_Right, x_Wrong⟩, a) : (List TMark) × TTrial × Int) (by simp [nz, nz1, ML_nil, encLTMark, encTTrial]) rfl
theorem c22_pc (l : List TMark) (x : TTrial) (a : Int) (hpre : l.length ≤ 1073741823) : PCo Try.prog 22 [encLTMark l, encTTrial x, dI a] (Tab.of []) (.tup [encTTrial (mGive l x a), dB (decide (¬ mNextQ l x = 0))]) (Tab.of []) := by
  refine pco_of_run [4] (E := ⟨[c23, c88, c269, c270], [(218, "loop.example/g03007/impl.next", 269), (219, "loop.example/g03007/impl.next", 270)], []⟩) (m := false) (base := 0) (Env.ok_cons c23_ok (Env.ok_cons c88_ok (Env.ok_cons c269_ok (Env.ok_cons c270_ok (Env.ok_me (meth_of (by kernel_rfl) (by kernel_rfl)) (Env.ok_me (meth_of (by kernel_rfl) (by kernel_rfl)) Env.ok_nil)))))) G_ok mix 300 6 Try.func22 (by kernel_rfl) rfl (by kernel_rfl) (by kernel_rfl) rfl ?_
  obtain ⟨c, k, r, w⟩ := x
  by_cases h : mNextQ l ⟨c, k, r, w⟩ = 0
  · simp [Try.f22, h, mGive]
    exact hpre
  · have hb := nextQ_bd h
    simp at hb
    by_cases h2 : lookQ (mNextQ l ⟨c, k, r, w⟩) l = a
    · simp [Try.f22, h, h2, mGive]
      omega
    · simp [Try.f22, h, h2, mGive]
      omega
theorem c22_ok : c22.ok Try.prog := mkCon_ok fun ⟨l, x, a⟩ hpre => c22_pc l x a hpre
def mGiveAll (l : List TMark) (x : TTrial) (az : List Int) : TTrial := az.foldl (fun x a => mGive l x a) x
/-- loop.example/g03007/impl.AnswerAll -/
noncomputable def c29 : Con := mkCon 29 false (α := (List TMark) × TTrial × (List Int)) (fun x => (fun (l : List TMark) (x : TTrial) (az : List Int) => [encLTMark l, encTTrial x, encLI az]) x.1 x.2.1 x.2.2) (fun _ => []) (fun x => (fun (l : List TMark) (x : TTrial) (az : List Int) => l.length ≤ 1073741823 ∧ az.length ≤ 1099511627776) x.1 x.2.1 x.2.2) (fun x => (fun (l : List TMark) (x : TTrial) (az : List Int) => (encTTrial (mGiveAll l x az) : D)) x.1 x.2.1 x.2.2) (fun x => (fun (l : List TMark) (x : TTrial) (az : List Int) => []) x.1 x.2.1 x.2.2)
@[simp] theorem c29_f : c29.f = 29 := rfl
@[simp] theorem c29_own : c29.own = false := rfl
theorem c29_inj : ∀ u_ v_ : (List TMark) × TTrial × (List Int), ((fun x => (fun (l : List TMark) (x : TTrial) (az : List Int) => [encLTMark l, encTTrial x, encLI az]) x.1 x.2.1 x.2.2) u_).map nz = ((fun x => (fun (l : List TMark) (x : TTrial) (az : List Int) => [encLTMark l, encTTrial x, encLI az]) x.1 x.2.1 x.2.2) v_).map nz → u_ = v_ := by
  intro u_ v_ h
  obtain ⟨l, ⟨x_Claim, x_Asked, x_Right, x_Wrong⟩, az⟩ := u_
  obtain ⟨l', ⟨x_Claim', x_Asked', x_Right', x_Wrong'⟩, az'⟩ := v_
  simp [nz_lit, nz1_lit, nz_agg, nz_sl, nz1_sl, encLI, encLTMark, encTTrial] at h
  first | (simp [h]; done) | (obtain ⟨⟩ := h; simp_all; done) | simp_all
@[simp] theorem c29_fn (l : List TMark) (x_Claim : Int) (x_Asked : Int) (x_Right : Int) (x_Wrong : Int) (az : List Int) : c29.fn [.sl false 2 yTMark (ML encTMark l), .agg [.lit (.int .i64 x_Claim), .lit (.int .i64 x_Asked), .lit (.int .i64 x_Right), .lit (.int .i64 x_Wrong)], .sl false 1 (.lit (.int .i64 0)) (ML dI az)] [] = some ((fun (l : List TMark) (x : TTrial) (az : List Int) => l.length ≤ 1073741823 ∧ az.length ≤ 1099511627776) l ⟨x_Claim, x_Asked, x_Right, x_Wrong⟩ az, (fun (l : List TMark) (x : TTrial) (az : List Int) => (encTTrial (mGiveAll l x az) : D)) l ⟨x_Claim, x_Asked, x_Right, x_Wrong⟩ az, (fun (l : List TMark) (x : TTrial) (az : List Int) => []) l ⟨x_Claim, x_Asked, x_Right, x_Wrong⟩ az) :=
  mkCon_fn (fun x y h _ => c29_inj x y h) ((l, ⟨x_Claim, x_Asked, x_Right, x_Wrong⟩, az) : (List TMark) × TTrial × (List Int)) (by simp [nz, nz1, ML_nil, encLI, encLTMark, encTTrial]) rfl
@[simp] theorem c29_fn1 (s_l : Nat) (z_l : D) (x_Claim : Int) (x_Asked : Int) (x_Right : Int) (x_Wrong : Int) (az : List Int) : c29.fn [.sl false s_l z_l [], .agg [.lit (.int .i64 x_Claim), .lit (.int .i64 x_Asked), .lit (.int .i64 x_Right), .lit (.int .i64 x_Wrong)], .sl false 1 (.lit (.int .i64 0)) (ML dI az)] [] = some ((fun (l : List TMark) (x : TTrial) (az : List Int) => l.length ≤ 1073741823 ∧ az.length ≤ 1099511627776) [] ⟨x_Claim, x_Asked, x_Right, x_Wrong⟩ az, (fun (l : List TMark) (x : TTrial) (az : List Int) => (encTTrial (mGiveAll l x az) : D)) [] ⟨x_Claim, x_Asked, x_Right, x_Wrong⟩ az, (fun (l : List TMark) (x : TTrial) (az : List Int) => []) [] ⟨x_Claim, x_Asked, x_Right, x_Wrong⟩ az) :=
  mkCon_fn (fun x y h _ => c29_inj x y h) (([], ⟨x_Claim, x_Asked, x_Right, x_Wrong⟩, az) : (List TMark) × TTrial × (List Int)) (by simp [nz, nz1, ML_nil, encLI, encLTMark, encTTrial]) rfl
@[simp] theorem c29_fn2 (l : List TMark) (x_Claim : Int) (x_Asked : Int) (x_Right : Int) (x_Wrong : Int) (s_az : Nat) (z_az : D) : c29.fn [.sl false 2 yTMark (ML encTMark l), .agg [.lit (.int .i64 x_Claim), .lit (.int .i64 x_Asked), .lit (.int .i64 x_Right), .lit (.int .i64 x_Wrong)], .sl false s_az z_az []] [] = some ((fun (l : List TMark) (x : TTrial) (az : List Int) => l.length ≤ 1073741823 ∧ az.length ≤ 1099511627776) l ⟨x_Claim, x_Asked, x_Right, x_Wrong⟩ [], (fun (l : List TMark) (x : TTrial) (az : List Int) => (encTTrial (mGiveAll l x az) : D)) l ⟨x_Claim, x_Asked, x_Right, x_Wrong⟩ [], (fun (l : List TMark) (x : TTrial) (az : List Int) => []) l ⟨x_Claim, x_Asked, x_Right, x_Wrong⟩ []) :=
  mkCon_fn (fun x y h _ => c29_inj x y h) ((l, ⟨x_Claim, x_Asked, x_Right, x_Wrong⟩, []) : (List TMark) × TTrial × (List Int)) (by simp [nz, nz1, ML_nil, encLI, encLTMark, encTTrial]) rfl
@[simp] theorem c29_fn3 (s_l : Nat) (z_l : D) (x_Claim : Int) (x_Asked : Int) (x_Right : Int) (x_Wrong : Int) (s_az : Nat) (z_az : D) : c29.fn [.sl false s_l z_l [], .agg [.lit (.int .i64 x_Claim), .lit (.int .i64 x_Asked), .lit (.int .i64 x_Right), .lit (.int .i64 x_Wrong)], .sl false s_az z_az []] [] = some ((fun (l : List TMark) (x : TTrial) (az : List Int) => l.length ≤ 1073741823 ∧ az.length ≤ 1099511627776) [] ⟨x_Claim, x_Asked, x_Right, x_Wrong⟩ [], (fun (l : List TMark) (x : TTrial) (az : List Int) => (encTTrial (mGiveAll l x az) : D)) [] ⟨x_Claim, x_Asked, x_Right, x_Wrong⟩ [], (fun (l : List TMark) (x : TTrial) (az : List Int) => []) [] ⟨x_Claim, x_Asked, x_Right, x_Wrong⟩ []) :=
  mkCon_fn (fun x y h _ => c29_inj x y h) (([], ⟨x_Claim, x_Asked, x_Right, x_Wrong⟩, []) : (List TMark) × TTrial × (List Int)) (by simp [nz, nz1, ML_nil, encLI, encLTMark, encTTrial]) rfl
theorem c29_pc (l : List TMark) (x : TTrial) (az : List Int) (hpre : l.length ≤ 1073741823 ∧ az.length ≤ 1099511627776) : PCo Try.prog 29 [encLTMark l, encTTrial x, encLI az] (Tab.of []) (encTTrial (mGiveAll l x az)) (Tab.of []) := by
  refine pco_of_run [] (E := ⟨[c22], [], []⟩) (m := false) (base := 0) (Env.ok_cons c22_ok Env.ok_nil) G_ok mix 300 6 Try.func29 (by kernel_rfl) rfl (by kernel_rfl) (by kernel_rfl) rfl ?_
  simp [Try.f29]
  refine loop_inv (fun p : Nat => p ≤ az.length) (fun p => [(0, encLTMark l), (4, .ptr (0, 1) 0), (6, .ptr (1, 1) 0), (9, encLI az), (10, dI az.length), (11, dI p)]) (fun p => [((0, 1), .box (encTTrial (mGiveAll l x (az.take p)))), ((1, 1), .box (.agg [dI 0, dI 0, dI 0, dI 0]))]) 2 (fun p => az.length - p) 0 400 (by simp) (by simp) (by simp [mGiveAll]) ?_
  intro p hp
  simp
  refine ⟨fun hlt => ?_, fun hge => ?_⟩
  · have hs : mGiveAll l x (az.take (p + 1)) = mGive l (mGiveAll l x (az.take p)) (az[p]?.getD 0) := by simp only [mGiveAll]; rw [foldl_at (d := 0) hlt]
    repeat' (first | omega | refine And.intro ?_ ?_ | intro _)
    exact Again.mk (p + 1) (by omega) (by simp [hs]) (by first | omega | (simp; omega))
  · rw [List.take_of_length_le hge]; first | done | simp
theorem c29_ok : c29.ok Try.prog := mkCon_ok fun ⟨l, x, az⟩ hpre => c29_pc l x az hpre
end Go.Proofs.Ytpnfkjbnhholfaa
