/- Contracts of the functions that the laws run. -/
import Derived.Test.Ytnnieeojfdjcoaach12
import Derived.Test.YtnnieeojfdjcoaaEngB
namespace Go.Proofs.Ytnnieeojfdjcoaa
open Go Go.Eng
set_option linter.unusedSimpArgs false
set_option linter.unusedVariables false
set_option maxRecDepth 10000
set_option maxHeartbeats 1000000
def mGive (l : List TMark) (x : TTrial) (a : Int) : TTrial := if mNextQ l x = 0 then x else if lookQ (mNextQ l x) l = a then ⟨x.Claim, x.Asked + 1, x.Right + 1, x.Wrong⟩ else ⟨x.Claim, x.Asked + 1, x.Right, x.Wrong + 1⟩
theorem nextQ_bd {l : List TMark} {x : TTrial} (h : ¬ mNextQ l x = 0) : 0 ≤ x.Right ∧ x.Right ≤ 100 ∧ 0 ≤ x.Wrong ∧ x.Wrong ≤ 100 ∧ x.Asked = x.Right + x.Wrong := by
  have h1 : mTrialState l x = 0 := by
    by_cases h2 : mTrialState l x = 0
    · exact h2
    · exact absurd (by simp [mNextQ, h2]) h
  have h2 : mIsTrial x = true := by grind [mTrialState]
  simp [mIsTrial, mIn] at h2; omega
/-- loop.example/g03007/spec.GiveAnswer -/
noncomputable def c59 : Con := mkCon 59 false (α := (List TMark) × TTrial × Int) (fun x => (fun (l : List TMark) (x : TTrial) (a : Int) => [encLTMark l, encTTrial x, dI a]) x.1 x.2.1 x.2.2) (fun _ => []) (fun x => (fun (l : List TMark) (x : TTrial) (a : Int) => l.length ≤ 1073741823) x.1 x.2.1 x.2.2) (fun x => (fun (l : List TMark) (x : TTrial) (a : Int) => (.tup [encTTrial (mGive l x a), dB (decide (¬ mNextQ l x = 0))] : D)) x.1 x.2.1 x.2.2) (fun x => (fun (l : List TMark) (x : TTrial) (a : Int) => []) x.1 x.2.1 x.2.2)
@[simp] theorem c59_f : c59.f = 59 := rfl
@[simp] theorem c59_own : c59.own = false := rfl
theorem c59_inj : ∀ u_ v_ : (List TMark) × TTrial × Int, ((fun x => (fun (l : List TMark) (x : TTrial) (a : Int) => [encLTMark l, encTTrial x, dI a]) x.1 x.2.1 x.2.2) u_).map nz = ((fun x => (fun (l : List TMark) (x : TTrial) (a : Int) => [encLTMark l, encTTrial x, dI a]) x.1 x.2.1 x.2.2) v_).map nz → u_ = v_ := by
  intro u_ v_ h
  obtain ⟨l, ⟨x_Claim, x_Asked, x_Right, x_Wrong⟩, a⟩ := u_
  obtain ⟨l', ⟨x_Claim', x_Asked', x_Right', x_Wrong'⟩, a'⟩ := v_
  simp [nz_lit, nz1_lit, nz_agg, nz_sl, nz1_sl, encLTMark, encTTrial] at h
  first | (simp [h]; done) | (obtain ⟨⟩ := h; simp_all; done) | simp_all
@[simp] theorem c59_fn (l : List TMark) (x_Claim : Int) (x_Asked : Int) (x_Right : Int) (x_Wrong : Int) (a : Int) : c59.fn [.sl false 2 yTMark (ML encTMark l), .agg [.lit (.int .i64 x_Claim), .lit (.int .i64 x_Asked), .lit (.int .i64 x_Right), .lit (.int .i64 x_Wrong)], .lit (.int .i64 a)] [] = some ((fun (l : List TMark) (x : TTrial) (a : Int) => l.length ≤ 1073741823) l ⟨x_Claim, x_Asked, x_Right, x_Wrong⟩ a, (fun (l : List TMark) (x : TTrial) (a : Int) => (.tup [encTTrial (mGive l x a), dB (decide (¬ mNextQ l x = 0))] : D)) l ⟨x_Claim, x_Asked, x_Right, x_Wrong⟩ a, (fun (l : List TMark) (x : TTrial) (a : Int) => []) l ⟨x_Claim, x_Asked, x_Right, x_Wrong⟩ a) :=
  mkCon_fn (fun x y h _ => c59_inj x y h) ((l, ⟨x_Claim, x_Asked, x_Right, x_Wrong⟩, a) : (List TMark) × TTrial × Int) (by simp [nz, nz1, ML_nil, encLTMark, encTTrial]) rfl
@[simp] theorem c59_fn1 (s_l : Nat) (z_l : D) (x_Claim : Int) (x_Asked : Int) (x_Right : Int) (x_Wrong : Int) (a : Int) : c59.fn [.sl false s_l z_l [], .agg [.lit (.int .i64 x_Claim), .lit (.int .i64 x_Asked), .lit (.int .i64 x_Right), .lit (.int .i64 x_Wrong)], .lit (.int .i64 a)] [] = some ((fun (l : List TMark) (x : TTrial) (a : Int) => l.length ≤ 1073741823) [] ⟨x_Claim, x_Asked, x_Right, x_Wrong⟩ a, (fun (l : List TMark) (x : TTrial) (a : Int) => (.tup [encTTrial (mGive l x a), dB (decide (¬ mNextQ l x = 0))] : D)) [] ⟨x_Claim, x_Asked, x_Right, x_Wrong⟩ a, (fun (l : List TMark) (x : TTrial) (a : Int) => []) [] ⟨x_Claim, x_Asked, x_Right, x_Wrong⟩ a) :=
  mkCon_fn (fun x y h _ => c59_inj x y h) (([], ⟨x_Claim, x_Asked, x_Right, x_Wrong⟩, a) : (List TMark) × TTrial × Int) (by simp [nz, nz1, ML_nil, encLTMark, encTTrial]) rfl
theorem c59_pc (l : List TMark) (x : TTrial) (a : Int) (hpre : l.length ≤ 1073741823) : PCo Try.prog 59 [encLTMark l, encTTrial x, dI a] (Tab.of []) (.tup [encTTrial (mGive l x a), dB (decide (¬ mNextQ l x = 0))]) (Tab.of []) := by
  refine pco_of_run [] (E := ⟨[c37, c57], []⟩) (m := false) (base := 0) (Env.ok_cons c37_ok (Env.ok_cons c57_ok Env.ok_nil)) G_ok mix 300 6 Try.func59 (by kernel_rfl) rfl (by kernel_rfl) (by kernel_rfl) rfl ?_
  obtain ⟨c, k, r, w⟩ := x
  by_cases h : mNextQ l ⟨c, k, r, w⟩ = 0
  · simp [Try.f59, h, mGive]
    exact hpre
  · have hb := nextQ_bd h
    simp at hb
    by_cases h2 : lookQ (mNextQ l ⟨c, k, r, w⟩) l = a
    · simp [Try.f59, h, h2, mGive]
      omega
    · simp [Try.f59, h, h2, mGive]
      omega
theorem c59_ok : c59.ok Try.prog := mkCon_ok fun ⟨l, x, a⟩ hpre => c59_pc l x a hpre
/-- (loop.example/g03007/impl.rightAnswer).next -/
noncomputable def c245 : Con := mkCon 245 false (α := TTrial) (fun x => (fun (x : TTrial) => ([.agg [], encTTrial x] : List D)) x) (fun x => (fun (x : TTrial) => ([] : List (Nm × OO))) x) (fun x => (fun (x : TTrial) => -1000 ≤ x.Asked ∧ x.Asked ≤ 1000 ∧ -1000 ≤ x.Right ∧ x.Right ≤ 1000) x) (fun x => (fun (x : TTrial) => (encTTrial ⟨x.Claim, x.Asked + 1, x.Right + 1, x.Wrong⟩ : D)) x) (fun x => (fun (x : TTrial) => ([] : List (Nm × OO))) x)
@[simp] theorem c245_f : c245.f = 245 := rfl
@[simp] theorem c245_own : c245.own = false := rfl
theorem c245_inj : ∀ u_ v_ : TTrial, ((fun x => (fun (x : TTrial) => ([.agg [], encTTrial x] : List D)) x) u_).map nz = ((fun x => (fun (x : TTrial) => ([.agg [], encTTrial x] : List D)) x) v_).map nz → (fun x => (fun (x : TTrial) => ([] : List (Nm × OO))) x) u_ = (fun x => (fun (x : TTrial) => ([] : List (Nm × OO))) x) v_ → u_ = v_ := by
  intro u_ v_ h h2_
  obtain ⟨x_Claim, x_Asked, x_Right, x_Wrong⟩ := u_
  obtain ⟨x_Claim', x_Asked', x_Right', x_Wrong'⟩ := v_
  simp [nz_lit, nz1_lit, nz_agg, nz_sl, nz1_sl, nz_sx, nz_el, nz1_el, nz_own, nz1_own, nz_ptr, nz_fn, nz_iface] at h h2_
  first | (simp [h, h2_]; done) | simp_all | grind
@[simp] theorem c245_fn (x_Claim : Int) (x_Asked : Int) (x_Right : Int) (x_Wrong : Int) : c245.fn ([.agg [], .agg [.lit (.int .i64 x_Claim), .lit (.int .i64 x_Asked), .lit (.int .i64 x_Right), .lit (.int .i64 x_Wrong)]]) ([]) = some (-1000 ≤ (⟨x_Claim, x_Asked, x_Right, x_Wrong⟩ : TTrial).Asked ∧ (⟨x_Claim, x_Asked, x_Right, x_Wrong⟩ : TTrial).Asked ≤ 1000 ∧ -1000 ≤ (⟨x_Claim, x_Asked, x_Right, x_Wrong⟩ : TTrial).Right ∧ (⟨x_Claim, x_Asked, x_Right, x_Wrong⟩ : TTrial).Right ≤ 1000, encTTrial ⟨(⟨x_Claim, x_Asked, x_Right, x_Wrong⟩ : TTrial).Claim, (⟨x_Claim, x_Asked, x_Right, x_Wrong⟩ : TTrial).Asked + 1, (⟨x_Claim, x_Asked, x_Right, x_Wrong⟩ : TTrial).Right + 1, (⟨x_Claim, x_Asked, x_Right, x_Wrong⟩ : TTrial).Wrong⟩, []) :=
  mkCon_fn c245_inj (⟨x_Claim, x_Asked, x_Right, x_Wrong⟩ : TTrial) rfl rfl
theorem c245_pc (x : TTrial) (hpre : -1000 ≤ x.Asked ∧ x.Asked ≤ 1000 ∧ -1000 ≤ x.Right ∧ x.Right ≤ 1000) : PCo Try.prog 245 ([.agg [], encTTrial x]) (Tab.of ([])) (encTTrial ⟨x.Claim, x.Asked + 1, x.Right + 1, x.Wrong⟩) (Tab.of ([])) := by
  refine pco_of_run [] (E := ⟨[], []⟩) (m := false) (base := 0) Env.ok_nil G_ok mix 300 6 Try.func245 (by kernel_rfl) rfl (by kernel_rfl) (by kernel_rfl) rfl ?_
  simp [Try.f245]
  all_goals first | omega | (rw [Bool.eq_iff_iff]; simp; omega) | grind
theorem c245_ok : c245.ok Try.prog := mkCon_ok fun x hpre => c245_pc x hpre
/-- (loop.example/g03007/impl.wrongAnswer).next -/
noncomputable def c246 : Con := mkCon 246 false (α := TTrial) (fun x => (fun (x : TTrial) => ([.agg [], encTTrial x] : List D)) x) (fun x => (fun (x : TTrial) => ([] : List (Nm × OO))) x) (fun x => (fun (x : TTrial) => -1000 ≤ x.Asked ∧ x.Asked ≤ 1000 ∧ -1000 ≤ x.Wrong ∧ x.Wrong ≤ 1000) x) (fun x => (fun (x : TTrial) => (encTTrial ⟨x.Claim, x.Asked + 1, x.Right, x.Wrong + 1⟩ : D)) x) (fun x => (fun (x : TTrial) => ([] : List (Nm × OO))) x)
@[simp] theorem c246_f : c246.f = 246 := rfl
@[simp] theorem c246_own : c246.own = false := rfl
theorem c246_inj : ∀ u_ v_ : TTrial, ((fun x => (fun (x : TTrial) => ([.agg [], encTTrial x] : List D)) x) u_).map nz = ((fun x => (fun (x : TTrial) => ([.agg [], encTTrial x] : List D)) x) v_).map nz → (fun x => (fun (x : TTrial) => ([] : List (Nm × OO))) x) u_ = (fun x => (fun (x : TTrial) => ([] : List (Nm × OO))) x) v_ → u_ = v_ := by
  intro u_ v_ h h2_
  obtain ⟨x_Claim, x_Asked, x_Right, x_Wrong⟩ := u_
  obtain ⟨x_Claim', x_Asked', x_Right', x_Wrong'⟩ := v_
  simp [nz_lit, nz1_lit, nz_agg, nz_sl, nz1_sl, nz_sx, nz_el, nz1_el, nz_own, nz1_own, nz_ptr, nz_fn, nz_iface] at h h2_
  first | (simp [h, h2_]; done) | simp_all | grind
@[simp] theorem c246_fn (x_Claim : Int) (x_Asked : Int) (x_Right : Int) (x_Wrong : Int) : c246.fn ([.agg [], .agg [.lit (.int .i64 x_Claim), .lit (.int .i64 x_Asked), .lit (.int .i64 x_Right), .lit (.int .i64 x_Wrong)]]) ([]) = some (-1000 ≤ (⟨x_Claim, x_Asked, x_Right, x_Wrong⟩ : TTrial).Asked ∧ (⟨x_Claim, x_Asked, x_Right, x_Wrong⟩ : TTrial).Asked ≤ 1000 ∧ -1000 ≤ (⟨x_Claim, x_Asked, x_Right, x_Wrong⟩ : TTrial).Wrong ∧ (⟨x_Claim, x_Asked, x_Right, x_Wrong⟩ : TTrial).Wrong ≤ 1000, encTTrial ⟨(⟨x_Claim, x_Asked, x_Right, x_Wrong⟩ : TTrial).Claim, (⟨x_Claim, x_Asked, x_Right, x_Wrong⟩ : TTrial).Asked + 1, (⟨x_Claim, x_Asked, x_Right, x_Wrong⟩ : TTrial).Right, (⟨x_Claim, x_Asked, x_Right, x_Wrong⟩ : TTrial).Wrong + 1⟩, []) :=
  mkCon_fn c246_inj (⟨x_Claim, x_Asked, x_Right, x_Wrong⟩ : TTrial) rfl rfl
theorem c246_pc (x : TTrial) (hpre : -1000 ≤ x.Asked ∧ x.Asked ≤ 1000 ∧ -1000 ≤ x.Wrong ∧ x.Wrong ≤ 1000) : PCo Try.prog 246 ([.agg [], encTTrial x]) (Tab.of ([])) (encTTrial ⟨x.Claim, x.Asked + 1, x.Right, x.Wrong + 1⟩) (Tab.of ([])) := by
  refine pco_of_run [] (E := ⟨[], []⟩) (m := false) (base := 0) Env.ok_nil G_ok mix 300 6 Try.func246 (by kernel_rfl) rfl (by kernel_rfl) (by kernel_rfl) rfl ?_
  simp [Try.f246]
  all_goals first | omega | (rw [Bool.eq_iff_iff]; simp; omega) | grind
theorem c246_ok : c246.ok Try.prog := mkCon_ok fun x hpre => c246_pc x hpre
/-- loop.example/g03007/impl.judge -/
noncomputable def c133 : Con := mkCon 133 false (α := (List TMark) × Int × Int) (fun x => (fun (l : List TMark) (q : Int) (a : Int) => [encLTMark l, dI q, dI a]) x.1 x.2.1 x.2.2) (fun _ => []) (fun x => (fun (l : List TMark) (q : Int) (a : Int) => l.length ≤ 1073741823) x.1 x.2.1 x.2.2) (fun x => (fun (l : List TMark) (q : Int) (a : Int) => (if lookQ q l = a then .iface 173 (.agg []) else .iface 174 (.agg []) : D)) x.1 x.2.1 x.2.2) (fun x => (fun (l : List TMark) (q : Int) (a : Int) => []) x.1 x.2.1 x.2.2)
@[simp] theorem c133_f : c133.f = 133 := rfl
@[simp] theorem c133_own : c133.own = false := rfl
theorem c133_inj : ∀ u_ v_ : (List TMark) × Int × Int, ((fun x => (fun (l : List TMark) (q : Int) (a : Int) => [encLTMark l, dI q, dI a]) x.1 x.2.1 x.2.2) u_).map nz = ((fun x => (fun (l : List TMark) (q : Int) (a : Int) => [encLTMark l, dI q, dI a]) x.1 x.2.1 x.2.2) v_).map nz → u_ = v_ := by
  intro u_ v_ h
  obtain ⟨l, q, a⟩ := u_
  obtain ⟨l', q', a'⟩ := v_
  simp [nz_lit, nz1_lit, nz_agg, nz_sl, nz1_sl, encLTMark] at h
  first | (simp [h]; done) | (obtain ⟨⟩ := h; simp_all; done) | simp_all
@[simp] theorem c133_fn (l : List TMark) (q : Int) (a : Int) : c133.fn [.sl false 2 yTMark (ML encTMark l), .lit (.int .i64 q), .lit (.int .i64 a)] [] = some ((fun (l : List TMark) (q : Int) (a : Int) => l.length ≤ 1073741823) l q a, (fun (l : List TMark) (q : Int) (a : Int) => (if lookQ q l = a then .iface 173 (.agg []) else .iface 174 (.agg []) : D)) l q a, (fun (l : List TMark) (q : Int) (a : Int) => []) l q a) :=
  mkCon_fn (fun x y h _ => c133_inj x y h) ((l, q, a) : (List TMark) × Int × Int) (by simp [nz, nz1, ML_nil, encLTMark]) rfl
@[simp] theorem c133_fn1 (s_l : Nat) (z_l : D) (q : Int) (a : Int) : c133.fn [.sl false s_l z_l [], .lit (.int .i64 q), .lit (.int .i64 a)] [] = some ((fun (l : List TMark) (q : Int) (a : Int) => l.length ≤ 1073741823) [] q a, (fun (l : List TMark) (q : Int) (a : Int) => (if lookQ q l = a then .iface 173 (.agg []) else .iface 174 (.agg []) : D)) [] q a, (fun (l : List TMark) (q : Int) (a : Int) => []) [] q a) :=
  mkCon_fn (fun x y h _ => c133_inj x y h) (([], q, a) : (List TMark) × Int × Int) (by simp [nz, nz1, ML_nil, encLTMark]) rfl
theorem c133_pc (l : List TMark) (q : Int) (a : Int) (hpre : l.length ≤ 1073741823) : PCo Try.prog 133 [encLTMark l, dI q, dI a] (Tab.of []) (if lookQ q l = a then .iface 173 (.agg []) else .iface 174 (.agg [])) (Tab.of []) := by
  refine pco_of_run [] (E := ⟨[c38], []⟩) (m := false) (base := 0) (Env.ok_cons c38_ok Env.ok_nil) G_ok mix 300 6 Try.func133 (by kernel_rfl) rfl (by kernel_rfl) (by kernel_rfl) rfl ?_
  by_cases h : lookQ q l = a
  · simp [Try.f133, h]
    omega
  · simp [Try.f133, h]
    omega
theorem c133_ok : c133.ok Try.prog := mkCon_ok fun ⟨l, q, a⟩ hpre => c133_pc l q a hpre
/-- loop.example/g03007/impl.GiveAnswer -/
noncomputable def c60 : Con := mkCon 60 false (α := (List TMark) × TTrial × Int) (fun x => (fun (l : List TMark) (x : TTrial) (a : Int) => [encLTMark l, encTTrial x, dI a]) x.1 x.2.1 x.2.2) (fun _ => []) (fun x => (fun (l : List TMark) (x : TTrial) (a : Int) => l.length ≤ 1073741823) x.1 x.2.1 x.2.2) (fun x => (fun (l : List TMark) (x : TTrial) (a : Int) => (.tup [encTTrial (mGive l x a), dB (decide (¬ mNextQ l x = 0))] : D)) x.1 x.2.1 x.2.2) (fun x => (fun (l : List TMark) (x : TTrial) (a : Int) => []) x.1 x.2.1 x.2.2)
@[simp] theorem c60_f : c60.f = 60 := rfl
@[simp] theorem c60_own : c60.own = false := rfl
theorem c60_inj : ∀ u_ v_ : (List TMark) × TTrial × Int, ((fun x => (fun (l : List TMark) (x : TTrial) (a : Int) => [encLTMark l, encTTrial x, dI a]) x.1 x.2.1 x.2.2) u_).map nz = ((fun x => (fun (l : List TMark) (x : TTrial) (a : Int) => [encLTMark l, encTTrial x, dI a]) x.1 x.2.1 x.2.2) v_).map nz → u_ = v_ := by
  intro u_ v_ h
  obtain ⟨l, ⟨x_Claim, x_Asked, x_Right, x_Wrong⟩, a⟩ := u_
  obtain ⟨l', ⟨x_Claim', x_Asked', x_Right', x_Wrong'⟩, a'⟩ := v_
  simp [nz_lit, nz1_lit, nz_agg, nz_sl, nz1_sl, encLTMark, encTTrial] at h
  first | (simp [h]; done) | (obtain ⟨⟩ := h; simp_all; done) | simp_all
@[simp] theorem c60_fn (l : List TMark) (x_Claim : Int) (x_Asked : Int) (x_Right : Int) (x_Wrong : Int) (a : Int) : c60.fn [.sl false 2 yTMark (ML encTMark l), .agg [.lit (.int .i64 x_Claim), .lit (.int .i64 x_Asked), .lit (.int .i64 x_Right), .lit (.int .i64 x_Wrong)], .lit (.int .i64 a)] [] = some ((fun (l : List TMark) (x : TTrial) (a : Int) => l.length ≤ 1073741823) l ⟨x_Claim, x_Asked, x_Right, x_Wrong⟩ a, (fun (l : List TMark) (x : TTrial) (a : Int) => (.tup [encTTrial (mGive l x a), dB (decide (¬ mNextQ l x = 0))] : D)) l ⟨x_Claim, x_Asked, x_Right, x_Wrong⟩ a, (fun (l : List TMark) (x : TTrial) (a : Int) => []) l ⟨x_Claim, x_Asked, x_Right, x_Wrong⟩ a) :=
  mkCon_fn (fun x y h _ => c60_inj x y h) ((l, ⟨x_Claim, x_Asked, x_Right, x_Wrong⟩, a) : (List TMark) × TTrial × Int) (by simp [nz, nz1, ML_nil, encLTMark, encTTrial]) rfl
@[simp] theorem c60_fn1 (s_l : Nat) (z_l : D) (x_Claim : Int) (x_Asked : Int) (x_Right : Int) (x_Wrong : Int) (a : Int) : c60.fn [.sl false s_l z_l [], .agg [.lit (.int .i64 x_Claim), .lit (.int .i64 x_Asked), .lit (.int .i64 x_Right), .lit (.int .i64 x_Wrong)], .lit (.int .i64 a)] [] = some ((fun (l : List TMark) (x : TTrial) (a : Int) => l.length ≤ 1073741823) [] ⟨x_Claim, x_Asked, x_Right, x_Wrong⟩ a, (fun (l : List TMark) (x : TTrial) (a : Int) => (.tup [encTTrial (mGive l x a), dB (decide (¬ mNextQ l x = 0))] : D)) [] ⟨x_Claim, x_Asked, x_Right, x_Wrong⟩ a, (fun (l : List TMark) (x : TTrial) (a : Int) => []) [] ⟨x_Claim, x_Asked, x_Right, x_Wrong⟩ a) :=
  mkCon_fn (fun x y h _ => c60_inj x y h) (([], ⟨x_Claim, x_Asked, x_Right, x_Wrong⟩, a) : (List TMark) × TTrial × Int) (by simp [nz, nz1, ML_nil, encLTMark, encTTrial]) rfl
theorem c60_pc (l : List TMark) (x : TTrial) (a : Int) (hpre : l.length ≤ 1073741823) : PCo Try.prog 60 [encLTMark l, encTTrial x, dI a] (Tab.of []) (.tup [encTTrial (mGive l x a), dB (decide (¬ mNextQ l x = 0))]) (Tab.of []) := by
  refine pco_of_run [4] (E := ⟨[c58, c133, c245, c246], [(173, "loop.example/g03007/impl.next", 245), (174, "loop.example/g03007/impl.next", 246)]⟩) (m := false) (base := 0) (Env.ok_cons c58_ok (Env.ok_cons c133_ok (Env.ok_cons c245_ok (Env.ok_cons c246_ok (Env.ok_me (meth_of (by kernel_rfl) (by kernel_rfl)) (Env.ok_me (meth_of (by kernel_rfl) (by kernel_rfl)) Env.ok_nil)))))) G_ok mix 300 6 Try.func60 (by kernel_rfl) rfl (by kernel_rfl) (by kernel_rfl) rfl ?_
  obtain ⟨c, k, r, w⟩ := x
  by_cases h : mNextQ l ⟨c, k, r, w⟩ = 0
  · simp [Try.f60, h, mGive]
    exact hpre
  · have hb := nextQ_bd h
    simp at hb
    by_cases h2 : lookQ (mNextQ l ⟨c, k, r, w⟩) l = a
    · simp [Try.f60, h, h2, mGive]
      omega
    · simp [Try.f60, h, h2, mGive]
      omega
theorem c60_ok : c60.ok Try.prog := mkCon_ok fun ⟨l, x, a⟩ hpre => c60_pc l x a hpre
def mGiveAll (l : List TMark) (x : TTrial) (az : List Int) : TTrial := az.foldl (fun x a => mGive l x a) x
/-- loop.example/g03007/spec.AnswerAll -/
noncomputable def c62 : Con := mkCon 62 false (α := (List TMark) × TTrial × (List Int)) (fun x => (fun (l : List TMark) (x : TTrial) (az : List Int) => [encLTMark l, encTTrial x, encLI az]) x.1 x.2.1 x.2.2) (fun _ => []) (fun x => (fun (l : List TMark) (x : TTrial) (az : List Int) => l.length ≤ 1073741823 ∧ az.length ≤ 1099511627776) x.1 x.2.1 x.2.2) (fun x => (fun (l : List TMark) (x : TTrial) (az : List Int) => (encTTrial (mGiveAll l x az) : D)) x.1 x.2.1 x.2.2) (fun x => (fun (l : List TMark) (x : TTrial) (az : List Int) => []) x.1 x.2.1 x.2.2)
@[simp] theorem c62_f : c62.f = 62 := rfl
@[simp] theorem c62_own : c62.own = false := rfl
theorem c62_inj : ∀ u_ v_ : (List TMark) × TTrial × (List Int), ((fun x => (fun (l : List TMark) (x : TTrial) (az : List Int) => [encLTMark l, encTTrial x, encLI az]) x.1 x.2.1 x.2.2) u_).map nz = ((fun x => (fun (l : List TMark) (x : TTrial) (az : List Int) => [encLTMark l, encTTrial x, encLI az]) x.1 x.2.1 x.2.2) v_).map nz → u_ = v_ := by
  intro u_ v_ h
  obtain ⟨l, ⟨x_Claim, x_Asked, x_Right, x_Wrong⟩, az⟩ := u_
  obtain ⟨l', ⟨x_Claim', x_Asked', x_Right', x_Wrong'⟩, az'⟩ := v_
  simp [nz_lit, nz1_lit, nz_agg, nz_sl, nz1_sl, encLI, encLTMark, encTTrial] at h
  first | (simp [h]; done) | (obtain ⟨⟩ := h; simp_all; done) | simp_all
@[simp] theorem c62_fn (l : List TMark) (x_Claim : Int) (x_Asked : Int) (x_Right : Int) (x_Wrong : Int) (az : List Int) : c62.fn [.sl false 2 yTMark (ML encTMark l), .agg [.lit (.int .i64 x_Claim), .lit (.int .i64 x_Asked), .lit (.int .i64 x_Right), .lit (.int .i64 x_Wrong)], .sl false 1 (.lit (.int .i64 0)) (ML dI az)] [] = some ((fun (l : List TMark) (x : TTrial) (az : List Int) => l.length ≤ 1073741823 ∧ az.length ≤ 1099511627776) l ⟨x_Claim, x_Asked, x_Right, x_Wrong⟩ az, (fun (l : List TMark) (x : TTrial) (az : List Int) => (encTTrial (mGiveAll l x az) : D)) l ⟨x_Claim, x_Asked, x_Right, x_Wrong⟩ az, (fun (l : List TMark) (x : TTrial) (az : List Int) => []) l ⟨x_Claim, x_Asked, x_Right, x_Wrong⟩ az) :=
  mkCon_fn (fun x y h _ => c62_inj x y h) ((l, ⟨x_Claim, x_Asked, x_Right, x_Wrong⟩, az) : (List TMark) × TTrial × (List Int)) (by simp [nz, nz1, ML_nil, encLI, encLTMark, encTTrial]) rfl
@[simp] theorem c62_fn1 (s_l : Nat) (z_l : D) (x_Claim : Int) (x_Asked : Int) (x_Right : Int) (x_Wrong : Int) (az : List Int) : c62.fn [.sl false s_l z_l [], .agg [.lit (.int .i64 x_Claim), .lit (.int .i64 x_Asked), .lit (.int .i64 x_Right), .lit (.int .i64 x_Wrong)], .sl false 1 (.lit (.int .i64 0)) (ML dI az)] [] = some ((fun (l : List TMark) (x : TTrial) (az : List Int) => l.length ≤ 1073741823 ∧ az.length ≤ 1099511627776) [] ⟨x_Claim, x_Asked, x_Right, x_Wrong⟩ az, (fun (l : List TMark) (x : TTrial) (az : List Int) => (encTTrial (mGiveAll l x az) : D)) [] ⟨x_Claim, x_Asked, x_Right, x_Wrong⟩ az, (fun (l : List TMark) (x : TTrial) (az : List Int) => []) [] ⟨x_Claim, x_Asked, x_Right, x_Wrong⟩ az) :=
  mkCon_fn (fun x y h _ => c62_inj x y h) (([], ⟨x_Claim, x_Asked, x_Right, x_Wrong⟩, az) : (List TMark) × TTrial × (List Int)) (by simp [nz, nz1, ML_nil, encLI, encLTMark, encTTrial]) rfl
@[simp] theorem c62_fn2 (l : List TMark) (x_Claim : Int) (x_Asked : Int) (x_Right : Int) (x_Wrong : Int) (s_az : Nat) (z_az : D) : c62.fn [.sl false 2 yTMark (ML encTMark l), .agg [.lit (.int .i64 x_Claim), .lit (.int .i64 x_Asked), .lit (.int .i64 x_Right), .lit (.int .i64 x_Wrong)], .sl false s_az z_az []] [] = some ((fun (l : List TMark) (x : TTrial) (az : List Int) => l.length ≤ 1073741823 ∧ az.length ≤ 1099511627776) l ⟨x_Claim, x_Asked, x_Right, x_Wrong⟩ [], (fun (l : List TMark) (x : TTrial) (az : List Int) => (encTTrial (mGiveAll l x az) : D)) l ⟨x_Claim, x_Asked, x_Right, x_Wrong⟩ [], (fun (l : List TMark) (x : TTrial) (az : List Int) => []) l ⟨x_Claim, x_Asked, x_Right, x_Wrong⟩ []) :=
  mkCon_fn (fun x y h _ => c62_inj x y h) ((l, ⟨x_Claim, x_Asked, x_Right, x_Wrong⟩, []) : (List TMark) × TTrial × (List Int)) (by simp [nz, nz1, ML_nil, encLI, encLTMark, encTTrial]) rfl
@[simp] theorem c62_fn3 (s_l : Nat) (z_l : D) (x_Claim : Int) (x_Asked : Int) (x_Right : Int) (x_Wrong : Int) (s_az : Nat) (z_az : D) : c62.fn [.sl false s_l z_l [], .agg [.lit (.int .i64 x_Claim), .lit (.int .i64 x_Asked), .lit (.int .i64 x_Right), .lit (.int .i64 x_Wrong)], .sl false s_az z_az []] [] = some ((fun (l : List TMark) (x : TTrial) (az : List Int) => l.length ≤ 1073741823 ∧ az.length ≤ 1099511627776) [] ⟨x_Claim, x_Asked, x_Right, x_Wrong⟩ [], (fun (l : List TMark) (x : TTrial) (az : List Int) => (encTTrial (mGiveAll l x az) : D)) [] ⟨x_Claim, x_Asked, x_Right, x_Wrong⟩ [], (fun (l : List TMark) (x : TTrial) (az : List Int) => []) [] ⟨x_Claim, x_Asked, x_Right, x_Wrong⟩ []) :=
  mkCon_fn (fun x y h _ => c62_inj x y h) (([], ⟨x_Claim, x_Asked, x_Right, x_Wrong⟩, []) : (List TMark) × TTrial × (List Int)) (by simp [nz, nz1, ML_nil, encLI, encLTMark, encTTrial]) rfl
theorem c62_pc (l : List TMark) (x : TTrial) (az : List Int) (hpre : l.length ≤ 1073741823 ∧ az.length ≤ 1099511627776) : PCo Try.prog 62 [encLTMark l, encTTrial x, encLI az] (Tab.of []) (encTTrial (mGiveAll l x az)) (Tab.of []) := by
  refine pco_of_run [] (E := ⟨[c59], []⟩) (m := false) (base := 0) (Env.ok_cons c59_ok Env.ok_nil) G_ok mix 300 6 Try.func62 (by kernel_rfl) rfl (by kernel_rfl) (by kernel_rfl) rfl ?_
  simp [Try.f62]
  refine loop_inv (fun p : Nat => p ≤ az.length) (fun p => [(0, encLTMark l), (2, encLI az), (4, .ptr (0, 1) 0), (6, .ptr (1, 1) 0), (7, dI p)]) (fun p => [((0, 1), .box (encTTrial (mGiveAll l x (az.take p)))), ((1, 1), .box (.agg [dI 0, dI 0, dI 0, dI 0]))]) 2 (fun p => az.length - p) 0 400 (by simp) (by simp) (by simp [mGiveAll]) ?_
  intro p hp
  simp
  refine ⟨fun hlt => ?_, fun hge => ?_⟩
  · have hs : mGiveAll l x (az.take (p + 1)) = mGive l (mGiveAll l x (az.take p)) (az[p]?.getD 0) := by simp only [mGiveAll]; rw [foldl_at (d := 0) hlt]
    repeat' (first | omega | refine And.intro ?_ ?_ | intro _)
    exact Again.mk (p + 1) (by omega) (by simp [hs]) (by first | omega | (simp; omega))
  · rw [List.take_of_length_le hge]; first | done | simp
theorem c62_ok : c62.ok Try.prog := mkCon_ok fun ⟨l, x, az⟩ hpre => c62_pc l x az hpre
/-- loop.example/g03007/impl.AnswerAll -/
noncomputable def c64 : Con := mkCon 64 false (α := (List TMark) × TTrial × (List Int)) (fun x => (fun (l : List TMark) (x : TTrial) (az : List Int) => [encLTMark l, encTTrial x, encLI az]) x.1 x.2.1 x.2.2) (fun _ => []) (fun x => (fun (l : List TMark) (x : TTrial) (az : List Int) => l.length ≤ 1073741823 ∧ az.length ≤ 1099511627776) x.1 x.2.1 x.2.2) (fun x => (fun (l : List TMark) (x : TTrial) (az : List Int) => (encTTrial (mGiveAll l x az) : D)) x.1 x.2.1 x.2.2) (fun x => (fun (l : List TMark) (x : TTrial) (az : List Int) => []) x.1 x.2.1 x.2.2)
@[simp] theorem c64_f : c64.f = 64 := rfl
@[simp] theorem c64_own : c64.own = false := rfl
theorem c64_inj : ∀ u_ v_ : (List TMark) × TTrial × (List Int), ((fun x => (fun (l : List TMark) (x : TTrial) (az : List Int) => [encLTMark l, encTTrial x, encLI az]) x.1 x.2.1 x.2.2) u_).map nz = ((fun x => (fun (l : List TMark) (x : TTrial) (az : List Int) => [encLTMark l, encTTrial x, encLI az]) x.1 x.2.1 x.2.2) v_).map nz → u_ = v_ := by
  intro u_ v_ h
  obtain ⟨l, ⟨x_Claim, x_Asked, x_Right, x_Wrong⟩, az⟩ := u_
  obtain ⟨l', ⟨x_Claim', x_Asked', x_Right', x_Wrong'⟩, az'⟩ := v_
  simp [nz_lit, nz1_lit, nz_agg, nz_sl, nz1_sl, encLI, encLTMark, encTTrial] at h
  first | (simp [h]; done) | (obtain ⟨⟩ := h; simp_all; done) | simp_all
@[simp] theorem c64_fn (l : List TMark) (x_Claim : Int) (x_Asked : Int) (x_Right : Int) (x_Wrong : Int) (az : List Int) : c64.fn [.sl false 2 yTMark (ML encTMark l), .agg [.lit (.int .i64 x_Claim), .lit (.int .i64 x_Asked), .lit (.int .i64 x_Right), .lit (.int .i64 x_Wrong)], .sl false 1 (.lit (.int .i64 0)) (ML dI az)] [] = some ((fun (l : List TMark) (x : TTrial) (az : List Int) => l.length ≤ 1073741823 ∧ az.length ≤ 1099511627776) l ⟨x_Claim, x_Asked, x_Right, x_Wrong⟩ az, (fun (l : List TMark) (x : TTrial) (az : List Int) => (encTTrial (mGiveAll l x az) : D)) l ⟨x_Claim, x_Asked, x_Right, x_Wrong⟩ az, (fun (l : List TMark) (x : TTrial) (az : List Int) => []) l ⟨x_Claim, x_Asked, x_Right, x_Wrong⟩ az) :=
  mkCon_fn (fun x y h _ => c64_inj x y h) ((l, ⟨x_Claim, x_Asked, x_Right, x_Wrong⟩, az) : (List TMark) × TTrial × (List Int)) (by simp [nz, nz1, ML_nil, encLI, encLTMark, encTTrial]) rfl
@[simp] theorem c64_fn1 (s_l : Nat) (z_l : D) (x_Claim : Int) (x_Asked : Int) (x_Right : Int) (x_Wrong : Int) (az : List Int) : c64.fn [.sl false s_l z_l [], .agg [.lit (.int .i64 x_Claim), .lit (.int .i64 x_Asked), .lit (.int .i64 x_Right), .lit (.int .i64 x_Wrong)], .sl false 1 (.lit (.int .i64 0)) (ML dI az)] [] = some ((fun (l : List TMark) (x : TTrial) (az : List Int) => l.length ≤ 1073741823 ∧ az.length ≤ 1099511627776) [] ⟨x_Claim, x_Asked, x_Right, x_Wrong⟩ az, (fun (l : List TMark) (x : TTrial) (az : List Int) => (encTTrial (mGiveAll l x az) : D)) [] ⟨x_Claim, x_Asked, x_Right, x_Wrong⟩ az, (fun (l : List TMark) (x : TTrial) (az : List Int) => []) [] ⟨x_Claim, x_Asked, x_Right, x_Wrong⟩ az) :=
  mkCon_fn (fun x y h _ => c64_inj x y h) (([], ⟨x_Claim, x_Asked, x_Right, x_Wrong⟩, az) : (List TMark) × TTrial × (List Int)) (by simp [nz, nz1, ML_nil, encLI, encLTMark, encTTrial]) rfl
@[simp] theorem c64_fn2 (l : List TMark) (x_Claim : Int) (x_Asked : Int) (x_Right : Int) (x_Wrong : Int) (s_az : Nat) (z_az : D) : c64.fn [.sl false 2 yTMark (ML encTMark l), .agg [.lit (.int .i64 x_Claim), .lit (.int .i64 x_Asked), .lit (.int .i64 x_Right), .lit (.int .i64 x_Wrong)], .sl false s_az z_az []] [] = some ((fun (l : List TMark) (x : TTrial) (az : List Int) => l.length ≤ 1073741823 ∧ az.length ≤ 1099511627776) l ⟨x_Claim, x_Asked, x_Right, x_Wrong⟩ [], (fun (l : List TMark) (x : TTrial) (az : List Int) => (encTTrial (mGiveAll l x az) : D)) l ⟨x_Claim, x_Asked, x_Right, x_Wrong⟩ [], (fun (l : List TMark) (x : TTrial) (az : List Int) => []) l ⟨x_Claim, x_Asked, x_Right, x_Wrong⟩ []) :=
  mkCon_fn (fun x y h _ => c64_inj x y h) ((l, ⟨x_Claim, x_Asked, x_Right, x_Wrong⟩, []) : (List TMark) × TTrial × (List Int)) (by simp [nz, nz1, ML_nil, encLI, encLTMark, encTTrial]) rfl
@[simp] theorem c64_fn3 (s_l : Nat) (z_l : D) (x_Claim : Int) (x_Asked : Int) (x_Right : Int) (x_Wrong : Int) (s_az : Nat) (z_az : D) : c64.fn [.sl false s_l z_l [], .agg [.lit (.int .i64 x_Claim), .lit (.int .i64 x_Asked), .lit (.int .i64 x_Right), .lit (.int .i64 x_Wrong)], .sl false s_az z_az []] [] = some ((fun (l : List TMark) (x : TTrial) (az : List Int) => l.length ≤ 1073741823 ∧ az.length ≤ 1099511627776) [] ⟨x_Claim, x_Asked, x_Right, x_Wrong⟩ [], (fun (l : List TMark) (x : TTrial) (az : List Int) => (encTTrial (mGiveAll l x az) : D)) [] ⟨x_Claim, x_Asked, x_Right, x_Wrong⟩ [], (fun (l : List TMark) (x : TTrial) (az : List Int) => []) [] ⟨x_Claim, x_Asked, x_Right, x_Wrong⟩ []) :=
  mkCon_fn (fun x y h _ => c64_inj x y h) (([], ⟨x_Claim, x_Asked, x_Right, x_Wrong⟩, []) : (List TMark) × TTrial × (List Int)) (by simp [nz, nz1, ML_nil, encLI, encLTMark, encTTrial]) rfl
theorem c64_pc (l : List TMark) (x : TTrial) (az : List Int) (hpre : l.length ≤ 1073741823 ∧ az.length ≤ 1099511627776) : PCo Try.prog 64 [encLTMark l, encTTrial x, encLI az] (Tab.of []) (encTTrial (mGiveAll l x az)) (Tab.of []) := by
  refine pco_of_run [] (E := ⟨[c60], []⟩) (m := false) (base := 0) (Env.ok_cons c60_ok Env.ok_nil) G_ok mix 300 6 Try.func64 (by kernel_rfl) rfl (by kernel_rfl) (by kernel_rfl) rfl ?_
  simp [Try.f64]
  refine loop_inv (fun p : Nat => p ≤ az.length) (fun p => [(0, encLTMark l), (4, .ptr (0, 1) 0), (6, .ptr (1, 1) 0), (9, encLI az), (10, dI az.length), (11, dI p)]) (fun p => [((0, 1), .box (encTTrial (mGiveAll l x (az.take p)))), ((1, 1), .box (.agg [dI 0, dI 0, dI 0, dI 0]))]) 2 (fun p => az.length - p) 0 400 (by simp) (by simp) (by simp [mGiveAll]) ?_
  intro p hp
  simp
  refine ⟨fun hlt => ?_, fun hge => ?_⟩
  · have hs : mGiveAll l x (az.take (p + 1)) = mGive l (mGiveAll l x (az.take p)) (az[p]?.getD 0) := by simp only [mGiveAll]; rw [foldl_at (d := 0) hlt]
    repeat' (first | omega | refine And.intro ?_ ?_ | intro _)
    exact Again.mk (p + 1) (by omega) (by simp [hs]) (by first | omega | (simp; omega))
  · rw [List.take_of_length_le hge]; first | done | simp
theorem c64_ok : c64.ok Try.prog := mkCon_ok fun ⟨l, x, az⟩ hpre => c64_pc l x az hpre
/-- loop.example/g03007/laws.FnExactGiveAnswer -/
theorem law13 (l : List TMark) (wl : wfLTMark l) (x : TTrial) (wx : wfTTrial x) (a : Int) (wa : inR .i64 a) : PCo Try.prog 13 [encLTMark l, encTTrial x, dI a] (Tab.of []) (dB true) (Tab.of []) := by
  obtain ⟨x_Claim, x_Asked, x_Right, x_Wrong⟩ := x
  refine pco_of_run [5] (E := ⟨[c32, c34, c36, c51, c59, c60, c61], []⟩) (m := false) (base := 0) (Env.ok_cons c32_ok (Env.ok_cons c34_ok (Env.ok_cons c36_ok (Env.ok_cons c51_ok (Env.ok_cons c59_ok (Env.ok_cons c60_ok (Env.ok_cons c61_ok Env.ok_nil))))))) G_ok mix 400 6 Try.func13 (by kernel_rfl) rfl (by kernel_rfl) (by kernel_rfl) rfl ?_
  simp [Try.f13]
  have h1 : l.length ≤ maxLen := wl.1
  refine ⟨h1, fun h => ?_⟩
  split at h <;> omega
theorem law13_pc (D0 : D) (h0 : Sh G 9 22 D0) (D1 : D) (h1 : Sh G 9 42 D1) (D2 : D) (h2 : Sh G 9 3 D2) : PC Try.prog 13 [D0, D1, D2] (dB true) [] := by
  obtain ⟨l, rfl, wl⟩ := sh22 (n := 6) h0
  obtain ⟨x, rfl, wx⟩ := sh42 (n := 7) h1
  obtain ⟨a, rfl, wa⟩ := sh3 (n := 8) h2
  exact law13 l wl x wx a wa
/-- loop.example/g03007/laws.toIntS -/
noncomputable def c63f : Con := mkCon 63 false (α := (List Int)) (fun x => (fun (l : List Int) => [encLI l]) x) (fun _ => []) (fun x => (fun (l : List Int) => l.length ≤ 1099511627776) x) (fun x => (fun (l : List Int) => (encLI l : D)) x) (fun x => (fun (l : List Int) => []) x)
@[simp] theorem c63f_f : c63f.f = 63 := rfl
@[simp] theorem c63f_own : c63f.own = false := rfl
theorem c63f_inj : ∀ u_ v_ : (List Int), ((fun x => (fun (l : List Int) => [encLI l]) x) u_).map nz = ((fun x => (fun (l : List Int) => [encLI l]) x) v_).map nz → u_ = v_ := by
  intro u_ v_ h
  obtain l := u_
  obtain l' := v_
  simp [nz_lit, nz1_lit, nz_agg, nz_sl, nz1_sl, encLI] at h
  first | (simp [h]; done) | (obtain ⟨⟩ := h; simp_all; done) | simp_all
@[simp] theorem c63f_fn (l : List Int) : c63f.fn [.sl false 1 (.lit (.int .i64 0)) (ML dI l)] [] = some ((fun (l : List Int) => l.length ≤ 1099511627776) l, (fun (l : List Int) => (encLI l : D)) l, (fun (l : List Int) => []) l) :=
  mkCon_fn (fun x y h _ => c63f_inj x y h) (l : (List Int)) (by simp [nz, nz1, ML_nil, encLI]) rfl
@[simp] theorem c63f_fn1 (s_l : Nat) (z_l : D) : c63f.fn [.sl false s_l z_l []] [] = some ((fun (l : List Int) => l.length ≤ 1099511627776) [], (fun (l : List Int) => (encLI l : D)) [], (fun (l : List Int) => []) []) :=
  mkCon_fn (fun x y h _ => c63f_inj x y h) ([] : (List Int)) (by simp [nz, nz1, ML_nil, encLI]) rfl
theorem c63f_pc (l : List Int) (hpre : l.length ≤ 1099511627776) : PCo Try.prog 63 [encLI l] (Tab.of []) (encLI l) (Tab.of []) := by
  refine pco_of_run [] (E := ⟨[], []⟩) (m := false) (base := 0) Env.ok_nil G_ok mix 300 6 Try.func63 (by kernel_rfl) rfl (by kernel_rfl) (by kernel_rfl) rfl ?_
  simp [Try.f63]
  refine ⟨by omega, ?_⟩
  refine loop_inv (fun p : Nat => p ≤ l.length) (fun p => [(0, encLI l), (3, .own (0, 1) 1 0 l.length), (4, dI p)]) (fun p => [((0, 1), .arr false 1 (.lit (.int .i64 0)) (ML dI (l.take p ++ List.replicate (l.length - p) 0)))]) 2 (fun p => l.length - p) 0 100 (by simp) (by simp) (by first | (simp; done) | (simp; simp only [ML, List.map_replicate]; rfl)) ?_
  intro p hp
  simp
  refine ⟨fun hlt => ⟨by omega, by omega, Again.mk (p + 1) (by omega) (by simp [fill_step hlt]) (by first | omega | (simp; omega))⟩, fun hge => ?_⟩
  have : p = l.length := by omega
  subst this
  simp
theorem c63f_ok : c63f.ok Try.prog := mkCon_ok fun l hpre => c63f_pc l hpre
/-- loop.example/g03007/laws.FnExactAnswerAll -/
theorem law14 (l : List TMark) (wl : wfLTMark l) (x : TTrial) (wx : wfTTrial x) (az : List Int) (waz : wfLI az) : PCo Try.prog 14 [encLTMark l, encTTrial x, encLI az] (Tab.of []) (dB true) (Tab.of []) := by
  obtain ⟨x_Claim, x_Asked, x_Right, x_Wrong⟩ := x
  refine pco_of_run [7] (E := ⟨[c32, c34, c36, c51, c61, c62, c63f, c64, c65], []⟩) (m := false) (base := 0) (Env.ok_cons c32_ok (Env.ok_cons c34_ok (Env.ok_cons c36_ok (Env.ok_cons c51_ok (Env.ok_cons c61_ok (Env.ok_cons c62_ok (Env.ok_cons c63f_ok (Env.ok_cons c64_ok (Env.ok_cons c65_ok Env.ok_nil))))))))) G_ok mix 400 6 Try.func14 (by kernel_rfl) rfl (by kernel_rfl) (by kernel_rfl) rfl ?_
  simp [Try.f14]
  have h1 : l.length ≤ maxLen := wl.1
  refine fun h => ⟨h1, fun h' => ?_⟩
  split at h' <;> omega
theorem law14_pc (D0 : D) (h0 : Sh G 9 22 D0) (D1 : D) (h1 : Sh G 9 42 D1) (D2 : D) (h2 : Sh G 9 54 D2) : PC Try.prog 14 [D0, D1, D2] (dB true) [] := by
  obtain ⟨l, rfl, wl⟩ := sh22 (n := 6) h0
  obtain ⟨x, rfl, wx⟩ := sh42 (n := 7) h1
  obtain ⟨az, rfl, waz⟩ := sh54 (n := 7) h2
  exact law14 l wl x wx az waz

end Go.Proofs.Ytnnieeojfdjcoaa
