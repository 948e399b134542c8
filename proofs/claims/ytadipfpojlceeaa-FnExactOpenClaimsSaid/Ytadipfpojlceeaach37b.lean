/- Contracts of the functions that the laws run. -/
import Derived.Test.Ytadipfpojlceeaach01
import Derived.Test.YtadipfpojlceeaaEngB
namespace Go.Proofs.Ytadipfpojlceeaa
open Go Go.Eng
set_option linter.unusedSimpArgs false
set_option linter.unusedVariables false
set_option maxRecDepth 10000
set_option maxHeartbeats 1000000
/-- loop.example/g03007/laws.toClaim -/
noncomputable def c175 : Con := mkCon 175 false (α := TClaim) (fun x => (fun (a : TClaim) => [encTClaim a]) x) (fun _ => []) (fun x => (fun (a : TClaim) => True) x) (fun x => (fun (a : TClaim) => (encTClaim a : D)) x) (fun x => (fun (a : TClaim) => []) x)
@[simp] theorem c175_f : c175.f = 175 := rfl
@[simp] theorem c175_own : c175.own = false := rfl
theorem c175_inj : ∀ u_ v_ : TClaim, ((fun x => (fun (a : TClaim) => [encTClaim a]) x) u_).map nz = ((fun x => (fun (a : TClaim) => [encTClaim a]) x) v_).map nz → u_ = v_ := by
  intro u_ v_ h
  obtain ⟨a_Id, a_Who, a_Thing, a_At, a_State⟩ := u_
  obtain ⟨a_Id', a_Who', a_Thing', a_At', a_State'⟩ := v_
  simp [nz_lit, nz1_lit, nz_agg, nz_sl, nz1_sl, encTClaim] at h
  first | (simp [h]; done) | (obtain ⟨⟩ := h; simp_all; done) | simp_all
@[simp] theorem c175_fn (a_Id : Int) (a_Who : Int) (a_Thing : Int) (a_At : Int) (a_State : Int) : c175.fn [.agg [.lit (.int .i64 a_Id), .lit (.int .i64 a_Who), .lit (.int .i64 a_Thing), .lit (.int .i64 a_At), .lit (.int .i64 a_State)]] [] = some ((fun (a : TClaim) => True) ⟨a_Id, a_Who, a_Thing, a_At, a_State⟩, (fun (a : TClaim) => (encTClaim a : D)) ⟨a_Id, a_Who, a_Thing, a_At, a_State⟩, (fun (a : TClaim) => []) ⟨a_Id, a_Who, a_Thing, a_At, a_State⟩) :=
  mkCon_fn (fun x y h _ => c175_inj x y h) (⟨a_Id, a_Who, a_Thing, a_At, a_State⟩ : TClaim) (by simp [nz, nz1, ML_nil, encTClaim]) rfl
theorem c175_pc (a : TClaim) : PCo Try.prog 175 [encTClaim a] (Tab.of []) (encTClaim a) (Tab.of []) := by
  obtain ⟨a_Id, a_Who, a_Thing, a_At, a_State⟩ := a
  refine pco_of_run [] (E := ⟨[], []⟩) (m := false) (base := 0) Env.ok_nil G_ok mix 300 6 Try.func175 (by kernel_rfl) rfl (by kernel_rfl) (by kernel_rfl) rfl ?_
  simp [Try.f175]
  all_goals first | omega | (rw [Bool.eq_iff_iff]; simp; omega) | grind
theorem c175_ok : c175.ok Try.prog := mkCon_ok fun a hpre => c175_pc a
/-- loop.example/g03007/laws.eqClaim -/
noncomputable def c177 : Con := mkCon 177 false (α := TClaim × TClaim) (fun x => (fun (a : TClaim) (b : TClaim) => [encTClaim a, encTClaim b]) x.1 x.2) (fun _ => []) (fun x => (fun (a : TClaim) (b : TClaim) => True) x.1 x.2) (fun x => (fun (a : TClaim) (b : TClaim) => (dB (decide (a = b)) : D)) x.1 x.2) (fun x => (fun (a : TClaim) (b : TClaim) => []) x.1 x.2)
@[simp] theorem c177_f : c177.f = 177 := rfl
@[simp] theorem c177_own : c177.own = false := rfl
theorem c177_inj : ∀ u_ v_ : TClaim × TClaim, ((fun x => (fun (a : TClaim) (b : TClaim) => [encTClaim a, encTClaim b]) x.1 x.2) u_).map nz = ((fun x => (fun (a : TClaim) (b : TClaim) => [encTClaim a, encTClaim b]) x.1 x.2) v_).map nz → u_ = v_ := by
  intro u_ v_ h
  obtain ⟨⟨a_Id, a_Who, a_Thing, a_At, a_State⟩, ⟨b_Id, b_Who, b_Thing, b_At, b_State⟩⟩ := u_
  obtain ⟨⟨a_Id', a_Who', a_Thing', a_At', a_State'⟩, ⟨b_Id', b_Who', b_Thing', b_At', b_State'⟩⟩ := v_
  simp [nz_lit, nz1_lit, nz_agg, nz_sl, nz1_sl, encTClaim] at h
  first | (simp [h]; done) | (obtain ⟨⟩ := h; simp_all; done) | simp_all
@[simp] theorem c177_fn (a_Id : Int) (a_Who : Int) (a_Thing : Int) (a_At : Int) (a_State : Int) (b_Id : Int) (b_Who : Int) (b_Thing : Int) (b_At : Int) (b_State : Int) : c177.fn [.agg [.lit (.int .i64 a_Id), .lit (.int .i64 a_Who), .lit (.int .i64 a_Thing), .lit (.int .i64 a_At), .lit (.int .i64 a_State)], .agg [.lit (.int .i64 b_Id), .lit (.int .i64 b_Who), .lit (.int .i64 b_Thing), .lit (.int .i64 b_At), .lit (.int .i64 b_State)]] [] = some ((fun (a : TClaim) (b : TClaim) => True) ⟨a_Id, a_Who, a_Thing, a_At, a_State⟩ ⟨b_Id, b_Who, b_Thing, b_At, b_State⟩, (fun (a : TClaim) (b : TClaim) => (dB (decide (a = b)) : D)) ⟨a_Id, a_Who, a_Thing, a_At, a_State⟩ ⟨b_Id, b_Who, b_Thing, b_At, b_State⟩, (fun (a : TClaim) (b : TClaim) => []) ⟨a_Id, a_Who, a_Thing, a_At, a_State⟩ ⟨b_Id, b_Who, b_Thing, b_At, b_State⟩) :=
  mkCon_fn (fun x y h _ => c177_inj x y h) ((⟨a_Id, a_Who, a_Thing, a_At, a_State⟩, ⟨b_Id, b_Who, b_Thing, b_At, b_State⟩) : TClaim × TClaim) (by simp [nz, nz1, ML_nil, encTClaim]) rfl
theorem c177_pc (a : TClaim) (b : TClaim) : PCo Try.prog 177 [encTClaim a, encTClaim b] (Tab.of []) (dB (decide (a = b))) (Tab.of []) := by
  obtain ⟨a_Id, a_Who, a_Thing, a_At, a_State⟩ := a
  obtain ⟨b_Id, b_Who, b_Thing, b_At, b_State⟩ := b
  refine pco_of_run [] (E := ⟨[], []⟩) (m := false) (base := 0) Env.ok_nil G_ok mix 300 6 Try.func177 (by kernel_rfl) rfl (by kernel_rfl) (by kernel_rfl) rfl ?_
  simp [Try.f177]
  all_goals first | omega | (rw [Bool.eq_iff_iff]; simp; omega) | grind
theorem c177_ok : c177.ok Try.prog := mkCon_ok fun ⟨a, b⟩ hpre => c177_pc a b
/-- loop.example/g03007/laws.szClaimS -/
noncomputable def c102 : Con := mkCon 102 false (α := (List TClaim) × Int) (fun x => (fun (l : List TClaim) (left : Int) => [encLTClaim l, dI left]) x.1 x.2) (fun _ => []) (fun x => (fun (l : List TClaim) (left : Int) => l.length ≤ maxLen ∧ 0 ≤ left ∧ left ≤ 1099511627776) x.1 x.2) (fun x => (fun (l : List TClaim) (left : Int) => (dI (if left - l.length < 0 then -1 else left - l.length) : D)) x.1 x.2) (fun x => (fun (l : List TClaim) (left : Int) => []) x.1 x.2)
@[simp] theorem c102_f : c102.f = 102 := rfl
@[simp] theorem c102_own : c102.own = false := rfl
theorem c102_inj : ∀ u_ v_ : (List TClaim) × Int, ((fun x => (fun (l : List TClaim) (left : Int) => [encLTClaim l, dI left]) x.1 x.2) u_).map nz = ((fun x => (fun (l : List TClaim) (left : Int) => [encLTClaim l, dI left]) x.1 x.2) v_).map nz → u_ = v_ := by
  intro u_ v_ h
  obtain ⟨l, left⟩ := u_
  obtain ⟨l', left'⟩ := v_
  simp [nz_lit, nz1_lit, nz_agg, nz_sl, nz1_sl, encLTClaim] at h
  first | (simp [h]; done) | (obtain ⟨⟩ := h; simp_all; done) | simp_all
@[simp] theorem c102_fn (l : List TClaim) (left : Int) : c102.fn [.sl false 5 yTClaim (ML encTClaim l), .lit (.int .i64 left)] [] = some ((fun (l : List TClaim) (left : Int) => l.length ≤ maxLen ∧ 0 ≤ left ∧ left ≤ 1099511627776) l left, (fun (l : List TClaim) (left : Int) => (dI (if left - l.length < 0 then -1 else left - l.length) : D)) l left, (fun (l : List TClaim) (left : Int) => []) l left) :=
  mkCon_fn (fun x y h _ => c102_inj x y h) ((l, left) : (List TClaim) × Int) (by simp [nz, nz1, ML_nil, encLTClaim]) rfl
@[simp] theorem c102_fn1 (s_l : Nat) (z_l : D) (left : Int) : c102.fn [.sl false s_l z_l [], .lit (.int .i64 left)] [] = some ((fun (l : List TClaim) (left : Int) => l.length ≤ maxLen ∧ 0 ≤ left ∧ left ≤ 1099511627776) [] left, (fun (l : List TClaim) (left : Int) => (dI (if left - l.length < 0 then -1 else left - l.length) : D)) [] left, (fun (l : List TClaim) (left : Int) => []) [] left) :=
  mkCon_fn (fun x y h _ => c102_inj x y h) (([], left) : (List TClaim) × Int) (by simp [nz, nz1, ML_nil, encLTClaim]) rfl
theorem c102_pc (l : List TClaim) (left : Int) (hpre : l.length ≤ maxLen ∧ 0 ≤ left ∧ left ≤ 1099511627776) : PCo Try.prog 102 [encLTClaim l, dI left] (Tab.of []) (dI (if left - l.length < 0 then -1 else left - l.length)) (Tab.of []) := by
  refine pco_of_run [] (E := ⟨[], []⟩) (m := false) (base := 0) Env.ok_nil G_ok mix 300 6 Try.func102 (by kernel_rfl) rfl (by kernel_rfl) (by kernel_rfl) rfl ?_
  simp [Try.f102]
  simp [maxLen] at hpre
  all_goals omega
theorem c102_ok : c102.ok Try.prog := mkCon_ok fun ⟨l, left⟩ hpre => c102_pc l left hpre
/-- loop.example/g03007/laws.toClaimS -/
noncomputable def c104 : Con := mkCon 104 false (α := (List TClaim)) (fun x => (fun (l : List TClaim) => [encLTClaim l]) x) (fun _ => []) (fun x => (fun (l : List TClaim) => l.length ≤ 1099511627776) x) (fun x => (fun (l : List TClaim) => (encLTClaim l : D)) x) (fun x => (fun (l : List TClaim) => []) x)
@[simp] theorem c104_f : c104.f = 104 := rfl
@[simp] theorem c104_own : c104.own = false := rfl
theorem c104_inj : ∀ u_ v_ : (List TClaim), ((fun x => (fun (l : List TClaim) => [encLTClaim l]) x) u_).map nz = ((fun x => (fun (l : List TClaim) => [encLTClaim l]) x) v_).map nz → u_ = v_ := by
  intro u_ v_ h
  obtain l := u_
  obtain l' := v_
  simp [nz_lit, nz1_lit, nz_agg, nz_sl, nz1_sl, encLTClaim] at h
  first | (simp [h]; done) | (obtain ⟨⟩ := h; simp_all; done) | simp_all
@[simp] theorem c104_fn (l : List TClaim) : c104.fn [.sl false 5 yTClaim (ML encTClaim l)] [] = some ((fun (l : List TClaim) => l.length ≤ 1099511627776) l, (fun (l : List TClaim) => (encLTClaim l : D)) l, (fun (l : List TClaim) => []) l) :=
  mkCon_fn (fun x y h _ => c104_inj x y h) (l : (List TClaim)) (by simp [nz, nz1, ML_nil, encLTClaim]) rfl
@[simp] theorem c104_fn1 (s_l : Nat) (z_l : D) : c104.fn [.sl false s_l z_l []] [] = some ((fun (l : List TClaim) => l.length ≤ 1099511627776) [], (fun (l : List TClaim) => (encLTClaim l : D)) [], (fun (l : List TClaim) => []) []) :=
  mkCon_fn (fun x y h _ => c104_inj x y h) ([] : (List TClaim)) (by simp [nz, nz1, ML_nil, encLTClaim]) rfl
theorem c104_pc (l : List TClaim) (hpre : l.length ≤ 1099511627776) : PCo Try.prog 104 [encLTClaim l] (Tab.of []) (encLTClaim l) (Tab.of []) := by
  refine pco_of_run [] (E := ⟨[c175], []⟩) (m := false) (base := 0) (Env.ok_cons c175_ok Env.ok_nil) G_ok mix 300 6 Try.func104 (by kernel_rfl) rfl (by kernel_rfl) (by kernel_rfl) rfl ?_
  simp [Try.f104]
  refine ⟨by omega, ?_⟩
  refine loop_inv (fun p : Nat => p ≤ l.length) (fun p => [(0, encLTClaim l), (3, .own (0, 1) 5 0 l.length), (4, dI p)]) (fun p => [((0, 1), .arr false 5 yTClaim (ML encTClaim (l.take p ++ List.replicate (l.length - p) ⟨0, 0, 0, 0, 0⟩)))]) 2 (fun p => l.length - p) 0 100 (by simp) (by simp) (by first | (simp; done) | (simp; simp only [ML, List.map_replicate]; rfl)) ?_
  intro p hp
  simp
  refine ⟨fun hlt => ⟨by omega, by omega, Again.mk (p + 1) (by omega) (by simp [fill_step hlt]) (by first | omega | (simp; omega))⟩, fun hge => ?_⟩
  have : p = l.length := by omega
  subst this
  simp
theorem c104_ok : c104.ok Try.prog := mkCon_ok fun l hpre => c104_pc l hpre
/-- loop.example/g03007/laws.eqClaimS -/
noncomputable def c106 : Con := mkCon 106 false (α := (List TClaim) × (List TClaim)) (fun x => (fun (a : List TClaim) (b : List TClaim) => [encLTClaim a, encLTClaim b]) x.1 x.2) (fun _ => []) (fun x => (fun (a : List TClaim) (b : List TClaim) => a.length ≤ 1099511627776 ∧ b.length ≤ 1099511627776) x.1 x.2) (fun x => (fun (a : List TClaim) (b : List TClaim) => (dB (decide (a = b)) : D)) x.1 x.2) (fun x => (fun (a : List TClaim) (b : List TClaim) => []) x.1 x.2)
@[simp] theorem c106_f : c106.f = 106 := rfl
@[simp] theorem c106_own : c106.own = false := rfl
theorem c106_inj : ∀ u_ v_ : (List TClaim) × (List TClaim), ((fun x => (fun (a : List TClaim) (b : List TClaim) => [encLTClaim a, encLTClaim b]) x.1 x.2) u_).map nz = ((fun x => (fun (a : List TClaim) (b : List TClaim) => [encLTClaim a, encLTClaim b]) x.1 x.2) v_).map nz → u_ = v_ := by
  intro u_ v_ h
  obtain ⟨a, b⟩ := u_
  obtain ⟨a', b'⟩ := v_
  simp [nz_lit, nz1_lit, nz_agg, nz_sl, nz1_sl, encLTClaim] at h
  first | (simp [h]; done) | (obtain ⟨⟩ := h; simp_all; done) | simp_all
@[simp] theorem c106_fn (a : List TClaim) (b : List TClaim) : c106.fn [.sl false 5 yTClaim (ML encTClaim a), .sl false 5 yTClaim (ML encTClaim b)] [] = some ((fun (a : List TClaim) (b : List TClaim) => a.length ≤ 1099511627776 ∧ b.length ≤ 1099511627776) a b, (fun (a : List TClaim) (b : List TClaim) => (dB (decide (a = b)) : D)) a b, (fun (a : List TClaim) (b : List TClaim) => []) a b) :=
  mkCon_fn (fun x y h _ => c106_inj x y h) ((a, b) : (List TClaim) × (List TClaim)) (by simp [nz, nz1, ML_nil, encLTClaim]) rfl
@[simp] theorem c106_fn1 (s_a : Nat) (z_a : D) (b : List TClaim) : c106.fn [.sl false s_a z_a [], .sl false 5 yTClaim (ML encTClaim b)] [] = some ((fun (a : List TClaim) (b : List TClaim) => a.length ≤ 1099511627776 ∧ b.length ≤ 1099511627776) [] b, (fun (a : List TClaim) (b : List TClaim) => (dB (decide (a = b)) : D)) [] b, (fun (a : List TClaim) (b : List TClaim) => []) [] b) :=
  mkCon_fn (fun x y h _ => c106_inj x y h) (([], b) : (List TClaim) × (List TClaim)) (by simp [nz, nz1, ML_nil, encLTClaim]) rfl
@[simp] theorem c106_fn2 (a : List TClaim) (s_b : Nat) (z_b : D) : c106.fn [.sl false 5 yTClaim (ML encTClaim a), .sl false s_b z_b []] [] = some ((fun (a : List TClaim) (b : List TClaim) => a.length ≤ 1099511627776 ∧ b.length ≤ 1099511627776) a [], (fun (a : List TClaim) (b : List TClaim) => (dB (decide (a = b)) : D)) a [], (fun (a : List TClaim) (b : List TClaim) => []) a []) :=
  mkCon_fn (fun x y h _ => c106_inj x y h) ((a, []) : (List TClaim) × (List TClaim)) (by simp [nz, nz1, ML_nil, encLTClaim]) rfl
@[simp] theorem c106_fn3 (s_a : Nat) (z_a : D) (s_b : Nat) (z_b : D) : c106.fn [.sl false s_a z_a [], .sl false s_b z_b []] [] = some ((fun (a : List TClaim) (b : List TClaim) => a.length ≤ 1099511627776 ∧ b.length ≤ 1099511627776) [] [], (fun (a : List TClaim) (b : List TClaim) => (dB (decide (a = b)) : D)) [] [], (fun (a : List TClaim) (b : List TClaim) => []) [] []) :=
  mkCon_fn (fun x y h _ => c106_inj x y h) (([], []) : (List TClaim) × (List TClaim)) (by simp [nz, nz1, ML_nil, encLTClaim]) rfl
theorem c106_pc (a : List TClaim) (b : List TClaim) (hpre : a.length ≤ 1099511627776 ∧ b.length ≤ 1099511627776) : PCo Try.prog 106 [encLTClaim a, encLTClaim b] (Tab.of []) (dB (decide (a = b))) (Tab.of []) := by
  refine pco_of_run [] (E := ⟨[c177], []⟩) (m := false) (base := 0) (Env.ok_cons c177_ok Env.ok_nil) G_ok mix 300 6 Try.func106 (by kernel_rfl) rfl (by kernel_rfl) (by kernel_rfl) rfl ?_
  simp [Try.f106]
  obtain ⟨pre1, pre2⟩ := hpre
  refine ⟨fun h => ?_, fun h => by intro e; subst e; exact absurd rfl h⟩
  refine loop_inv (fun p : Nat => p ≤ a.length ∧ a.take p = b.take p) (fun p => [(0, encLTClaim a), (1, encLTClaim b), (5, dI p)]) (fun _ => []) 1 (fun p => a.length - p) 0 100 (by simp) (by simp) (by simp) ?_
  intro p ⟨hp, hi⟩
  simp
  refine ⟨fun hlt => ⟨by omega, fun h2 => ⟨by omega, Again.mk (p + 1) ⟨by omega, take_eq_step hi (by omega) (by omega) h2⟩ (by simp) (by first | omega | (simp; omega))⟩, fun h2 => by intro e; subst e; exact absurd rfl h2⟩, fun hge => ?_⟩
  exact take_eq_full hi (by omega) (by omega)
theorem c106_ok : c106.ok Try.prog := mkCon_ok fun ⟨a, b⟩ hpre => c106_pc a b hpre
def stateIs (k : Int) (x : TClaim) : Bool := decide (x.State = k)
/-- loop.example/g03007/impl.countState$1 -/
noncomputable def c211 : Con := mkCon 211 false (α := TClaim × Int) (fun x => (fun (x : TClaim) (k : Int) => ([encTClaim x, .el (dI k)] : List D)) x.1 x.2) (fun x => (fun (x : TClaim) (k : Int) => ([] : List (Nm × OO))) x.1 x.2) (fun x => (fun (x : TClaim) (k : Int) => True) x.1 x.2) (fun x => (fun (x : TClaim) (k : Int) => (dB (stateIs k x) : D)) x.1 x.2) (fun x => (fun (x : TClaim) (k : Int) => ([] : List (Nm × OO))) x.1 x.2)
@[simp] theorem c211_f : c211.f = 211 := rfl
@[simp] theorem c211_own : c211.own = false := rfl
theorem c211_inj : ∀ u_ v_ : TClaim × Int, ((fun x => (fun (x : TClaim) (k : Int) => ([encTClaim x, .el (dI k)] : List D)) x.1 x.2) u_).map nz = ((fun x => (fun (x : TClaim) (k : Int) => ([encTClaim x, .el (dI k)] : List D)) x.1 x.2) v_).map nz → (fun x => (fun (x : TClaim) (k : Int) => ([] : List (Nm × OO))) x.1 x.2) u_ = (fun x => (fun (x : TClaim) (k : Int) => ([] : List (Nm × OO))) x.1 x.2) v_ → u_ = v_ := by
  intro u_ v_ h h2_
  obtain ⟨⟨x_Id, x_Who, x_Thing, x_At, x_State⟩, k⟩ := u_
  obtain ⟨⟨x_Id', x_Who', x_Thing', x_At', x_State'⟩, k'⟩ := v_
  simp [nz_lit, nz1_lit, nz_agg, nz_sl, nz1_sl, nz_sx, nz_el, nz1_el, nz_own, nz1_own, nz_ptr, nz_fn, nz_iface] at h h2_
  first | (simp [h, h2_]; done) | simp_all | grind
@[simp] theorem c211_fn (x_Id : Int) (x_Who : Int) (x_Thing : Int) (x_At : Int) (x_State : Int) (k : Int) : c211.fn ([.agg [.lit (.int .i64 x_Id), .lit (.int .i64 x_Who), .lit (.int .i64 x_Thing), .lit (.int .i64 x_At), .lit (.int .i64 x_State)], .el (dI k)]) ([]) = some (True, dB (stateIs k (⟨x_Id, x_Who, x_Thing, x_At, x_State⟩ : TClaim)), []) :=
  mkCon_fn c211_inj ((⟨x_Id, x_Who, x_Thing, x_At, x_State⟩, k) : TClaim × Int) rfl rfl
theorem c211_pc (x : TClaim) (k : Int) : PCo Try.prog 211 ([encTClaim x, .el (dI k)]) (Tab.of ([])) (dB (stateIs k x)) (Tab.of ([])) := by
  refine pco_of_run [] (E := ⟨[], []⟩) (m := false) (base := 0) Env.ok_nil G_ok mix 300 6 Try.func211 (by kernel_rfl) rfl (by kernel_rfl) (by kernel_rfl) rfl ?_
  simp [Try.f211]
  first | done | rfl
theorem c211_ok : c211.ok Try.prog := mkCon_ok fun ⟨x, k⟩ hpre => c211_pc x k
/-- loop.example/g03007/impl.countWhere[loop.example/g03007/impl.Claim] -/
noncomputable def c210 : Con := mkCon 210 false (α := (List TClaim) × Int) (fun x => (fun (l : List TClaim) (k : Int) => ([encLTClaim l, .fn (.func 211) [] [.el (dI k)]] : List D)) x.1 x.2) (fun x => (fun (l : List TClaim) (k : Int) => ([] : List (Nm × OO))) x.1 x.2) (fun x => (fun (l : List TClaim) (k : Int) => l.length ≤ 1099511627776) x.1 x.2) (fun x => (fun (l : List TClaim) (k : Int) => (dI (l.countP (stateIs k)) : D)) x.1 x.2) (fun x => (fun (l : List TClaim) (k : Int) => ([] : List (Nm × OO))) x.1 x.2)
@[simp] theorem c210_f : c210.f = 210 := rfl
@[simp] theorem c210_own : c210.own = false := rfl
theorem c210_inj : ∀ u_ v_ : (List TClaim) × Int, ((fun x => (fun (l : List TClaim) (k : Int) => ([encLTClaim l, .fn (.func 211) [] [.el (dI k)]] : List D)) x.1 x.2) u_).map nz = ((fun x => (fun (l : List TClaim) (k : Int) => ([encLTClaim l, .fn (.func 211) [] [.el (dI k)]] : List D)) x.1 x.2) v_).map nz → (fun x => (fun (l : List TClaim) (k : Int) => ([] : List (Nm × OO))) x.1 x.2) u_ = (fun x => (fun (l : List TClaim) (k : Int) => ([] : List (Nm × OO))) x.1 x.2) v_ → u_ = v_ := by
  intro u_ v_ h h2_
  obtain ⟨l, k⟩ := u_
  obtain ⟨l', k'⟩ := v_
  simp [nz_lit, nz1_lit, nz_agg, nz_sl, nz1_sl, nz_sx, nz_el, nz1_el, nz_own, nz1_own, nz_ptr, nz_fn, nz_iface] at h h2_
  first | (simp [h, h2_]; done) | simp_all | grind
@[simp] theorem c210_fn (l : List TClaim) (k : Int) : c210.fn ([(.sl false 5 yTClaim (ML encTClaim l)), .fn (.func 211) [] [.el (dI k)]]) ([]) = some (l.length ≤ 1099511627776, dI (l.countP (stateIs k)), []) :=
  mkCon_fn c210_inj ((l, k) : (List TClaim) × Int) rfl rfl
theorem c210_pc (l : List TClaim) (k : Int) (hpre : l.length ≤ 1099511627776) : PCo Try.prog 210 ([encLTClaim l, .fn (.func 211) [] [.el (dI k)]]) (Tab.of ([])) (dI (l.countP (stateIs k))) (Tab.of ([])) := by
  refine pco_of_run [] (E := ⟨[c211], []⟩) (m := false) (base := 0) (Env.ok_cons c211_ok Env.ok_nil) G_ok mix 300 6 Try.func210 (by kernel_rfl) rfl (by kernel_rfl) (by kernel_rfl) rfl ?_
  simp [Try.f210]
  refine loop_inv (fun p : Nat => p ≤ l.length) (fun p => [(1, .fn (.func 211) [] [.el (dI k)]), (5, dI ((l.take p).countP (stateIs k))), (8, encLTClaim l), (9, dI l.length), (10, dI p)]) (fun _ => []) 1 (fun p => l.length - p) 0 400 (by simp) (by simp) (by simp) ?_
  intro p hp
  simp
  refine ⟨fun hlt => ?_, fun hge => ?_⟩
  · have hs := countP_at (want := stateIs k) (d := default) hlt
    have hb := countP_take (want := stateIs k) (l := l) (p := p)
    repeat' (first | omega | refine And.intro ?_ ?_ | intro _)
    all_goals (rename_i hw; refine Again.mk (p + 1) (by omega) (by simp [hs, hw]) (by first | omega | (simp; omega)))
  · rw [List.take_of_length_le hge]
theorem c210_ok : c210.ok Try.prog := mkCon_ok fun ⟨l, k⟩ hpre => c210_pc l k hpre
/-- loop.example/g03007/impl.countState -/
noncomputable def c176 : Con := mkCon 176 false (α := (List TClaim) × Int) (fun x => (fun (l : List TClaim) (k : Int) => [encLTClaim l, dI k]) x.1 x.2) (fun _ => []) (fun x => (fun (l : List TClaim) (k : Int) => l.length ≤ 1099511627776) x.1 x.2) (fun x => (fun (l : List TClaim) (k : Int) => (dI (l.countP (stateIs k)) : D)) x.1 x.2) (fun x => (fun (l : List TClaim) (k : Int) => []) x.1 x.2)
@[simp] theorem c176_f : c176.f = 176 := rfl
@[simp] theorem c176_own : c176.own = false := rfl
theorem c176_inj : ∀ u_ v_ : (List TClaim) × Int, ((fun x => (fun (l : List TClaim) (k : Int) => [encLTClaim l, dI k]) x.1 x.2) u_).map nz = ((fun x => (fun (l : List TClaim) (k : Int) => [encLTClaim l, dI k]) x.1 x.2) v_).map nz → u_ = v_ := by
  intro u_ v_ h
  obtain ⟨l, k⟩ := u_
  obtain ⟨l', k'⟩ := v_
  simp [nz_lit, nz1_lit, nz_agg, nz_sl, nz1_sl, encLTClaim] at h
  first | (simp [h]; done) | (obtain ⟨⟩ := h; simp_all; done) | simp_all
@[simp] theorem c176_fn (l : List TClaim) (k : Int) : c176.fn [.sl false 5 yTClaim (ML encTClaim l), .lit (.int .i64 k)] [] = some ((fun (l : List TClaim) (k : Int) => l.length ≤ 1099511627776) l k, (fun (l : List TClaim) (k : Int) => (dI (l.countP (stateIs k)) : D)) l k, (fun (l : List TClaim) (k : Int) => []) l k) :=
  mkCon_fn (fun x y h _ => c176_inj x y h) ((l, k) : (List TClaim) × Int) (by simp [nz, nz1, ML_nil, encLTClaim]) rfl
@[simp] theorem c176_fn1 (s_l : Nat) (z_l : D) (k : Int) : c176.fn [.sl false s_l z_l [], .lit (.int .i64 k)] [] = some ((fun (l : List TClaim) (k : Int) => l.length ≤ 1099511627776) [] k, (fun (l : List TClaim) (k : Int) => (dI (l.countP (stateIs k)) : D)) [] k, (fun (l : List TClaim) (k : Int) => []) [] k) :=
  mkCon_fn (fun x y h _ => c176_inj x y h) (([], k) : (List TClaim) × Int) (by simp [nz, nz1, ML_nil, encLTClaim]) rfl
theorem c176_pc (l : List TClaim) (k : Int) (hpre : l.length ≤ 1099511627776) : PCo Try.prog 176 [encLTClaim l, dI k] (Tab.of []) (dI (l.countP (stateIs k))) (Tab.of []) := by
  refine pco_of_run [] (E := ⟨[c210, c211], []⟩) (m := false) (base := 0) (Env.ok_cons c210_ok (Env.ok_cons c211_ok Env.ok_nil)) G_ok mix 300 6 Try.func176 (by kernel_rfl) rfl (by kernel_rfl) (by kernel_rfl) rfl ?_
  simp [Try.f176]
  exact hpre
theorem c176_ok : c176.ok Try.prog := mkCon_ok fun ⟨l, k⟩ hpre => c176_pc l k hpre
/-- loop.example/g03007/impl.OpenClaims -/
noncomputable def c105 : Con := mkCon 105 false (α := (List TClaim)) (fun x => (fun (l : List TClaim) => [encLTClaim l]) x) (fun _ => []) (fun x => (fun (l : List TClaim) => l.length ≤ 1099511627776) x) (fun x => (fun (l : List TClaim) => (dI (l.countP (stateIs 0)) : D)) x) (fun x => (fun (l : List TClaim) => []) x)
@[simp] theorem c105_f : c105.f = 105 := rfl
@[simp] theorem c105_own : c105.own = false := rfl
theorem c105_inj : ∀ u_ v_ : (List TClaim), ((fun x => (fun (l : List TClaim) => [encLTClaim l]) x) u_).map nz = ((fun x => (fun (l : List TClaim) => [encLTClaim l]) x) v_).map nz → u_ = v_ := by
  intro u_ v_ h
  obtain l := u_
  obtain l' := v_
  simp [nz_lit, nz1_lit, nz_agg, nz_sl, nz1_sl, encLTClaim] at h
  first | (simp [h]; done) | (obtain ⟨⟩ := h; simp_all; done) | simp_all
@[simp] theorem c105_fn (l : List TClaim) : c105.fn [.sl false 5 yTClaim (ML encTClaim l)] [] = some ((fun (l : List TClaim) => l.length ≤ 1099511627776) l, (fun (l : List TClaim) => (dI (l.countP (stateIs 0)) : D)) l, (fun (l : List TClaim) => []) l) :=
  mkCon_fn (fun x y h _ => c105_inj x y h) (l : (List TClaim)) (by simp [nz, nz1, ML_nil, encLTClaim]) rfl
@[simp] theorem c105_fn1 (s_l : Nat) (z_l : D) : c105.fn [.sl false s_l z_l []] [] = some ((fun (l : List TClaim) => l.length ≤ 1099511627776) [], (fun (l : List TClaim) => (dI (l.countP (stateIs 0)) : D)) [], (fun (l : List TClaim) => []) []) :=
  mkCon_fn (fun x y h _ => c105_inj x y h) ([] : (List TClaim)) (by simp [nz, nz1, ML_nil, encLTClaim]) rfl
theorem c105_pc (l : List TClaim) (hpre : l.length ≤ 1099511627776) : PCo Try.prog 105 [encLTClaim l] (Tab.of []) (dI (l.countP (stateIs 0))) (Tab.of []) := by
  refine pco_of_run [] (E := ⟨[c176], []⟩) (m := false) (base := 0) (Env.ok_cons c176_ok Env.ok_nil) G_ok mix 300 6 Try.func105 (by kernel_rfl) rfl (by kernel_rfl) (by kernel_rfl) rfl ?_
  simp [Try.f105]
  exact hpre
theorem c105_ok : c105.ok Try.prog := mkCon_ok fun l hpre => c105_pc l hpre
/-- loop.example/g03007/spec.OpenClaims -/
noncomputable def c103 : Con := mkCon 103 false (α := (List TClaim)) (fun x => (fun (l : List TClaim) => [encLTClaim l]) x) (fun _ => []) (fun x => (fun (l : List TClaim) => l.length ≤ 1099511627776) x) (fun x => (fun (l : List TClaim) => (dI (l.countP (stateIs 0)) : D)) x) (fun x => (fun (l : List TClaim) => []) x)
@[simp] theorem c103_f : c103.f = 103 := rfl
@[simp] theorem c103_own : c103.own = false := rfl
theorem c103_inj : ∀ u_ v_ : (List TClaim), ((fun x => (fun (l : List TClaim) => [encLTClaim l]) x) u_).map nz = ((fun x => (fun (l : List TClaim) => [encLTClaim l]) x) v_).map nz → u_ = v_ := by
  intro u_ v_ h
  obtain l := u_
  obtain l' := v_
  simp [nz_lit, nz1_lit, nz_agg, nz_sl, nz1_sl, encLTClaim] at h
  first | (simp [h]; done) | (obtain ⟨⟩ := h; simp_all; done) | simp_all
@[simp] theorem c103_fn (l : List TClaim) : c103.fn [.sl false 5 yTClaim (ML encTClaim l)] [] = some ((fun (l : List TClaim) => l.length ≤ 1099511627776) l, (fun (l : List TClaim) => (dI (l.countP (stateIs 0)) : D)) l, (fun (l : List TClaim) => []) l) :=
  mkCon_fn (fun x y h _ => c103_inj x y h) (l : (List TClaim)) (by simp [nz, nz1, ML_nil, encLTClaim]) rfl
@[simp] theorem c103_fn1 (s_l : Nat) (z_l : D) : c103.fn [.sl false s_l z_l []] [] = some ((fun (l : List TClaim) => l.length ≤ 1099511627776) [], (fun (l : List TClaim) => (dI (l.countP (stateIs 0)) : D)) [], (fun (l : List TClaim) => []) []) :=
  mkCon_fn (fun x y h _ => c103_inj x y h) ([] : (List TClaim)) (by simp [nz, nz1, ML_nil, encLTClaim]) rfl
theorem c103_pc (l : List TClaim) (hpre : l.length ≤ 1099511627776) : PCo Try.prog 103 [encLTClaim l] (Tab.of []) (dI (l.countP (stateIs 0))) (Tab.of []) := by
  refine pco_of_run [] (E := ⟨[], []⟩) (m := false) (base := 0) Env.ok_nil G_ok mix 300 6 Try.func103 (by kernel_rfl) rfl (by kernel_rfl) (by kernel_rfl) rfl ?_
  simp [Try.f103]
  refine loop_inv (fun p : Nat => p ≤ l.length) (fun p => [(0, encLTClaim l), (3, dI ((l.take p).countP (stateIs 0))), (4, dI p)]) (fun _ => []) 1 (fun p => l.length - p) 0 400 (by simp) (by simp) (by simp) ?_
  intro p hp
  simp
  refine ⟨fun hlt => ?_, fun hge => ?_⟩
  · have hs := countP_at (want := stateIs 0) (d := default) hlt
    have hb := countP_take (want := stateIs 0) (l := l) (p := p)
    repeat' (first | omega | refine And.intro ?_ ?_ | intro _)
    all_goals (rename_i hw; refine Again.mk (p + 1) (by omega) (by simp [hs, stateIs, hw]) (by first | omega | (simp; omega)))
  · rw [List.take_of_length_le hge]
theorem c103_ok : c103.ok Try.prog := mkCon_ok fun l hpre => c103_pc l hpre
/-- loop.example/g03007/laws.FnExactOpenClaims -/
theorem law26 (l : List TClaim) (wl : wfLTClaim l) : PCo Try.prog 26 [encLTClaim l] (Tab.of []) (dB true) (Tab.of []) := by
  refine pco_of_run [] (E := ⟨[c102, c103, c104, c105, c106], []⟩) (m := false) (base := 0) (Env.ok_cons c102_ok (Env.ok_cons c103_ok (Env.ok_cons c104_ok (Env.ok_cons c105_ok (Env.ok_cons c106_ok Env.ok_nil))))) G_ok mix 400 6 Try.func26 (by kernel_rfl) rfl (by kernel_rfl) (by kernel_rfl) rfl ?_
  simp [Try.f26]
  have h_l : l.length ≤ maxLen := wl.1
  repeat' (first | omega | assumption | refine And.intro ?_ ?_ | intro _)
  all_goals first | omega | grind | (split at * <;> omega)
theorem law26_pc (D0 : D) (h0 : Sh G 9 111 D0) : PC Try.prog 26 [D0] (dB true) [] := by
  obtain ⟨l, rfl, wl⟩ := sh111 (n := 6) h0
  exact law26 l wl

end Go.Proofs.Ytadipfpojlceeaa
