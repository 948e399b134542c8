/- Contracts of the functions that the laws run. -/
import Derived.Test.Ytnnieeojfdjcoaach12b
import Derived.Test.YtnnieeojfdjcoaaEngB
namespace Go.Proofs.Ytnnieeojfdjcoaa
open Go Go.Eng
set_option linter.unusedSimpArgs false
set_option linter.unusedVariables false
set_option maxRecDepth 10000
set_option maxHeartbeats 1000000
/-- loop.example/g03007/laws.toClaim -/
noncomputable def c74 : Con := mkCon 74 false (α := TClaim) (fun x => (fun (a : TClaim) => [encTClaim a]) x) (fun _ => []) (fun x => (fun (a : TClaim) => True) x) (fun x => (fun (a : TClaim) => (encTClaim a : D)) x) (fun x => (fun (a : TClaim) => []) x)
@[simp] theorem c74_f : c74.f = 74 := rfl
@[simp] theorem c74_own : c74.own = false := rfl
theorem c74_inj : ∀ u_ v_ : TClaim, ((fun x => (fun (a : TClaim) => [encTClaim a]) x) u_).map nz = ((fun x => (fun (a : TClaim) => [encTClaim a]) x) v_).map nz → u_ = v_ := by
  intro u_ v_ h
  obtain ⟨a_Id, a_Who, a_Thing, a_At, a_State⟩ := u_
  obtain ⟨a_Id', a_Who', a_Thing', a_At', a_State'⟩ := v_
  simp [nz_lit, nz1_lit, nz_agg, nz_sl, nz1_sl, encTClaim] at h
  first | (simp [h]; done) | (obtain ⟨⟩ := h; simp_all; done) | simp_all
@[simp] theorem c74_fn (a_Id : Int) (a_Who : Int) (a_Thing : Int) (a_At : Int) (a_State : Int) : c74.fn [.agg [.lit (.int .i64 a_Id), .lit (.int .i64 a_Who), .lit (.int .i64 a_Thing), .lit (.int .i64 a_At), .lit (.int .i64 a_State)]] [] = some ((fun (a : TClaim) => True) ⟨a_Id, a_Who, a_Thing, a_At, a_State⟩, (fun (a : TClaim) => (encTClaim a : D)) ⟨a_Id, a_Who, a_Thing, a_At, a_State⟩, (fun (a : TClaim) => []) ⟨a_Id, a_Who, a_Thing, a_At, a_State⟩) :=
  mkCon_fn (fun x y h _ => c74_inj x y h) (⟨a_Id, a_Who, a_Thing, a_At, a_State⟩ : TClaim) (by simp [nz, nz1, ML_nil, encTClaim]) rfl
theorem c74_pc (a : TClaim) : PCo Try.prog 74 [encTClaim a] (Tab.of []) (encTClaim a) (Tab.of []) := by
  obtain ⟨a_Id, a_Who, a_Thing, a_At, a_State⟩ := a
  refine pco_of_run [] (E := ⟨[], []⟩) (m := false) (base := 0) Env.ok_nil G_ok mix 300 6 Try.func74 (by kernel_rfl) rfl (by kernel_rfl) (by kernel_rfl) rfl ?_
  simp [Try.f74]
  all_goals first | omega | (rw [Bool.eq_iff_iff]; simp; omega) | grind
theorem c74_ok : c74.ok Try.prog := mkCon_ok fun a hpre => c74_pc a
/-- loop.example/g03007/laws.eqClaim -/
noncomputable def c139 : Con := mkCon 139 false (α := TClaim × TClaim) (fun x => (fun (a : TClaim) (b : TClaim) => [encTClaim a, encTClaim b]) x.1 x.2) (fun _ => []) (fun x => (fun (a : TClaim) (b : TClaim) => True) x.1 x.2) (fun x => (fun (a : TClaim) (b : TClaim) => (dB (decide (a = b)) : D)) x.1 x.2) (fun x => (fun (a : TClaim) (b : TClaim) => []) x.1 x.2)
@[simp] theorem c139_f : c139.f = 139 := rfl
@[simp] theorem c139_own : c139.own = false := rfl
theorem c139_inj : ∀ u_ v_ : TClaim × TClaim, ((fun x => (fun (a : TClaim) (b : TClaim) => [encTClaim a, encTClaim b]) x.1 x.2) u_).map nz = ((fun x => (fun (a : TClaim) (b : TClaim) => [encTClaim a, encTClaim b]) x.1 x.2) v_).map nz → u_ = v_ := by
  intro u_ v_ h
  obtain ⟨⟨a_Id, a_Who, a_Thing, a_At, a_State⟩, ⟨b_Id, b_Who, b_Thing, b_At, b_State⟩⟩ := u_
  obtain ⟨⟨a_Id', a_Who', a_Thing', a_At', a_State'⟩, ⟨b_Id', b_Who', b_Thing', b_At', b_State'⟩⟩ := v_
  simp [nz_lit, nz1_lit, nz_agg, nz_sl, nz1_sl, encTClaim] at h
  first | (simp [h]; done) | (obtain ⟨⟩ := h; simp_all; done) | simp_all
@[simp] theorem c139_fn (a_Id : Int) (a_Who : Int) (a_Thing : Int) (a_At : Int) (a_State : Int) (b_Id : Int) (b_Who : Int) (b_Thing : Int) (b_At : Int) (b_State : Int) : c139.fn [.agg [.lit (.int .i64 a_Id), .lit (.int .i64 a_Who), .lit (.int .i64 a_Thing), .lit (.int .i64 a_At), .lit (.int .i64 a_State)], .agg [.lit (.int .i64 b_Id), .lit (.int .i64 b_Who), .lit (.int .i64 b_Thing), .lit (.int .i64 b_At), .lit (.int .i64 b_State)]] [] = some ((fun (a : TClaim) (b : TClaim) => True) ⟨a_Id, a_Who, a_Thing, a_At, a_State⟩ ⟨b_Id, b_Who, b_Thing, b_At, b_State⟩, (fun (a : TClaim) (b : TClaim) => (dB (decide (a = b)) : D)) ⟨a_Id, a_Who, a_Thing, a_At, a_State⟩ ⟨b_Id, b_Who, b_Thing, b_At, b_State⟩, (fun (a : TClaim) (b : TClaim) => []) ⟨a_Id, a_Who, a_Thing, a_At, a_State⟩ ⟨b_Id, b_Who, b_Thing, b_At, b_State⟩) :=
  mkCon_fn (fun x y h _ => c139_inj x y h) ((⟨a_Id, a_Who, a_Thing, a_At, a_State⟩, ⟨b_Id, b_Who, b_Thing, b_At, b_State⟩) : TClaim × TClaim) (by simp [nz, nz1, ML_nil, encTClaim]) rfl
theorem c139_pc (a : TClaim) (b : TClaim) : PCo Try.prog 139 [encTClaim a, encTClaim b] (Tab.of []) (dB (decide (a = b))) (Tab.of []) := by
  obtain ⟨a_Id, a_Who, a_Thing, a_At, a_State⟩ := a
  obtain ⟨b_Id, b_Who, b_Thing, b_At, b_State⟩ := b
  refine pco_of_run [] (E := ⟨[], []⟩) (m := false) (base := 0) Env.ok_nil G_ok mix 300 6 Try.func139 (by kernel_rfl) rfl (by kernel_rfl) (by kernel_rfl) rfl ?_
  simp [Try.f139]
  all_goals first | omega | (rw [Bool.eq_iff_iff]; simp; omega) | grind
theorem c139_ok : c139.ok Try.prog := mkCon_ok fun ⟨a, b⟩ hpre => c139_pc a b
/-- loop.example/g03007/laws.szClaimS -/
noncomputable def c66 : Con := mkCon 66 false (α := (List TClaim) × Int) (fun x => (fun (l : List TClaim) (left : Int) => [encLTClaim l, dI left]) x.1 x.2) (fun _ => []) (fun x => (fun (l : List TClaim) (left : Int) => l.length ≤ maxLen ∧ 0 ≤ left ∧ left ≤ 1099511627776) x.1 x.2) (fun x => (fun (l : List TClaim) (left : Int) => (dI (if left - l.length < 0 then -1 else left - l.length) : D)) x.1 x.2) (fun x => (fun (l : List TClaim) (left : Int) => []) x.1 x.2)
@[simp] theorem c66_f : c66.f = 66 := rfl
@[simp] theorem c66_own : c66.own = false := rfl
theorem c66_inj : ∀ u_ v_ : (List TClaim) × Int, ((fun x => (fun (l : List TClaim) (left : Int) => [encLTClaim l, dI left]) x.1 x.2) u_).map nz = ((fun x => (fun (l : List TClaim) (left : Int) => [encLTClaim l, dI left]) x.1 x.2) v_).map nz → u_ = v_ := by
  intro u_ v_ h
  obtain ⟨l, left⟩ := u_
  obtain ⟨l', left'⟩ := v_
  simp [nz_lit, nz1_lit, nz_agg, nz_sl, nz1_sl, encLTClaim] at h
  first | (simp [h]; done) | (obtain ⟨⟩ := h; simp_all; done) | simp_all
@[simp] theorem c66_fn (l : List TClaim) (left : Int) : c66.fn [.sl false 5 yTClaim (ML encTClaim l), .lit (.int .i64 left)] [] = some ((fun (l : List TClaim) (left : Int) => l.length ≤ maxLen ∧ 0 ≤ left ∧ left ≤ 1099511627776) l left, (fun (l : List TClaim) (left : Int) => (dI (if left - l.length < 0 then -1 else left - l.length) : D)) l left, (fun (l : List TClaim) (left : Int) => []) l left) :=
  mkCon_fn (fun x y h _ => c66_inj x y h) ((l, left) : (List TClaim) × Int) (by simp [nz, nz1, ML_nil, encLTClaim]) rfl
@[simp] theorem c66_fn1 (s_l : Nat) (z_l : D) (left : Int) : c66.fn [.sl false s_l z_l [], .lit (.int .i64 left)] [] = some ((fun (l : List TClaim) (left : Int) => l.length ≤ maxLen ∧ 0 ≤ left ∧ left ≤ 1099511627776) [] left, (fun (l : List TClaim) (left : Int) => (dI (if left - l.length < 0 then -1 else left - l.length) : D)) [] left, (fun (l : List TClaim) (left : Int) => []) [] left) :=
  mkCon_fn (fun x y h _ => c66_inj x y h) (([], left) : (List TClaim) × Int) (by simp [nz, nz1, ML_nil, encLTClaim]) rfl
theorem c66_pc (l : List TClaim) (left : Int) (hpre : l.length ≤ maxLen ∧ 0 ≤ left ∧ left ≤ 1099511627776) : PCo Try.prog 66 [encLTClaim l, dI left] (Tab.of []) (dI (if left - l.length < 0 then -1 else left - l.length)) (Tab.of []) := by
  refine pco_of_run [] (E := ⟨[], []⟩) (m := false) (base := 0) Env.ok_nil G_ok mix 300 6 Try.func66 (by kernel_rfl) rfl (by kernel_rfl) (by kernel_rfl) rfl ?_
  simp [Try.f66]
  simp [maxLen] at hpre
  all_goals omega
theorem c66_ok : c66.ok Try.prog := mkCon_ok fun ⟨l, left⟩ hpre => c66_pc l left hpre
/-- loop.example/g03007/laws.toClaimS -/
noncomputable def c68 : Con := mkCon 68 false (α := (List TClaim)) (fun x => (fun (l : List TClaim) => [encLTClaim l]) x) (fun _ => []) (fun x => (fun (l : List TClaim) => l.length ≤ 1099511627776) x) (fun x => (fun (l : List TClaim) => (encLTClaim l : D)) x) (fun x => (fun (l : List TClaim) => []) x)
@[simp] theorem c68_f : c68.f = 68 := rfl
@[simp] theorem c68_own : c68.own = false := rfl
theorem c68_inj : ∀ u_ v_ : (List TClaim), ((fun x => (fun (l : List TClaim) => [encLTClaim l]) x) u_).map nz = ((fun x => (fun (l : List TClaim) => [encLTClaim l]) x) v_).map nz → u_ = v_ := by
  intro u_ v_ h
  obtain l := u_
  obtain l' := v_
  simp [nz_lit, nz1_lit, nz_agg, nz_sl, nz1_sl, encLTClaim] at h
  first | (simp [h]; done) | (obtain ⟨⟩ := h; simp_all; done) | simp_all
@[simp] theorem c68_fn (l : List TClaim) : c68.fn [.sl false 5 yTClaim (ML encTClaim l)] [] = some ((fun (l : List TClaim) => l.length ≤ 1099511627776) l, (fun (l : List TClaim) => (encLTClaim l : D)) l, (fun (l : List TClaim) => []) l) :=
  mkCon_fn (fun x y h _ => c68_inj x y h) (l : (List TClaim)) (by simp [nz, nz1, ML_nil, encLTClaim]) rfl
@[simp] theorem c68_fn1 (s_l : Nat) (z_l : D) : c68.fn [.sl false s_l z_l []] [] = some ((fun (l : List TClaim) => l.length ≤ 1099511627776) [], (fun (l : List TClaim) => (encLTClaim l : D)) [], (fun (l : List TClaim) => []) []) :=
  mkCon_fn (fun x y h _ => c68_inj x y h) ([] : (List TClaim)) (by simp [nz, nz1, ML_nil, encLTClaim]) rfl
theorem c68_pc (l : List TClaim) (hpre : l.length ≤ 1099511627776) : PCo Try.prog 68 [encLTClaim l] (Tab.of []) (encLTClaim l) (Tab.of []) := by
  refine pco_of_run [] (E := ⟨[c74], []⟩) (m := false) (base := 0) (Env.ok_cons c74_ok Env.ok_nil) G_ok mix 300 6 Try.func68 (by kernel_rfl) rfl (by kernel_rfl) (by kernel_rfl) rfl ?_
  simp [Try.f68]
  refine ⟨by omega, ?_⟩
  refine loop_inv (fun p : Nat => p ≤ l.length) (fun p => [(0, encLTClaim l), (3, .own (0, 1) 5 0 l.length), (4, dI p)]) (fun p => [((0, 1), .arr false 5 yTClaim (ML encTClaim (l.take p ++ List.replicate (l.length - p) ⟨0, 0, 0, 0, 0⟩)))]) 2 (fun p => l.length - p) 0 100 (by simp) (by simp) (by first | (simp; done) | (simp; simp only [ML, List.map_replicate]; rfl)) ?_
  intro p hp
  simp
  refine ⟨fun hlt => ⟨by omega, by omega, Again.mk (p + 1) (by omega) (by simp [fill_step hlt]) (by first | omega | (simp; omega))⟩, fun hge => ?_⟩
  have : p = l.length := by omega
  subst this
  simp
theorem c68_ok : c68.ok Try.prog := mkCon_ok fun l hpre => c68_pc l hpre
/-- loop.example/g03007/laws.eqClaimS -/
noncomputable def c70 : Con := mkCon 70 false (α := (List TClaim) × (List TClaim)) (fun x => (fun (a : List TClaim) (b : List TClaim) => [encLTClaim a, encLTClaim b]) x.1 x.2) (fun _ => []) (fun x => (fun (a : List TClaim) (b : List TClaim) => a.length ≤ 1099511627776 ∧ b.length ≤ 1099511627776) x.1 x.2) (fun x => (fun (a : List TClaim) (b : List TClaim) => (dB (decide (a = b)) : D)) x.1 x.2) (fun x => (fun (a : List TClaim) (b : List TClaim) => []) x.1 x.2)
@[simp] theorem c70_f : c70.f = 70 := rfl
@[simp] theorem c70_own : c70.own = false := rfl
theorem c70_inj : ∀ u_ v_ : (List TClaim) × (List TClaim), ((fun x => (fun (a : List TClaim) (b : List TClaim) => [encLTClaim a, encLTClaim b]) x.1 x.2) u_).map nz = ((fun x => (fun (a : List TClaim) (b : List TClaim) => [encLTClaim a, encLTClaim b]) x.1 x.2) v_).map nz → u_ = v_ := by
  intro u_ v_ h
  obtain ⟨a, b⟩ := u_
  obtain ⟨a', b'⟩ := v_
  simp [nz_lit, nz1_lit, nz_agg, nz_sl, nz1_sl, encLTClaim] at h
  first | (simp [h]; done) | (obtain ⟨⟩ := h; simp_all; done) | simp_all
@[simp] theorem c70_fn (a : List TClaim) (b : List TClaim) : c70.fn [.sl false 5 yTClaim (ML encTClaim a), .sl false 5 yTClaim (ML encTClaim b)] [] = some ((fun (a : List TClaim) (b : List TClaim) => a.length ≤ 1099511627776 ∧ b.length ≤ 1099511627776) a b, (fun (a : List TClaim) (b : List TClaim) => (dB (decide (a = b)) : D)) a b, (fun (a : List TClaim) (b : List TClaim) => []) a b) :=
  mkCon_fn (fun x y h _ => c70_inj x y h) ((a, b) : (List TClaim) × (List TClaim)) (by simp [nz, nz1, ML_nil, encLTClaim]) rfl
@[simp] theorem c70_fn1 (s_a : Nat) (z_a : D) (b : List TClaim) : c70.fn [.sl false s_a z_a [], .sl false 5 yTClaim (ML encTClaim b)] [] = some ((fun (a : List TClaim) (b : List TClaim) => a.length ≤ 1099511627776 ∧ b.length ≤ 1099511627776) [] b, (fun (a : List TClaim) (b : List TClaim) => (dB (decide (a = b)) : D)) [] b, (fun (a : List TClaim) (b : List TClaim) => []) [] b) :=
  mkCon_fn (fun x y h _ => c70_inj x y h) (([], b) : (List TClaim) × (List TClaim)) (by simp [nz, nz1, ML_nil, encLTClaim]) rfl
@[simp] theorem c70_fn2 (a : List TClaim) (s_b : Nat) (z_b : D) : c70.fn [.sl false 5 yTClaim (ML encTClaim a), .sl false s_b z_b []] [] = some ((fun (a : List TClaim) (b : List TClaim) => a.length ≤ 1099511627776 ∧ b.length ≤ 1099511627776) a [], (fun (a : List TClaim) (b : List TClaim) => (dB (decide (a = b)) : D)) a [], (fun (a : List TClaim) (b : List TClaim) => []) a []) :=
  mkCon_fn (fun x y h _ => c70_inj x y h) ((a, []) : (List TClaim) × (List TClaim)) (by simp [nz, nz1, ML_nil, encLTClaim]) rfl
@[simp] theorem c70_fn3 (s_a : Nat) (z_a : D) (s_b : Nat) (z_b : D) : c70.fn [.sl false s_a z_a [], .sl false s_b z_b []] [] = some ((fun (a : List TClaim) (b : List TClaim) => a.length ≤ 1099511627776 ∧ b.length ≤ 1099511627776) [] [], (fun (a : List TClaim) (b : List TClaim) => (dB (decide (a = b)) : D)) [] [], (fun (a : List TClaim) (b : List TClaim) => []) [] []) :=
  mkCon_fn (fun x y h _ => c70_inj x y h) (([], []) : (List TClaim) × (List TClaim)) (by simp [nz, nz1, ML_nil, encLTClaim]) rfl
theorem c70_pc (a : List TClaim) (b : List TClaim) (hpre : a.length ≤ 1099511627776 ∧ b.length ≤ 1099511627776) : PCo Try.prog 70 [encLTClaim a, encLTClaim b] (Tab.of []) (dB (decide (a = b))) (Tab.of []) := by
  refine pco_of_run [] (E := ⟨[c139], []⟩) (m := false) (base := 0) (Env.ok_cons c139_ok Env.ok_nil) G_ok mix 300 6 Try.func70 (by kernel_rfl) rfl (by kernel_rfl) (by kernel_rfl) rfl ?_
  simp [Try.f70]
  obtain ⟨pre1, pre2⟩ := hpre
  refine ⟨fun h => ?_, fun h => by intro e; subst e; exact absurd rfl h⟩
  refine loop_inv (fun p : Nat => p ≤ a.length ∧ a.take p = b.take p) (fun p => [(0, encLTClaim a), (1, encLTClaim b), (5, dI p)]) (fun _ => []) 1 (fun p => a.length - p) 0 100 (by simp) (by simp) (by simp) ?_
  intro p ⟨hp, hi⟩
  simp
  refine ⟨fun hlt => ⟨by omega, fun h2 => ⟨by omega, Again.mk (p + 1) ⟨by omega, take_eq_step hi (by omega) (by omega) h2⟩ (by simp) (by first | omega | (simp; omega))⟩, fun h2 => by intro e; subst e; exact absurd rfl h2⟩, fun hge => ?_⟩
  exact take_eq_full hi (by omega) (by omega)
theorem c70_ok : c70.ok Try.prog := mkCon_ok fun ⟨a, b⟩ hpre => c70_pc a b hpre
@[simp] def nClaim (x : TClaim) : Int := x.Id
/-- loop.example/g03007/impl.claimsInOrder -/
noncomputable def c134 : Con := mkCon 134 false (α := (List TClaim)) (fun x => (fun (l : List TClaim) => [encLTClaim l]) x) (fun _ => []) (fun x => (fun (l : List TClaim) => True) x) (fun x => (fun (l : List TClaim) => (.agg [.sl false 5 yTClaim (ML encTClaim l), .fn (.func 176) [] []] : D)) x) (fun x => (fun (l : List TClaim) => []) x)
@[simp] theorem c134_f : c134.f = 134 := rfl
@[simp] theorem c134_own : c134.own = false := rfl
theorem c134_inj : ∀ u_ v_ : (List TClaim), ((fun x => (fun (l : List TClaim) => [encLTClaim l]) x) u_).map nz = ((fun x => (fun (l : List TClaim) => [encLTClaim l]) x) v_).map nz → u_ = v_ := by
  intro u_ v_ h
  obtain l := u_
  obtain l' := v_
  simp [nz_lit, nz1_lit, nz_agg, nz_sl, nz1_sl, encLTClaim] at h
  first | (simp [h]; done) | (obtain ⟨⟩ := h; simp_all; done) | simp_all
@[simp] theorem c134_fn (l : List TClaim) : c134.fn [.sl false 5 yTClaim (ML encTClaim l)] [] = some ((fun (l : List TClaim) => True) l, (fun (l : List TClaim) => (.agg [.sl false 5 yTClaim (ML encTClaim l), .fn (.func 176) [] []] : D)) l, (fun (l : List TClaim) => []) l) :=
  mkCon_fn (fun x y h _ => c134_inj x y h) (l : (List TClaim)) (by simp [nz, nz1, ML_nil, encLTClaim]) rfl
@[simp] theorem c134_fn1 (s_l : Nat) (z_l : D) : c134.fn [.sl false s_l z_l []] [] = some ((fun (l : List TClaim) => True) [], (fun (l : List TClaim) => (.agg [.sl false 5 yTClaim (ML encTClaim l), .fn (.func 176) [] []] : D)) [], (fun (l : List TClaim) => []) []) :=
  mkCon_fn (fun x y h _ => c134_inj x y h) ([] : (List TClaim)) (by simp [nz, nz1, ML_nil, encLTClaim]) rfl
theorem c134_pc (l : List TClaim) : PCo Try.prog 134 [encLTClaim l] (Tab.of []) (.agg [.sl false 5 yTClaim (ML encTClaim l), .fn (.func 176) [] []]) (Tab.of []) := by
  refine pco_of_run [] (E := ⟨[], []⟩) (m := false) (base := 0) Env.ok_nil G_ok mix 300 6 Try.func134 (by kernel_rfl) rfl (by kernel_rfl) (by kernel_rfl) rfl ?_
  simp [Try.f134]
  all_goals first | omega | (rw [Bool.eq_iff_iff]; simp; omega) | grind
theorem c134_ok : c134.ok Try.prog := mkCon_ok fun l hpre => c134_pc l
/-- loop.example/g03007/impl.claimsInOrder$1 -/
noncomputable def c176 : Con := mkCon 176 false (α := TClaim) (fun x => (fun (x : TClaim) => [encTClaim x]) x) (fun _ => []) (fun x => (fun (x : TClaim) => True) x) (fun x => (fun (x : TClaim) => (dI (nClaim x) : D)) x) (fun x => (fun (x : TClaim) => []) x)
@[simp] theorem c176_f : c176.f = 176 := rfl
@[simp] theorem c176_own : c176.own = false := rfl
theorem c176_inj : ∀ u_ v_ : TClaim, ((fun x => (fun (x : TClaim) => [encTClaim x]) x) u_).map nz = ((fun x => (fun (x : TClaim) => [encTClaim x]) x) v_).map nz → u_ = v_ := by
  intro u_ v_ h
  obtain ⟨x_Id, x_Who, x_Thing, x_At, x_State⟩ := u_
  obtain ⟨x_Id', x_Who', x_Thing', x_At', x_State'⟩ := v_
  simp [nz_lit, nz1_lit, nz_agg, nz_sl, nz1_sl, encTClaim] at h
  first | (simp [h]; done) | (obtain ⟨⟩ := h; simp_all; done) | simp_all
@[simp] theorem c176_fn (x_Id : Int) (x_Who : Int) (x_Thing : Int) (x_At : Int) (x_State : Int) : c176.fn [.agg [.lit (.int .i64 x_Id), .lit (.int .i64 x_Who), .lit (.int .i64 x_Thing), .lit (.int .i64 x_At), .lit (.int .i64 x_State)]] [] = some ((fun (x : TClaim) => True) ⟨x_Id, x_Who, x_Thing, x_At, x_State⟩, (fun (x : TClaim) => (dI (nClaim x) : D)) ⟨x_Id, x_Who, x_Thing, x_At, x_State⟩, (fun (x : TClaim) => []) ⟨x_Id, x_Who, x_Thing, x_At, x_State⟩) :=
  mkCon_fn (fun x y h _ => c176_inj x y h) (⟨x_Id, x_Who, x_Thing, x_At, x_State⟩ : TClaim) (by simp [nz, nz1, ML_nil, encTClaim]) rfl
theorem c176_pc (x : TClaim) : PCo Try.prog 176 [encTClaim x] (Tab.of []) (dI (nClaim x)) (Tab.of []) := by
  obtain ⟨x_Id, x_Who, x_Thing, x_At, x_State⟩ := x
  refine pco_of_run [] (E := ⟨[], []⟩) (m := false) (base := 0) Env.ok_nil G_ok mix 300 6 Try.func176 (by kernel_rfl) rfl (by kernel_rfl) (by kernel_rfl) rfl ?_
  simp [Try.f176]
  all_goals first | omega | (rw [Bool.eq_iff_iff]; simp; omega) | grind
theorem c176_ok : c176.ok Try.prog := mkCon_ok fun x hpre => c176_pc x
/-- (loop.example/g03007/impl.sortedList[loop.example/g03007/impl.Claim]).indexOf$1 -/
noncomputable def c180 : Con := mkCon 180 false (α := TClaim × (List TClaim) × Int) (fun x => (fun (x : TClaim) (l : List TClaim) (n : Int) => ([encTClaim x, .el (.agg [.sl false 5 yTClaim (ML encTClaim l), .fn (.func 176) [] []]), .el (dI n)] : List D)) x.1 x.2.1 x.2.2) (fun x => (fun (x : TClaim) (l : List TClaim) (n : Int) => ([] : List (Nm × OO))) x.1 x.2.1 x.2.2) (fun x => (fun (x : TClaim) (l : List TClaim) (n : Int) => True) x.1 x.2.1 x.2.2) (fun x => (fun (x : TClaim) (l : List TClaim) (n : Int) => (dB (wantN nClaim n x) : D)) x.1 x.2.1 x.2.2) (fun x => (fun (x : TClaim) (l : List TClaim) (n : Int) => ([] : List (Nm × OO))) x.1 x.2.1 x.2.2)
@[simp] theorem c180_f : c180.f = 180 := rfl
@[simp] theorem c180_own : c180.own = false := rfl
theorem c180_inj : ∀ u_ v_ : TClaim × (List TClaim) × Int, ((fun x => (fun (x : TClaim) (l : List TClaim) (n : Int) => ([encTClaim x, .el (.agg [.sl false 5 yTClaim (ML encTClaim l), .fn (.func 176) [] []]), .el (dI n)] : List D)) x.1 x.2.1 x.2.2) u_).map nz = ((fun x => (fun (x : TClaim) (l : List TClaim) (n : Int) => ([encTClaim x, .el (.agg [.sl false 5 yTClaim (ML encTClaim l), .fn (.func 176) [] []]), .el (dI n)] : List D)) x.1 x.2.1 x.2.2) v_).map nz → (fun x => (fun (x : TClaim) (l : List TClaim) (n : Int) => ([] : List (Nm × OO))) x.1 x.2.1 x.2.2) u_ = (fun x => (fun (x : TClaim) (l : List TClaim) (n : Int) => ([] : List (Nm × OO))) x.1 x.2.1 x.2.2) v_ → u_ = v_ := by
  intro u_ v_ h h2_
  obtain ⟨⟨x_Id, x_Who, x_Thing, x_At, x_State⟩, l, n⟩ := u_
  obtain ⟨⟨x_Id', x_Who', x_Thing', x_At', x_State'⟩, l', n'⟩ := v_
  simp [nz_lit, nz1_lit, nz_agg, nz_sl, nz1_sl, nz_sx, nz_el, nz1_el, nz_own, nz1_own, nz_ptr, nz_fn, nz_iface] at h h2_
  first | (simp [h, h2_]; done) | simp_all | grind
@[simp] theorem c180_fn (x_Id : Int) (x_Who : Int) (x_Thing : Int) (x_At : Int) (x_State : Int) (l : List TClaim) (n : Int) : c180.fn ([.agg [.lit (.int .i64 x_Id), .lit (.int .i64 x_Who), .lit (.int .i64 x_Thing), .lit (.int .i64 x_At), .lit (.int .i64 x_State)], .el (.agg [.sl false 5 yTClaim (ML encTClaim l), .fn (.func 176) [] []]), .el (dI n)]) ([]) = some (True, dB (wantN nClaim n (⟨x_Id, x_Who, x_Thing, x_At, x_State⟩ : TClaim)), []) :=
  mkCon_fn c180_inj ((⟨x_Id, x_Who, x_Thing, x_At, x_State⟩, l, n) : TClaim × (List TClaim) × Int) rfl rfl
theorem c180_pc (x : TClaim) (l : List TClaim) (n : Int) : PCo Try.prog 180 ([encTClaim x, .el (.agg [.sl false 5 yTClaim (ML encTClaim l), .fn (.func 176) [] []]), .el (dI n)]) (Tab.of ([])) (dB (wantN nClaim n x)) (Tab.of ([])) := by
  refine pco_of_run [1] (E := ⟨[c176], []⟩) (m := false) (base := 0) (Env.ok_cons c176_ok Env.ok_nil) G_ok mix 300 6 Try.func180 (by kernel_rfl) rfl (by kernel_rfl) (by kernel_rfl) rfl ?_
  simp [Try.f180]
  simp [wantN]; first | done | rfl
theorem c180_ok : c180.ok Try.prog := mkCon_ok fun ⟨x, l, n⟩ hpre => c180_pc x l n
/-- slices.IndexFunc[[]loop.example/g03007/impl.Clai -/
noncomputable def c179_i : Con := mkCon 179 false (α := (List TClaim) × (List TClaim) × Int) (fun x => (fun (l : List TClaim) (l2 : List TClaim) (n : Int) => ([.sl false 5 yTClaim (ML encTClaim l), .fn (.func 180) [] [.el (.agg [.sl false 5 yTClaim (ML encTClaim l2), .fn (.func 176) [] []]), .el (dI n)]] : List D)) x.1 x.2.1 x.2.2) (fun x => (fun (l : List TClaim) (l2 : List TClaim) (n : Int) => ([] : List (Nm × OO))) x.1 x.2.1 x.2.2) (fun x => (fun (l : List TClaim) (l2 : List TClaim) (n : Int) => l.length ≤ 1099511627776) x.1 x.2.1 x.2.2) (fun x => (fun (l : List TClaim) (l2 : List TClaim) (n : Int) => (dI (indexBy (wantN nClaim n) 0 l) : D)) x.1 x.2.1 x.2.2) (fun x => (fun (l : List TClaim) (l2 : List TClaim) (n : Int) => ([] : List (Nm × OO))) x.1 x.2.1 x.2.2)
@[simp] theorem c179_i_f : c179_i.f = 179 := rfl
@[simp] theorem c179_i_own : c179_i.own = false := rfl
theorem c179_i_inj : ∀ u_ v_ : (List TClaim) × (List TClaim) × Int, ((fun x => (fun (l : List TClaim) (l2 : List TClaim) (n : Int) => ([.sl false 5 yTClaim (ML encTClaim l), .fn (.func 180) [] [.el (.agg [.sl false 5 yTClaim (ML encTClaim l2), .fn (.func 176) [] []]), .el (dI n)]] : List D)) x.1 x.2.1 x.2.2) u_).map nz = ((fun x => (fun (l : List TClaim) (l2 : List TClaim) (n : Int) => ([.sl false 5 yTClaim (ML encTClaim l), .fn (.func 180) [] [.el (.agg [.sl false 5 yTClaim (ML encTClaim l2), .fn (.func 176) [] []]), .el (dI n)]] : List D)) x.1 x.2.1 x.2.2) v_).map nz → (fun x => (fun (l : List TClaim) (l2 : List TClaim) (n : Int) => ([] : List (Nm × OO))) x.1 x.2.1 x.2.2) u_ = (fun x => (fun (l : List TClaim) (l2 : List TClaim) (n : Int) => ([] : List (Nm × OO))) x.1 x.2.1 x.2.2) v_ → u_ = v_ := by
  intro u_ v_ h h2_
  obtain ⟨l, l2, n⟩ := u_
  obtain ⟨l', l2', n'⟩ := v_
  simp [nz_lit, nz1_lit, nz_agg, nz_sl, nz1_sl, nz_sx, nz_el, nz1_el, nz_own, nz1_own, nz_ptr, nz_fn, nz_iface] at h h2_
  first | (simp [h, h2_]; done) | simp_all | grind
@[simp] theorem c179_i_fn (l : List TClaim) (l2 : List TClaim) (n : Int) : c179_i.fn ([.sl false 5 yTClaim (ML encTClaim l), .fn (.func 180) [] [.el (.agg [.sl false 5 yTClaim (ML encTClaim l2), .fn (.func 176) [] []]), .el (dI n)]]) ([]) = some (l.length ≤ 1099511627776, dI (indexBy (wantN nClaim n) 0 l), []) :=
  mkCon_fn c179_i_inj ((l, l2, n) : (List TClaim) × (List TClaim) × Int) rfl rfl
theorem c179_i_pc (l : List TClaim) (l2 : List TClaim) (n : Int) (hpre : l.length ≤ 1099511627776) : PCo Try.prog 179 ([.sl false 5 yTClaim (ML encTClaim l), .fn (.func 180) [] [.el (.agg [.sl false 5 yTClaim (ML encTClaim l2), .fn (.func 176) [] []]), .el (dI n)]]) (Tab.of ([])) (dI (indexBy (wantN nClaim n) 0 l)) (Tab.of ([])) := by
  refine pco_of_run [] (E := ⟨[c180], []⟩) (m := false) (base := 0) (Env.ok_cons c180_ok Env.ok_nil) G_ok mix 300 6 Try.func179 (by kernel_rfl) rfl (by kernel_rfl) (by kernel_rfl) rfl ?_
  simp [Try.f179]
  refine loop_inv (fun p : Nat => p ≤ l.length ∧ indexBy (wantN nClaim n) 0 l = indexBy (wantN nClaim n) p (l.drop p)) (fun p => [(0, .sl false 5 yTClaim (ML encTClaim l)), (1, .fn (.func 180) [] [.el (.agg [.sl false 5 yTClaim (ML encTClaim l2), .fn (.func 176) [] []]), .el (dI n)]), (7, dI l.length), (8, dI p)]) (fun _ => []) 1 (fun p => l.length - p) 0 400 (by simp) (by simp) (by simp) ?_
  intro p ⟨hp, hi⟩
  simp
  refine ⟨fun hlt => ?_, fun hge => ?_⟩
  · rw [indexBy_at (d := default) hlt] at hi
    repeat' (first | omega | refine And.intro ?_ ?_ | intro _)
    all_goals first | exact Again.mk (p + 1) ⟨by omega, by rw [hi]; grind⟩ (by simp) (by first | omega | (simp; omega)) | (rw [hi]; grind)
  · rw [hi, indexBy_end hge]
theorem c179_i_ok : c179_i.ok Try.prog := mkCon_ok fun ⟨l, l2, n⟩ hpre => c179_i_pc l l2 n hpre
noncomputable def c179 : Con := selCon 179 false [([180], c179_i)]
@[simp] theorem c179_f : c179.f = 179 := rfl
@[simp] theorem c179_own : c179.own = false := rfl
@[simp] theorem c179_fn0 (l : List TClaim) (l2 : List TClaim) (n : Int) : c179.fn ([.sl false 5 yTClaim (ML encTClaim l), .fn (.func 180) [] [.el (.agg [.sl false 5 yTClaim (ML encTClaim l2), .fn (.func 176) [] []]), .el (dI n)]]) ([]) = some (l.length ≤ 1099511627776, dI (indexBy (wantN nClaim n) 0 l), []) := by
  rw [c179, selCon_fn]
  have h : selK [([180], c179_i)] (keyDs ([.sl false 5 yTClaim (ML encTClaim l), .fn (.func 180) [] [.el (.agg [.sl false 5 yTClaim (ML encTClaim l2), .fn (.func 176) [] []]), .el (dI n)]])) = some c179_i := by simp
  rw [h]
  exact c179_i_fn l l2 n
theorem c179_ok : c179.ok Try.prog := selCon_ok fun p hp => by
  simp only [List.mem_cons, List.not_mem_nil, or_false] at hp
  rcases hp with rfl
  · exact ⟨rfl, c179_i_ok⟩
/-- (loop.example/g03007/impl.sortedList[loop.example/g03007/impl.Claim]).indexOf -/
noncomputable def c140 : Con := mkCon 140 false (α := (List TClaim) × Int) (fun x => (fun (l : List TClaim) (n : Int) => ([.agg [.sl false 5 yTClaim (ML encTClaim l), .fn (.func 176) [] []], dI n] : List D)) x.1 x.2) (fun x => (fun (l : List TClaim) (n : Int) => ([] : List (Nm × OO))) x.1 x.2) (fun x => (fun (l : List TClaim) (n : Int) => l.length ≤ 1099511627776) x.1 x.2) (fun x => (fun (l : List TClaim) (n : Int) => (dI (indexBy (wantN nClaim n) 0 l) : D)) x.1 x.2) (fun x => (fun (l : List TClaim) (n : Int) => ([] : List (Nm × OO))) x.1 x.2)
@[simp] theorem c140_f : c140.f = 140 := rfl
@[simp] theorem c140_own : c140.own = false := rfl
theorem c140_inj : ∀ u_ v_ : (List TClaim) × Int, ((fun x => (fun (l : List TClaim) (n : Int) => ([.agg [.sl false 5 yTClaim (ML encTClaim l), .fn (.func 176) [] []], dI n] : List D)) x.1 x.2) u_).map nz = ((fun x => (fun (l : List TClaim) (n : Int) => ([.agg [.sl false 5 yTClaim (ML encTClaim l), .fn (.func 176) [] []], dI n] : List D)) x.1 x.2) v_).map nz → (fun x => (fun (l : List TClaim) (n : Int) => ([] : List (Nm × OO))) x.1 x.2) u_ = (fun x => (fun (l : List TClaim) (n : Int) => ([] : List (Nm × OO))) x.1 x.2) v_ → u_ = v_ := by
  intro u_ v_ h h2_
  obtain ⟨l, n⟩ := u_
  obtain ⟨l', n'⟩ := v_
  simp [nz_lit, nz1_lit, nz_agg, nz_sl, nz1_sl, nz_sx, nz_el, nz1_el, nz_own, nz1_own, nz_ptr, nz_fn, nz_iface] at h h2_
  first | (simp [h, h2_]; done) | simp_all | grind
@[simp] theorem c140_fn (l : List TClaim) (n : Int) : c140.fn ([.agg [.sl false 5 yTClaim (ML encTClaim l), .fn (.func 176) [] []], dI n]) ([]) = some (l.length ≤ 1099511627776, dI (indexBy (wantN nClaim n) 0 l), []) :=
  mkCon_fn c140_inj ((l, n) : (List TClaim) × Int) rfl rfl
theorem c140_pc (l : List TClaim) (n : Int) (hpre : l.length ≤ 1099511627776) : PCo Try.prog 140 ([.agg [.sl false 5 yTClaim (ML encTClaim l), .fn (.func 176) [] []], dI n]) (Tab.of ([])) (dI (indexBy (wantN nClaim n) 0 l)) (Tab.of ([])) := by
  refine pco_of_run [] (E := ⟨[c179, c180], []⟩) (m := false) (base := 0) (Env.ok_cons c179_ok (Env.ok_cons c180_ok Env.ok_nil)) G_ok mix 300 6 Try.func140 (by kernel_rfl) rfl (by kernel_rfl) (by kernel_rfl) rfl ?_
  simp [Try.f140]
  all_goals first | omega | (rw [Bool.eq_iff_iff]; simp; omega) | grind
theorem c140_ok : c140.ok Try.prog := mkCon_ok fun ⟨l, n⟩ hpre => c140_pc l n hpre
def mFindClaim (l : List TClaim) (n : Int) : Int := indexBy (wantN nClaim n) 0 l
/-- loop.example/g03007/impl.FindClaim -/
noncomputable def c72 : Con := mkCon 72 false (α := (List TClaim) × Int) (fun x => (fun (l : List TClaim) (n : Int) => [encLTClaim l, dI n]) x.1 x.2) (fun _ => []) (fun x => (fun (l : List TClaim) (n : Int) => l.length ≤ 1099511627776) x.1 x.2) (fun x => (fun (l : List TClaim) (n : Int) => (dI (mFindClaim l n) : D)) x.1 x.2) (fun x => (fun (l : List TClaim) (n : Int) => []) x.1 x.2)
@[simp] theorem c72_f : c72.f = 72 := rfl
@[simp] theorem c72_own : c72.own = false := rfl
theorem c72_inj : ∀ u_ v_ : (List TClaim) × Int, ((fun x => (fun (l : List TClaim) (n : Int) => [encLTClaim l, dI n]) x.1 x.2) u_).map nz = ((fun x => (fun (l : List TClaim) (n : Int) => [encLTClaim l, dI n]) x.1 x.2) v_).map nz → u_ = v_ := by
  intro u_ v_ h
  obtain ⟨l, n⟩ := u_
  obtain ⟨l', n'⟩ := v_
  simp [nz_lit, nz1_lit, nz_agg, nz_sl, nz1_sl, encLTClaim] at h
  first | (simp [h]; done) | (obtain ⟨⟩ := h; simp_all; done) | simp_all
@[simp] theorem c72_fn (l : List TClaim) (n : Int) : c72.fn [.sl false 5 yTClaim (ML encTClaim l), .lit (.int .i64 n)] [] = some ((fun (l : List TClaim) (n : Int) => l.length ≤ 1099511627776) l n, (fun (l : List TClaim) (n : Int) => (dI (mFindClaim l n) : D)) l n, (fun (l : List TClaim) (n : Int) => []) l n) :=
  mkCon_fn (fun x y h _ => c72_inj x y h) ((l, n) : (List TClaim) × Int) (by simp [nz, nz1, ML_nil, encLTClaim]) rfl
@[simp] theorem c72_fn1 (s_l : Nat) (z_l : D) (n : Int) : c72.fn [.sl false s_l z_l [], .lit (.int .i64 n)] [] = some ((fun (l : List TClaim) (n : Int) => l.length ≤ 1099511627776) [] n, (fun (l : List TClaim) (n : Int) => (dI (mFindClaim l n) : D)) [] n, (fun (l : List TClaim) (n : Int) => []) [] n) :=
  mkCon_fn (fun x y h _ => c72_inj x y h) (([], n) : (List TClaim) × Int) (by simp [nz, nz1, ML_nil, encLTClaim]) rfl
theorem c72_pc (l : List TClaim) (n : Int) (hpre : l.length ≤ 1099511627776) : PCo Try.prog 72 [encLTClaim l, dI n] (Tab.of []) (dI (mFindClaim l n)) (Tab.of []) := by
  refine pco_of_run [] (E := ⟨[c134, c140], []⟩) (m := false) (base := 0) (Env.ok_cons c134_ok (Env.ok_cons c140_ok Env.ok_nil)) G_ok mix 300 6 Try.func72 (by kernel_rfl) rfl (by kernel_rfl) (by kernel_rfl) rfl ?_
  simp [Try.f72]
  exact ⟨hpre, rfl⟩
theorem c72_ok : c72.ok Try.prog := mkCon_ok fun ⟨l, n⟩ hpre => c72_pc l n hpre
/-- loop.example/g03007/spec.FindClaim -/
noncomputable def c71 : Con := mkCon 71 false (α := (List TClaim) × Int) (fun x => (fun (l : List TClaim) (n : Int) => [encLTClaim l, dI n]) x.1 x.2) (fun _ => []) (fun x => (fun (l : List TClaim) (n : Int) => l.length ≤ 1099511627776) x.1 x.2) (fun x => (fun (l : List TClaim) (n : Int) => (dI (mFindClaim l n) : D)) x.1 x.2) (fun x => (fun (l : List TClaim) (n : Int) => []) x.1 x.2)
@[simp] theorem c71_f : c71.f = 71 := rfl
@[simp] theorem c71_own : c71.own = false := rfl
theorem c71_inj : ∀ u_ v_ : (List TClaim) × Int, ((fun x => (fun (l : List TClaim) (n : Int) => [encLTClaim l, dI n]) x.1 x.2) u_).map nz = ((fun x => (fun (l : List TClaim) (n : Int) => [encLTClaim l, dI n]) x.1 x.2) v_).map nz → u_ = v_ := by
  intro u_ v_ h
  obtain ⟨l, n⟩ := u_
  obtain ⟨l', n'⟩ := v_
  simp [nz_lit, nz1_lit, nz_agg, nz_sl, nz1_sl, encLTClaim] at h
  first | (simp [h]; done) | (obtain ⟨⟩ := h; simp_all; done) | simp_all
@[simp] theorem c71_fn (l : List TClaim) (n : Int) : c71.fn [.sl false 5 yTClaim (ML encTClaim l), .lit (.int .i64 n)] [] = some ((fun (l : List TClaim) (n : Int) => l.length ≤ 1099511627776) l n, (fun (l : List TClaim) (n : Int) => (dI (mFindClaim l n) : D)) l n, (fun (l : List TClaim) (n : Int) => []) l n) :=
  mkCon_fn (fun x y h _ => c71_inj x y h) ((l, n) : (List TClaim) × Int) (by simp [nz, nz1, ML_nil, encLTClaim]) rfl
@[simp] theorem c71_fn1 (s_l : Nat) (z_l : D) (n : Int) : c71.fn [.sl false s_l z_l [], .lit (.int .i64 n)] [] = some ((fun (l : List TClaim) (n : Int) => l.length ≤ 1099511627776) [] n, (fun (l : List TClaim) (n : Int) => (dI (mFindClaim l n) : D)) [] n, (fun (l : List TClaim) (n : Int) => []) [] n) :=
  mkCon_fn (fun x y h _ => c71_inj x y h) (([], n) : (List TClaim) × Int) (by simp [nz, nz1, ML_nil, encLTClaim]) rfl
theorem c71_pc (l : List TClaim) (n : Int) (hpre : l.length ≤ 1099511627776) : PCo Try.prog 71 [encLTClaim l, dI n] (Tab.of []) (dI (mFindClaim l n)) (Tab.of []) := by
  refine pco_of_run [] (E := ⟨[], []⟩) (m := false) (base := 0) Env.ok_nil G_ok mix 300 6 Try.func71 (by kernel_rfl) rfl (by kernel_rfl) (by kernel_rfl) rfl ?_
  simp [Try.f71]
  refine loop_inv (fun p : Nat => p ≤ l.length ∧ mFindClaim l n = indexBy (wantN nClaim n) p (l.drop p)) (fun p => [(0, encLTClaim l), (1, dI n), (5, dI p)]) (fun _ => []) 1 (fun p => l.length - p) 0 400 (by simp) (by simp [mFindClaim]) (by simp) ?_
  intro p ⟨hp, hi⟩
  simp
  refine ⟨fun hlt => ?_, fun hge => ?_⟩
  · rw [indexBy_at (d := default) hlt] at hi; simp only [nClaim, wantN] at hi
    repeat' (first | omega | refine And.intro ?_ ?_ | intro _)
    all_goals first | exact Again.mk (p + 1) ⟨by omega, by rw [hi]; grind⟩ (by simp) (by first | omega | (simp; omega)) | (rw [hi]; grind)
  · rw [hi, indexBy_end hge]
theorem c71_ok : c71.ok Try.prog := mkCon_ok fun ⟨l, n⟩ hpre => c71_pc l n hpre
/-- loop.example/g03007/laws.FnExactFindClaim -/
theorem law16 (l : List TClaim) (wl : wfLTClaim l) (n : Int) (wn : inR .i64 n) : PCo Try.prog 16 [encLTClaim l, dI n] (Tab.of []) (dB true) (Tab.of []) := by
  refine pco_of_run [] (E := ⟨[c66, c68, c70, c71, c72], []⟩) (m := false) (base := 0) (Env.ok_cons c66_ok (Env.ok_cons c68_ok (Env.ok_cons c70_ok (Env.ok_cons c71_ok (Env.ok_cons c72_ok Env.ok_nil))))) G_ok mix 400 6 Try.func16 (by kernel_rfl) rfl (by kernel_rfl) (by kernel_rfl) rfl ?_
  simp [Try.f16]
  have h_l : l.length ≤ maxLen := wl.1
  repeat' (first | omega | assumption | refine And.intro ?_ ?_ | intro _)
  all_goals first | omega | grind | (split at * <;> omega)
theorem law16_pc (D0 : D) (h0 : Sh G 9 59 D0) (D1 : D) (h1 : Sh G 9 3 D1) : PC Try.prog 16 [D0, D1] (dB true) [] := by
  obtain ⟨l, rfl, wl⟩ := sh59 (n := 6) h0
  obtain ⟨n, rfl, wn⟩ := sh3 (n := 8) h1
  exact law16 l wl n wn

end Go.Proofs.Ytnnieeojfdjcoaa
