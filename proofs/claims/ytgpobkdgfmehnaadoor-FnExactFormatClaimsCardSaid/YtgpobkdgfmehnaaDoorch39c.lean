/- Contracts of the functions that the laws run. -/
import Derived.Test.YtgpobkdgfmehnaaDoorch39g
import Derived.Test.YtgpobkdgfmehnaaDoorEngB
namespace Go.Proofs.YtgpobkdgfmehnaaDoor
open Go Go.Eng
set_option linter.unusedSimpArgs false
set_option linter.unusedVariables false
set_option maxRecDepth 10000
set_option maxHeartbeats 1000000
/-- loop.example/g03007/laws.toClaim -/
noncomputable def c12 : Con := mkCon 12 false (α := TClaim) (fun x => (fun (a : TClaim) => [encTClaim a]) x) (fun _ => []) (fun x => (fun (a : TClaim) => True) x) (fun x => (fun (a : TClaim) => (encTClaim a : D)) x) (fun x => (fun (a : TClaim) => []) x)
@[simp] theorem c12_f : c12.f = 12 := rfl
@[simp] theorem c12_own : c12.own = false := rfl
theorem c12_inj : ∀ u_ v_ : TClaim, ((fun x => (fun (a : TClaim) => [encTClaim a]) x) u_).map nz = ((fun x => (fun (a : TClaim) => [encTClaim a]) x) v_).map nz → u_ = v_ := by
  intro u_ v_ h
  obtain ⟨a_Id, a_Who, a_Thing, a_At, a_State⟩ := u_
  obtain ⟨a_Id', a_Who', a_Thing', a_At', a_State'⟩ := v_
  simp [nz_lit, nz1_lit, nz_agg, nz_sl, nz1_sl, encTClaim] at h
  first | (simp [h]; done) | (obtain ⟨⟩ := h; simp_all; done) | simp_all
@[simp] theorem c12_fn (a_Id : Int) (a_Who : Int) (a_Thing : Int) (a_At : Int) (a_State : Int) : c12.fn [.agg [.lit (.int .i64 a_Id), .lit (.int .i64 a_Who), .lit (.int .i64 a_Thing), .lit (.int .i64 a_At), .lit (.int .i64 a_State)]] [] = some ((fun (a : TClaim) => True) ⟨a_Id, a_Who, a_Thing, a_At, a_State⟩, (fun (a : TClaim) => (encTClaim a : D)) ⟨a_Id, a_Who, a_Thing, a_At, a_State⟩, (fun (a : TClaim) => []) ⟨a_Id, a_Who, a_Thing, a_At, a_State⟩) :=
  mkCon_fn (fun x y h _ => c12_inj x y h) (⟨a_Id, a_Who, a_Thing, a_At, a_State⟩ : TClaim) (by simp [nz, nz1, ML_nil, encTClaim]) rfl
theorem c12_pc (a : TClaim) : PCo Tryd.prog 12 [encTClaim a] (Tab.of []) (encTClaim a) (Tab.of []) := by
  obtain ⟨a_Id, a_Who, a_Thing, a_At, a_State⟩ := a
  refine pco_of_run [] (E := ⟨[], [], []⟩) (m := false) (base := 0) Env.ok_nil G_ok mix 300 6 Tryd.func12 (by kernel_rfl) rfl (by kernel_rfl) (by kernel_rfl) rfl ?_
  simp [Tryd.f12]
  all_goals first | omega | (rw [Bool.eq_iff_iff]; simp; omega) | grind
theorem c12_ok : c12.ok Tryd.prog := mkCon_ok fun a hpre => c12_pc a
/-- loop.example/g03007/laws.eqClaim -/
noncomputable def c17 : Con := mkCon 17 false (α := TClaim × TClaim) (fun x => (fun (a : TClaim) (b : TClaim) => [encTClaim a, encTClaim b]) x.1 x.2) (fun _ => []) (fun x => (fun (a : TClaim) (b : TClaim) => True) x.1 x.2) (fun x => (fun (a : TClaim) (b : TClaim) => (dB (decide (a = b)) : D)) x.1 x.2) (fun x => (fun (a : TClaim) (b : TClaim) => []) x.1 x.2)
@[simp] theorem c17_f : c17.f = 17 := rfl
@[simp] theorem c17_own : c17.own = false := rfl
theorem c17_inj : ∀ u_ v_ : TClaim × TClaim, ((fun x => (fun (a : TClaim) (b : TClaim) => [encTClaim a, encTClaim b]) x.1 x.2) u_).map nz = ((fun x => (fun (a : TClaim) (b : TClaim) => [encTClaim a, encTClaim b]) x.1 x.2) v_).map nz → u_ = v_ := by
  intro u_ v_ h
  obtain ⟨⟨a_Id, a_Who, a_Thing, a_At, a_State⟩, ⟨b_Id, b_Who, b_Thing, b_At, b_State⟩⟩ := u_
  obtain ⟨⟨a_Id', a_Who', a_Thing', a_At', a_State'⟩, ⟨b_Id', b_Who', b_Thing', b_At', b_State'⟩⟩ := v_
  simp [nz_lit, nz1_lit, nz_agg, nz_sl, nz1_sl, encTClaim] at h
  first | (simp [h]; done) | (obtain ⟨⟩ := h; simp_all; done) | simp_all
@[simp] theorem c17_fn (a_Id : Int) (a_Who : Int) (a_Thing : Int) (a_At : Int) (a_State : Int) (b_Id : Int) (b_Who : Int) (b_Thing : Int) (b_At : Int) (b_State : Int) : c17.fn [.agg [.lit (.int .i64 a_Id), .lit (.int .i64 a_Who), .lit (.int .i64 a_Thing), .lit (.int .i64 a_At), .lit (.int .i64 a_State)], .agg [.lit (.int .i64 b_Id), .lit (.int .i64 b_Who), .lit (.int .i64 b_Thing), .lit (.int .i64 b_At), .lit (.int .i64 b_State)]] [] = some ((fun (a : TClaim) (b : TClaim) => True) ⟨a_Id, a_Who, a_Thing, a_At, a_State⟩ ⟨b_Id, b_Who, b_Thing, b_At, b_State⟩, (fun (a : TClaim) (b : TClaim) => (dB (decide (a = b)) : D)) ⟨a_Id, a_Who, a_Thing, a_At, a_State⟩ ⟨b_Id, b_Who, b_Thing, b_At, b_State⟩, (fun (a : TClaim) (b : TClaim) => []) ⟨a_Id, a_Who, a_Thing, a_At, a_State⟩ ⟨b_Id, b_Who, b_Thing, b_At, b_State⟩) :=
  mkCon_fn (fun x y h _ => c17_inj x y h) ((⟨a_Id, a_Who, a_Thing, a_At, a_State⟩, ⟨b_Id, b_Who, b_Thing, b_At, b_State⟩) : TClaim × TClaim) (by simp [nz, nz1, ML_nil, encTClaim]) rfl
theorem c17_pc (a : TClaim) (b : TClaim) : PCo Tryd.prog 17 [encTClaim a, encTClaim b] (Tab.of []) (dB (decide (a = b))) (Tab.of []) := by
  obtain ⟨a_Id, a_Who, a_Thing, a_At, a_State⟩ := a
  obtain ⟨b_Id, b_Who, b_Thing, b_At, b_State⟩ := b
  refine pco_of_run [] (E := ⟨[], [], []⟩) (m := false) (base := 0) Env.ok_nil G_ok mix 300 6 Tryd.func17 (by kernel_rfl) rfl (by kernel_rfl) (by kernel_rfl) rfl ?_
  simp [Tryd.f17]
  all_goals first | omega | (rw [Bool.eq_iff_iff]; simp; omega) | grind
theorem c17_ok : c17.ok Tryd.prog := mkCon_ok fun ⟨a, b⟩ hpre => c17_pc a b
/-- loop.example/g03007/laws.szClaimS -/
noncomputable def c4 : Con := mkCon 4 false (α := (List TClaim) × Int) (fun x => (fun (l : List TClaim) (left : Int) => [encLTClaim l, dI left]) x.1 x.2) (fun _ => []) (fun x => (fun (l : List TClaim) (left : Int) => l.length ≤ maxLen ∧ 0 ≤ left ∧ left ≤ 1099511627776) x.1 x.2) (fun x => (fun (l : List TClaim) (left : Int) => (dI (if left - l.length < 0 then -1 else left - l.length) : D)) x.1 x.2) (fun x => (fun (l : List TClaim) (left : Int) => []) x.1 x.2)
@[simp] theorem c4_f : c4.f = 4 := rfl
@[simp] theorem c4_own : c4.own = false := rfl
theorem c4_inj : ∀ u_ v_ : (List TClaim) × Int, ((fun x => (fun (l : List TClaim) (left : Int) => [encLTClaim l, dI left]) x.1 x.2) u_).map nz = ((fun x => (fun (l : List TClaim) (left : Int) => [encLTClaim l, dI left]) x.1 x.2) v_).map nz → u_ = v_ := by
  intro u_ v_ h
  obtain ⟨l, left⟩ := u_
  obtain ⟨l', left'⟩ := v_
  simp [nz_lit, nz1_lit, nz_agg, nz_sl, nz1_sl, encLTClaim] at h
  first | (simp [h]; done) | (obtain ⟨⟩ := h; simp_all; done) | simp_all
@[simp] theorem c4_fn (l : List TClaim) (left : Int) : c4.fn [.sl false 5 yTClaim (ML encTClaim l), .lit (.int .i64 left)] [] = some ((fun (l : List TClaim) (left : Int) => l.length ≤ maxLen ∧ 0 ≤ left ∧ left ≤ 1099511627776) l left, (fun (l : List TClaim) (left : Int) => (dI (if left - l.length < 0 then -1 else left - l.length) : D)) l left, (fun (l : List TClaim) (left : Int) => []) l left) :=
  mkCon_fn (fun x y h _ => c4_inj x y h) ((l, left) : (List TClaim) × Int) (by simp [nz, nz1, ML_nil, encLTClaim]) rfl
@[simp] theorem c4_fn1 (s_l : Nat) (z_l : D) (left : Int) : c4.fn [.sl false s_l z_l [], .lit (.int .i64 left)] [] = some ((fun (l : List TClaim) (left : Int) => l.length ≤ maxLen ∧ 0 ≤ left ∧ left ≤ 1099511627776) [] left, (fun (l : List TClaim) (left : Int) => (dI (if left - l.length < 0 then -1 else left - l.length) : D)) [] left, (fun (l : List TClaim) (left : Int) => []) [] left) :=
  mkCon_fn (fun x y h _ => c4_inj x y h) (([], left) : (List TClaim) × Int) (by simp [nz, nz1, ML_nil, encLTClaim]) rfl
theorem c4_pc (l : List TClaim) (left : Int) (hpre : l.length ≤ maxLen ∧ 0 ≤ left ∧ left ≤ 1099511627776) : PCo Tryd.prog 4 [encLTClaim l, dI left] (Tab.of []) (dI (if left - l.length < 0 then -1 else left - l.length)) (Tab.of []) := by
  refine pco_of_run [] (E := ⟨[], [], []⟩) (m := false) (base := 0) Env.ok_nil G_ok mix 300 6 Tryd.func4 (by kernel_rfl) rfl (by kernel_rfl) (by kernel_rfl) rfl ?_
  simp [Tryd.f4]
  simp [maxLen] at hpre
  all_goals omega
theorem c4_ok : c4.ok Tryd.prog := mkCon_ok fun ⟨l, left⟩ hpre => c4_pc l left hpre
/-- loop.example/g03007/laws.toClaimS -/
noncomputable def c6 : Con := mkCon 6 false (α := (List TClaim)) (fun x => (fun (l : List TClaim) => [encLTClaim l]) x) (fun _ => []) (fun x => (fun (l : List TClaim) => l.length ≤ 1099511627776) x) (fun x => (fun (l : List TClaim) => (encLTClaim l : D)) x) (fun x => (fun (l : List TClaim) => []) x)
@[simp] theorem c6_f : c6.f = 6 := rfl
@[simp] theorem c6_own : c6.own = false := rfl
theorem c6_inj : ∀ u_ v_ : (List TClaim), ((fun x => (fun (l : List TClaim) => [encLTClaim l]) x) u_).map nz = ((fun x => (fun (l : List TClaim) => [encLTClaim l]) x) v_).map nz → u_ = v_ := by
  intro u_ v_ h
  obtain l := u_
  obtain l' := v_
  simp [nz_lit, nz1_lit, nz_agg, nz_sl, nz1_sl, encLTClaim] at h
  first | (simp [h]; done) | (obtain ⟨⟩ := h; simp_all; done) | simp_all
@[simp] theorem c6_fn (l : List TClaim) : c6.fn [.sl false 5 yTClaim (ML encTClaim l)] [] = some ((fun (l : List TClaim) => l.length ≤ 1099511627776) l, (fun (l : List TClaim) => (encLTClaim l : D)) l, (fun (l : List TClaim) => []) l) :=
  mkCon_fn (fun x y h _ => c6_inj x y h) (l : (List TClaim)) (by simp [nz, nz1, ML_nil, encLTClaim]) rfl
@[simp] theorem c6_fn1 (s_l : Nat) (z_l : D) : c6.fn [.sl false s_l z_l []] [] = some ((fun (l : List TClaim) => l.length ≤ 1099511627776) [], (fun (l : List TClaim) => (encLTClaim l : D)) [], (fun (l : List TClaim) => []) []) :=
  mkCon_fn (fun x y h _ => c6_inj x y h) ([] : (List TClaim)) (by simp [nz, nz1, ML_nil, encLTClaim]) rfl
theorem c6_pc (l : List TClaim) (hpre : l.length ≤ 1099511627776) : PCo Tryd.prog 6 [encLTClaim l] (Tab.of []) (encLTClaim l) (Tab.of []) := by
  refine pco_of_run [] (E := ⟨[c12], [], []⟩) (m := false) (base := 0) (Env.ok_cons c12_ok Env.ok_nil) G_ok mix 300 6 Tryd.func6 (by kernel_rfl) rfl (by kernel_rfl) (by kernel_rfl) rfl ?_
  simp [Tryd.f6]
  refine ⟨by omega, ?_⟩
  refine loop_inv (fun p : Nat => p ≤ l.length) (fun p => [(0, encLTClaim l), (3, .own (0, 1) 5 0 l.length), (4, dI p)]) (fun p => [((0, 1), .arr false 5 yTClaim (ML encTClaim (l.take p ++ List.replicate (l.length - p) ⟨0, 0, 0, 0, 0⟩)))]) 2 (fun p => l.length - p) 0 100 (by simp) (by simp) (by first | (simp; done) | (simp; simp only [ML, List.map_replicate]; rfl)) ?_
  intro p hp
  simp
  refine ⟨fun hlt => ⟨by omega, by omega, Again.mk (p + 1) (by omega) (by simp [fill_step hlt]) (by first | omega | (simp; omega))⟩, fun hge => ?_⟩
  have : p = l.length := by omega
  subst this
  simp
theorem c6_ok : c6.ok Tryd.prog := mkCon_ok fun l hpre => c6_pc l hpre
/-- loop.example/g03007/laws.eqClaimS -/
noncomputable def c8 : Con := mkCon 8 false (α := (List TClaim) × (List TClaim)) (fun x => (fun (a : List TClaim) (b : List TClaim) => [encLTClaim a, encLTClaim b]) x.1 x.2) (fun _ => []) (fun x => (fun (a : List TClaim) (b : List TClaim) => a.length ≤ 1099511627776 ∧ b.length ≤ 1099511627776) x.1 x.2) (fun x => (fun (a : List TClaim) (b : List TClaim) => (dB (decide (a = b)) : D)) x.1 x.2) (fun x => (fun (a : List TClaim) (b : List TClaim) => []) x.1 x.2)
@[simp] theorem c8_f : c8.f = 8 := rfl
@[simp] theorem c8_own : c8.own = false := rfl
theorem c8_inj : ∀ u_ v_ : (List TClaim) × (List TClaim), ((fun x => (fun (a : List TClaim) (b : List TClaim) => [encLTClaim a, encLTClaim b]) x.1 x.2) u_).map nz = ((fun x => (fun (a : List TClaim) (b : List TClaim) => [encLTClaim a, encLTClaim b]) x.1 x.2) v_).map nz → u_ = v_ := by
  intro u_ v_ h
  obtain ⟨a, b⟩ := u_
  obtain ⟨a', b'⟩ := v_
  simp [nz_lit, nz1_lit, nz_agg, nz_sl, nz1_sl, encLTClaim] at h
  first | (simp [h]; done) | (obtain ⟨⟩ := h; simp_all; done) | simp_all
@[simp] theorem c8_fn (a : List TClaim) (b : List TClaim) : c8.fn [.sl false 5 yTClaim (ML encTClaim a), .sl false 5 yTClaim (ML encTClaim b)] [] = some ((fun (a : List TClaim) (b : List TClaim) => a.length ≤ 1099511627776 ∧ b.length ≤ 1099511627776) a b, (fun (a : List TClaim) (b : List TClaim) => (dB (decide (a = b)) : D)) a b, (fun (a : List TClaim) (b : List TClaim) => []) a b) :=
  mkCon_fn (fun x y h _ => c8_inj x y h) ((a, b) : (List TClaim) × (List TClaim)) (by simp [nz, nz1, ML_nil, encLTClaim]) rfl
@[simp] theorem c8_fn1 (s_a : Nat) (z_a : D) (b : List TClaim) : c8.fn [.sl false s_a z_a [], .sl false 5 yTClaim (ML encTClaim b)] [] = some ((fun (a : List TClaim) (b : List TClaim) => a.length ≤ 1099511627776 ∧ b.length ≤ 1099511627776) [] b, (fun (a : List TClaim) (b : List TClaim) => (dB (decide (a = b)) : D)) [] b, (fun (a : List TClaim) (b : List TClaim) => []) [] b) :=
  mkCon_fn (fun x y h _ => c8_inj x y h) (([], b) : (List TClaim) × (List TClaim)) (by simp [nz, nz1, ML_nil, encLTClaim]) rfl
@[simp] theorem c8_fn2 (a : List TClaim) (s_b : Nat) (z_b : D) : c8.fn [.sl false 5 yTClaim (ML encTClaim a), .sl false s_b z_b []] [] = some ((fun (a : List TClaim) (b : List TClaim) => a.length ≤ 1099511627776 ∧ b.length ≤ 1099511627776) a [], (fun (a : List TClaim) (b : List TClaim) => (dB (decide (a = b)) : D)) a [], (fun (a : List TClaim) (b : List TClaim) => []) a []) :=
  mkCon_fn (fun x y h _ => c8_inj x y h) ((a, []) : (List TClaim) × (List TClaim)) (by simp [nz, nz1, ML_nil, encLTClaim]) rfl
@[simp] theorem c8_fn3 (s_a : Nat) (z_a : D) (s_b : Nat) (z_b : D) : c8.fn [.sl false s_a z_a [], .sl false s_b z_b []] [] = some ((fun (a : List TClaim) (b : List TClaim) => a.length ≤ 1099511627776 ∧ b.length ≤ 1099511627776) [] [], (fun (a : List TClaim) (b : List TClaim) => (dB (decide (a = b)) : D)) [] [], (fun (a : List TClaim) (b : List TClaim) => []) [] []) :=
  mkCon_fn (fun x y h _ => c8_inj x y h) (([], []) : (List TClaim) × (List TClaim)) (by simp [nz, nz1, ML_nil, encLTClaim]) rfl
theorem c8_pc (a : List TClaim) (b : List TClaim) (hpre : a.length ≤ 1099511627776 ∧ b.length ≤ 1099511627776) : PCo Tryd.prog 8 [encLTClaim a, encLTClaim b] (Tab.of []) (dB (decide (a = b))) (Tab.of []) := by
  refine pco_of_run [] (E := ⟨[c17], [], []⟩) (m := false) (base := 0) (Env.ok_cons c17_ok Env.ok_nil) G_ok mix 300 6 Tryd.func8 (by kernel_rfl) rfl (by kernel_rfl) (by kernel_rfl) rfl ?_
  simp [Tryd.f8]
  obtain ⟨pre1, pre2⟩ := hpre
  refine ⟨fun h => ?_, fun h => by intro e; subst e; exact absurd rfl h⟩
  refine loop_inv (fun p : Nat => p ≤ a.length ∧ a.take p = b.take p) (fun p => [(0, encLTClaim a), (1, encLTClaim b), (5, dI p)]) (fun _ => []) 1 (fun p => a.length - p) 0 100 (by simp) (by simp) (by simp) ?_
  intro p ⟨hp, hi⟩
  simp
  refine ⟨fun hlt => ⟨by omega, fun h2 => ⟨by omega, Again.mk (p + 1) ⟨by omega, take_eq_step hi (by omega) (by omega) h2⟩ (by simp) (by first | omega | (simp; omega))⟩, fun h2 => by intro e; subst e; exact absurd rfl h2⟩, fun hge => ?_⟩
  exact take_eq_full hi (by omega) (by omega)
theorem c8_ok : c8.ok Tryd.prog := mkCon_ok fun ⟨a, b⟩ hpre => c8_pc a b hpre
def opfs : ByteArray := ⟨#[111, 112, 102, 115]⟩
/-- loop.example/g03007/spec.FormatClaims -/
noncomputable def c5 : Con := mkCon 5 false (α := (List TClaim)) (fun x => (fun (l : List TClaim) => [encLTClaim l]) x) (fun _ => []) (fun x => (fun (l : List TClaim) => l.length ≤ 1048576 ∧ ∀ x ∈ l, okClaim x) x) (fun x => (fun (l : List TClaim) => (dS (mView (l.map txClaim)) : D)) x) (fun x => (fun (l : List TClaim) => []) x)
@[simp] theorem c5_f : c5.f = 5 := rfl
@[simp] theorem c5_own : c5.own = false := rfl
theorem c5_inj : ∀ u_ v_ : (List TClaim), ((fun x => (fun (l : List TClaim) => [encLTClaim l]) x) u_).map nz = ((fun x => (fun (l : List TClaim) => [encLTClaim l]) x) v_).map nz → u_ = v_ := by
  intro u_ v_ h
  obtain l := u_
  obtain l' := v_
  simp [nz_lit, nz1_lit, nz_agg, nz_sl, nz1_sl, encLTClaim] at h
  first | (simp [h]; done) | (obtain ⟨⟩ := h; simp_all; done) | simp_all
@[simp] theorem c5_fn (l : List TClaim) : c5.fn [.sl false 5 yTClaim (ML encTClaim l)] [] = some ((fun (l : List TClaim) => l.length ≤ 1048576 ∧ ∀ x ∈ l, okClaim x) l, (fun (l : List TClaim) => (dS (mView (l.map txClaim)) : D)) l, (fun (l : List TClaim) => []) l) :=
  mkCon_fn (fun x y h _ => c5_inj x y h) (l : (List TClaim)) (by simp [nz, nz1, ML_nil, encLTClaim]) rfl
@[simp] theorem c5_fn1 (s_l : Nat) (z_l : D) : c5.fn [.sl false s_l z_l []] [] = some ((fun (l : List TClaim) => l.length ≤ 1048576 ∧ ∀ x ∈ l, okClaim x) [], (fun (l : List TClaim) => (dS (mView (l.map txClaim)) : D)) [], (fun (l : List TClaim) => []) []) :=
  mkCon_fn (fun x y h _ => c5_inj x y h) ([] : (List TClaim)) (by simp [nz, nz1, ML_nil, encLTClaim]) rfl
theorem c5_pc (l : List TClaim) (hpre : l.length ≤ 1048576 ∧ ∀ x ∈ l, okClaim x) : PCo Tryd.prog 5 [encLTClaim l] (Tab.of []) (dS (mView (l.map txClaim))) (Tab.of []) := by
  refine pco_of_run [8] (E := ⟨[c9, c10, c11], [], []⟩) (m := false) (base := 0) (Env.ok_cons c9_ok (Env.ok_cons c10_ok (Env.ok_cons c11_ok Env.ok_nil))) G_ok mix 300 6 Tryd.func5 (by kernel_rfl) rfl (by kernel_rfl) (by kernel_rfl) rfl ?_
  simp [Tryd.f5]
  obtain ⟨hl, hx⟩ := hpre
  refine loop_inv (fun p : Nat => p ≤ l.length) (fun p => [(0, encLTClaim l), (3, .own (0, 1) 1 0 p), (4, dI p)]) (fun p => [((0, 1), .arr false 1 (dS ⟨#[]⟩) (ML dS ((l.take p).map txClaim)))]) 2 (fun p => l.length - p) 0 400 (by simp) (by simp) (by simp) ?_
  intro p hp
  simp
  refine ⟨fun hlt => ?_, fun hge => ?_⟩
  · have hs : List.take (p + 1) (l.map txClaim) = List.take p (l.map txClaim) ++ [txClaim (l[p]?.getD default)] := by rw [take_at (d := txClaim default) (by simpa using hlt), ← map_at2 (d := default) hlt]
    have hm : min p l.length = p := by omega
    have hx1 := hx _ (getD_mem (d := default) hlt)
    have hb : okClaim (l[p]?.getD default) := hx1
    simp only [okClaim, okI] at hb
    have z1 : (⟨#[58]⟩ : ByteArray).size = 1 := rfl
    have z2 : (⟨#[62]⟩ : ByteArray).size = 1 := rfl
    have z4 : (⟨#[111, 112, 102, 115]⟩ : ByteArray).size = 4 := rfl
    have s1 := int_le hx1.1; have s2 := int_le hx1.2.1; have s3 := int_le hx1.2.2.1
    have z5 : (⟨#[63]⟩ : ByteArray).size = 1 := rfl
    have ex : ∀ n : Int, mIn n 0 3 = true → 0 ≤ n ∧ n ≤ 3 ∧ (⟨#[111, 112, 102, 115]⟩ : ByteArray).extract n.toNat (n + 1).toNat = ⟨#[UInt8.ofNat (mLetter n).toNat]⟩ := fun n h => by
      have h2 := mIn_iff.1 h
      refine ⟨h2.1, h2.2, ?_⟩
      rcases (by omega : n = 0 ∨ n = 1 ∨ n = 2 ∨ n = 3) with rfl | rfl | rfl | rfl <;> decide
    have no : ∀ n : Int, mIn n 0 3 = false → (⟨#[63]⟩ : ByteArray) = ⟨#[UInt8.ofNat (mLetter n).toNat]⟩ := fun n h => by
      have h2 : ¬ (0 ≤ n ∧ n ≤ 3) := fun e => by rw [mIn_iff.2 e] at h; cases h
      have : mLetter n = 63 := by simp only [mLetter]; rw [if_neg (by omega), if_neg (by omega), if_neg (by omega), if_neg (by omega)]
      rw [this]; rfl
    have tx : txClaim (l[p]?.getD default) = ((((mInt (l[p]?.getD default).Id ++ ⟨#[58]⟩) ++ mInt (l[p]?.getD default).Who) ++ ⟨#[62]⟩) ++ mInt (l[p]?.getD default).Thing) ++ ⟨#[UInt8.ofNat (mLetter (l[p]?.getD default).State).toNat]⟩ := rfl
    refine ⟨hlt, fun hi => ?_, fun hi => ?_⟩
    · obtain ⟨b1, b2, b3⟩ := ex _ hi
      repeat' (first | omega | refine And.intro ?_ ?_ | intro _)
      all_goals first | (refine Again.mk (p + 1) (by omega) ?_ (by first | omega | (simp; omega)); simp [hs, hm, tx, b3]; done) | (refine Again.mk (p + 1) (by omega) ?_ (by first | omega | (simp; omega)); simp [hs, hm, tx, ← b3]; done) | trace_state
    · have b3 := no _ hi
      repeat' (first | omega | refine And.intro ?_ ?_ | intro _)
      all_goals first | (refine Again.mk (p + 1) (by omega) ?_ (by first | omega | (simp; omega)); simp [hs, hm, tx, b3]; done) | (refine Again.mk (p + 1) (by omega) ?_ (by first | omega | (simp; omega)); simp [hs, hm, tx, ← b3]; done) | trace_state
  · have : p = l.length := by omega
    subst this
    have hs2 : List.take l.length (List.map txClaim l) = List.map txClaim l := by rw [← List.map_take, List.take_length]
    have hle : ∀ x ∈ l, (txClaim x).size ≤ 100 := fun x h => txClaim_le (hx x h)
    simp [lendD, hs2]
    exact ⟨by omega, hle⟩
theorem c5_ok : c5.ok Tryd.prog := mkCon_ok fun l hpre => c5_pc l hpre
/-- loop.example/g03007/laws.FnExactFormatClaims -/
theorem law3 (l : List TClaim) (wl : wfLTClaim l) : PCo Tryd.prog 3 [encLTClaim l] (Tab.of []) (dB true) (Tab.of []) := by
  refine pco_of_run [] (E := ⟨[c4, c5, c6, c7, c8], [], []⟩) (m := false) (base := 0) (Env.ok_cons c4_ok (Env.ok_cons c5_ok (Env.ok_cons c6_ok (Env.ok_cons c7_ok (Env.ok_cons c8_ok Env.ok_nil))))) G_ok mix 400 6 Tryd.func3 (by kernel_rfl) rfl (by kernel_rfl) (by kernel_rfl) rfl ?_
  simp (config := {maxSteps := 3000000}) [Tryd.f3]
  have h1 := wl.1
  have h2 : ∀ x ∈ l, okClaim x := fun x hx => by have := wl.2 x hx; simpa [inR, okI, okClaim, wfTClaim] using this
  exact ⟨h1, fun h => by
    have hh : l.length ≤ 1048576 := by split at h <;> omega
    exact ⟨⟨by omega, hh, h2⟩, by omega, ⟨hh, h2⟩, by omega⟩⟩
theorem law3_pc (D0 : D) (h0 : Sh G 9 22 D0) : PC Tryd.prog 3 [D0] (dB true) [] := by
  obtain ⟨l, rfl, wl⟩ := sh22 (n := 6) h0
  exact law3 l wl

end Go.Proofs.YtgpobkdgfmehnaaDoor
