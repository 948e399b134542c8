/- Contracts of the functions that the laws run. -/
import Derived.Test.YtobofamoagbacaaDoorgrp
import Derived.Test.YtobofamoagbacaaDoorascg
import Derived.Test.YtobofamoagbacaaDoorhelpA
import Derived.Test.YtobofamoagbacaaDoorEngB
namespace Go.Proofs.YtobofamoagbacaaDoor
open Go Go.Eng
set_option linter.unusedSimpArgs false
set_option linter.unusedVariables false
set_option maxRecDepth 10000
set_option maxHeartbeats 1000000
/-- loop.example/g03007/laws.toClaim -/
noncomputable def c75 : Con := mkCon 75 false (α := TClaim) (fun x => (fun (a : TClaim) => [encTClaim a]) x) (fun _ => []) (fun x => (fun (a : TClaim) => True) x) (fun x => (fun (a : TClaim) => (encTClaim a : D)) x) (fun x => (fun (a : TClaim) => []) x)
@[simp] theorem c75_f : c75.f = 75 := rfl
@[simp] theorem c75_own : c75.own = false := rfl
theorem c75_inj : ∀ u_ v_ : TClaim, ((fun x => (fun (a : TClaim) => [encTClaim a]) x) u_).map nz = ((fun x => (fun (a : TClaim) => [encTClaim a]) x) v_).map nz → u_ = v_ := by
  intro u_ v_ h
  obtain ⟨a_Id, a_Who, a_Thing, a_At, a_State⟩ := u_
  obtain ⟨a_Id', a_Who', a_Thing', a_At', a_State'⟩ := v_
  simp [nz_lit, nz1_lit, nz_agg, nz_sl, nz1_sl, encTClaim] at h
  first | (simp [h]; done) | (obtain ⟨⟩ := h; simp_all; done) | simp_all
@[simp] theorem c75_fn (a_Id : Int) (a_Who : Int) (a_Thing : Int) (a_At : Int) (a_State : Int) : c75.fn [.agg [.lit (.int .i64 a_Id), .lit (.int .i64 a_Who), .lit (.int .i64 a_Thing), .lit (.int .i64 a_At), .lit (.int .i64 a_State)]] [] = some ((fun (a : TClaim) => True) ⟨a_Id, a_Who, a_Thing, a_At, a_State⟩, (fun (a : TClaim) => (encTClaim a : D)) ⟨a_Id, a_Who, a_Thing, a_At, a_State⟩, (fun (a : TClaim) => []) ⟨a_Id, a_Who, a_Thing, a_At, a_State⟩) :=
  mkCon_fn (fun x y h _ => c75_inj x y h) (⟨a_Id, a_Who, a_Thing, a_At, a_State⟩ : TClaim) (by simp [nz, nz1, ML_nil, encTClaim]) rfl
theorem c75_pc (a : TClaim) : PCo Tryd.prog 75 [encTClaim a] (Tab.of []) (encTClaim a) (Tab.of []) := by
  obtain ⟨a_Id, a_Who, a_Thing, a_At, a_State⟩ := a
  refine pco_of_run [] (E := ⟨[], []⟩) (m := false) (base := 0) Env.ok_nil G_ok mix 300 6 Tryd.func75 (by kernel_rfl) rfl (by kernel_rfl) (by kernel_rfl) rfl ?_
  simp [Tryd.f75]
  all_goals first | omega | (rw [Bool.eq_iff_iff]; simp; omega) | grind
theorem c75_ok : c75.ok Tryd.prog := mkCon_ok fun a hpre => c75_pc a
/-- loop.example/g03007/laws.eqClaim -/
noncomputable def c76 : Con := mkCon 76 false (α := TClaim × TClaim) (fun x => (fun (a : TClaim) (b : TClaim) => [encTClaim a, encTClaim b]) x.1 x.2) (fun _ => []) (fun x => (fun (a : TClaim) (b : TClaim) => True) x.1 x.2) (fun x => (fun (a : TClaim) (b : TClaim) => (dB (decide (a = b)) : D)) x.1 x.2) (fun x => (fun (a : TClaim) (b : TClaim) => []) x.1 x.2)
@[simp] theorem c76_f : c76.f = 76 := rfl
@[simp] theorem c76_own : c76.own = false := rfl
theorem c76_inj : ∀ u_ v_ : TClaim × TClaim, ((fun x => (fun (a : TClaim) (b : TClaim) => [encTClaim a, encTClaim b]) x.1 x.2) u_).map nz = ((fun x => (fun (a : TClaim) (b : TClaim) => [encTClaim a, encTClaim b]) x.1 x.2) v_).map nz → u_ = v_ := by
  intro u_ v_ h
  obtain ⟨⟨a_Id, a_Who, a_Thing, a_At, a_State⟩, ⟨b_Id, b_Who, b_Thing, b_At, b_State⟩⟩ := u_
  obtain ⟨⟨a_Id', a_Who', a_Thing', a_At', a_State'⟩, ⟨b_Id', b_Who', b_Thing', b_At', b_State'⟩⟩ := v_
  simp [nz_lit, nz1_lit, nz_agg, nz_sl, nz1_sl, encTClaim] at h
  first | (simp [h]; done) | (obtain ⟨⟩ := h; simp_all; done) | simp_all
@[simp] theorem c76_fn (a_Id : Int) (a_Who : Int) (a_Thing : Int) (a_At : Int) (a_State : Int) (b_Id : Int) (b_Who : Int) (b_Thing : Int) (b_At : Int) (b_State : Int) : c76.fn [.agg [.lit (.int .i64 a_Id), .lit (.int .i64 a_Who), .lit (.int .i64 a_Thing), .lit (.int .i64 a_At), .lit (.int .i64 a_State)], .agg [.lit (.int .i64 b_Id), .lit (.int .i64 b_Who), .lit (.int .i64 b_Thing), .lit (.int .i64 b_At), .lit (.int .i64 b_State)]] [] = some ((fun (a : TClaim) (b : TClaim) => True) ⟨a_Id, a_Who, a_Thing, a_At, a_State⟩ ⟨b_Id, b_Who, b_Thing, b_At, b_State⟩, (fun (a : TClaim) (b : TClaim) => (dB (decide (a = b)) : D)) ⟨a_Id, a_Who, a_Thing, a_At, a_State⟩ ⟨b_Id, b_Who, b_Thing, b_At, b_State⟩, (fun (a : TClaim) (b : TClaim) => []) ⟨a_Id, a_Who, a_Thing, a_At, a_State⟩ ⟨b_Id, b_Who, b_Thing, b_At, b_State⟩) :=
  mkCon_fn (fun x y h _ => c76_inj x y h) ((⟨a_Id, a_Who, a_Thing, a_At, a_State⟩, ⟨b_Id, b_Who, b_Thing, b_At, b_State⟩) : TClaim × TClaim) (by simp [nz, nz1, ML_nil, encTClaim]) rfl
theorem c76_pc (a : TClaim) (b : TClaim) : PCo Tryd.prog 76 [encTClaim a, encTClaim b] (Tab.of []) (dB (decide (a = b))) (Tab.of []) := by
  obtain ⟨a_Id, a_Who, a_Thing, a_At, a_State⟩ := a
  obtain ⟨b_Id, b_Who, b_Thing, b_At, b_State⟩ := b
  refine pco_of_run [] (E := ⟨[], []⟩) (m := false) (base := 0) Env.ok_nil G_ok mix 300 6 Tryd.func76 (by kernel_rfl) rfl (by kernel_rfl) (by kernel_rfl) rfl ?_
  simp [Tryd.f76]
  all_goals first | omega | (rw [Bool.eq_iff_iff]; simp; omega) | grind
theorem c76_ok : c76.ok Tryd.prog := mkCon_ok fun ⟨a, b⟩ hpre => c76_pc a b
/-- loop.example/g03007/laws.szClaimS -/
noncomputable def c36 : Con := mkCon 36 false (α := (List TClaim) × Int) (fun x => (fun (l : List TClaim) (left : Int) => [encLTClaim l, dI left]) x.1 x.2) (fun _ => []) (fun x => (fun (l : List TClaim) (left : Int) => l.length ≤ maxLen ∧ 0 ≤ left ∧ left ≤ 1099511627776) x.1 x.2) (fun x => (fun (l : List TClaim) (left : Int) => (dI (if left - l.length < 0 then -1 else left - l.length) : D)) x.1 x.2) (fun x => (fun (l : List TClaim) (left : Int) => []) x.1 x.2)
@[simp] theorem c36_f : c36.f = 36 := rfl
@[simp] theorem c36_own : c36.own = false := rfl
theorem c36_inj : ∀ u_ v_ : (List TClaim) × Int, ((fun x => (fun (l : List TClaim) (left : Int) => [encLTClaim l, dI left]) x.1 x.2) u_).map nz = ((fun x => (fun (l : List TClaim) (left : Int) => [encLTClaim l, dI left]) x.1 x.2) v_).map nz → u_ = v_ := by
  intro u_ v_ h
  obtain ⟨l, left⟩ := u_
  obtain ⟨l', left'⟩ := v_
  simp [nz_lit, nz1_lit, nz_agg, nz_sl, nz1_sl, encLTClaim] at h
  first | (simp [h]; done) | (obtain ⟨⟩ := h; simp_all; done) | simp_all
@[simp] theorem c36_fn (l : List TClaim) (left : Int) : c36.fn [.sl false 5 yTClaim (ML encTClaim l), .lit (.int .i64 left)] [] = some ((fun (l : List TClaim) (left : Int) => l.length ≤ maxLen ∧ 0 ≤ left ∧ left ≤ 1099511627776) l left, (fun (l : List TClaim) (left : Int) => (dI (if left - l.length < 0 then -1 else left - l.length) : D)) l left, (fun (l : List TClaim) (left : Int) => []) l left) :=
  mkCon_fn (fun x y h _ => c36_inj x y h) ((l, left) : (List TClaim) × Int) (by simp [nz, nz1, ML_nil, encLTClaim]) rfl
@[simp] theorem c36_fn1 (s_l : Nat) (z_l : D) (left : Int) : c36.fn [.sl false s_l z_l [], .lit (.int .i64 left)] [] = some ((fun (l : List TClaim) (left : Int) => l.length ≤ maxLen ∧ 0 ≤ left ∧ left ≤ 1099511627776) [] left, (fun (l : List TClaim) (left : Int) => (dI (if left - l.length < 0 then -1 else left - l.length) : D)) [] left, (fun (l : List TClaim) (left : Int) => []) [] left) :=
  mkCon_fn (fun x y h _ => c36_inj x y h) (([], left) : (List TClaim) × Int) (by simp [nz, nz1, ML_nil, encLTClaim]) rfl
theorem c36_pc (l : List TClaim) (left : Int) (hpre : l.length ≤ maxLen ∧ 0 ≤ left ∧ left ≤ 1099511627776) : PCo Tryd.prog 36 [encLTClaim l, dI left] (Tab.of []) (dI (if left - l.length < 0 then -1 else left - l.length)) (Tab.of []) := by
  refine pco_of_run [] (E := ⟨[], []⟩) (m := false) (base := 0) Env.ok_nil G_ok mix 300 6 Tryd.func36 (by kernel_rfl) rfl (by kernel_rfl) (by kernel_rfl) rfl ?_
  simp [Tryd.f36]
  simp [maxLen] at hpre
  all_goals omega
theorem c36_ok : c36.ok Tryd.prog := mkCon_ok fun ⟨l, left⟩ hpre => c36_pc l left hpre
/-- loop.example/g03007/laws.toClaimS -/
noncomputable def c38 : Con := mkCon 38 false (α := (List TClaim)) (fun x => (fun (l : List TClaim) => [encLTClaim l]) x) (fun _ => []) (fun x => (fun (l : List TClaim) => l.length ≤ 1099511627776) x) (fun x => (fun (l : List TClaim) => (.own (0, 1) 5 0 l.length : D)) x) (fun x => (fun (l : List TClaim) => [((0, 1), .arr false 5 yTClaim (ML encTClaim l))]) x)
@[simp] theorem c38_f : c38.f = 38 := rfl
@[simp] theorem c38_own : c38.own = false := rfl
theorem c38_inj : ∀ u_ v_ : (List TClaim), ((fun x => (fun (l : List TClaim) => [encLTClaim l]) x) u_).map nz = ((fun x => (fun (l : List TClaim) => [encLTClaim l]) x) v_).map nz → u_ = v_ := by
  intro u_ v_ h
  obtain l := u_
  obtain l' := v_
  simp [nz_lit, nz1_lit, nz_agg, nz_sl, nz1_sl, encLTClaim] at h
  first | (simp [h]; done) | (obtain ⟨⟩ := h; simp_all; done) | simp_all
@[simp] theorem c38_fn (l : List TClaim) : c38.fn [.sl false 5 yTClaim (ML encTClaim l)] [] = some ((fun (l : List TClaim) => l.length ≤ 1099511627776) l, (fun (l : List TClaim) => (.own (0, 1) 5 0 l.length : D)) l, (fun (l : List TClaim) => [((0, 1), .arr false 5 yTClaim (ML encTClaim l))]) l) :=
  mkCon_fn (fun x y h _ => c38_inj x y h) (l : (List TClaim)) (by simp [nz, nz1, ML_nil, encLTClaim]) rfl
@[simp] theorem c38_fn1 (s_l : Nat) (z_l : D) : c38.fn [.sl false s_l z_l []] [] = some ((fun (l : List TClaim) => l.length ≤ 1099511627776) [], (fun (l : List TClaim) => (.own (0, 1) 5 0 l.length : D)) [], (fun (l : List TClaim) => [((0, 1), .arr false 5 yTClaim (ML encTClaim l))]) []) :=
  mkCon_fn (fun x y h _ => c38_inj x y h) ([] : (List TClaim)) (by simp [nz, nz1, ML_nil, encLTClaim]) rfl
theorem c38_pc (l : List TClaim) (hpre : l.length ≤ 1099511627776) : PCo Tryd.prog 38 [encLTClaim l] (Tab.of []) (.own (0, 1) 5 0 l.length) (Tab.of [((0, 1), .arr false 5 yTClaim (ML encTClaim l))]) := by
  refine pco_of_run [] (E := ⟨[c75], []⟩) (m := false) (base := 0) (Env.ok_cons c75_ok Env.ok_nil) G_ok mix 300 6 Tryd.func38 (by kernel_rfl) rfl (by kernel_rfl) (by kernel_rfl) rfl ?_
  simp [Tryd.f38]
  refine ⟨by omega, ?_⟩
  refine loop_inv (fun p : Nat => p ≤ l.length) (fun p => [(0, encLTClaim l), (3, .own (0, 1) 5 0 l.length), (4, dI p)]) (fun p => [((0, 1), .arr false 5 yTClaim (ML encTClaim (l.take p ++ List.replicate (l.length - p) ⟨0, 0, 0, 0, 0⟩)))]) 2 (fun p => l.length - p) 0 100 (by simp) (by simp) (by first | (simp; done) | (simp; simp only [ML, List.map_replicate]; rfl)) ?_
  intro p hp
  simp
  refine ⟨fun hlt => ⟨by omega, by omega, Again.mk (p + 1) (by omega) (by simp [fill_step hlt]) (by first | omega | (simp; omega))⟩, fun hge => ?_⟩
  have : p = l.length := by omega
  subst this
  simp
theorem c38_ok : c38.ok Tryd.prog := mkCon_ok fun l hpre => c38_pc l hpre
/-- loop.example/g03007/laws.eqClaimS -/
noncomputable def c40 : Con := mkCon 40 false (α := (List TClaim) × (List TClaim)) (fun x => (fun (a : List TClaim) (b : List TClaim) => [encLTClaim a, encLTClaim b]) x.1 x.2) (fun _ => []) (fun x => (fun (a : List TClaim) (b : List TClaim) => a.length ≤ 1099511627776 ∧ b.length ≤ 1099511627776) x.1 x.2) (fun x => (fun (a : List TClaim) (b : List TClaim) => (dB (decide (a = b)) : D)) x.1 x.2) (fun x => (fun (a : List TClaim) (b : List TClaim) => []) x.1 x.2)
@[simp] theorem c40_f : c40.f = 40 := rfl
@[simp] theorem c40_own : c40.own = false := rfl
theorem c40_inj : ∀ u_ v_ : (List TClaim) × (List TClaim), ((fun x => (fun (a : List TClaim) (b : List TClaim) => [encLTClaim a, encLTClaim b]) x.1 x.2) u_).map nz = ((fun x => (fun (a : List TClaim) (b : List TClaim) => [encLTClaim a, encLTClaim b]) x.1 x.2) v_).map nz → u_ = v_ := by
  intro u_ v_ h
  obtain ⟨a, b⟩ := u_
  obtain ⟨a', b'⟩ := v_
  simp [nz_lit, nz1_lit, nz_agg, nz_sl, nz1_sl, encLTClaim] at h
  first | (simp [h]; done) | (obtain ⟨⟩ := h; simp_all; done) | simp_all
@[simp] theorem c40_fn (a : List TClaim) (b : List TClaim) : c40.fn [.sl false 5 yTClaim (ML encTClaim a), .sl false 5 yTClaim (ML encTClaim b)] [] = some ((fun (a : List TClaim) (b : List TClaim) => a.length ≤ 1099511627776 ∧ b.length ≤ 1099511627776) a b, (fun (a : List TClaim) (b : List TClaim) => (dB (decide (a = b)) : D)) a b, (fun (a : List TClaim) (b : List TClaim) => []) a b) :=
  mkCon_fn (fun x y h _ => c40_inj x y h) ((a, b) : (List TClaim) × (List TClaim)) (by simp [nz, nz1, ML_nil, encLTClaim]) rfl
@[simp] theorem c40_fn1 (s_a : Nat) (z_a : D) (b : List TClaim) : c40.fn [.sl false s_a z_a [], .sl false 5 yTClaim (ML encTClaim b)] [] = some ((fun (a : List TClaim) (b : List TClaim) => a.length ≤ 1099511627776 ∧ b.length ≤ 1099511627776) [] b, (fun (a : List TClaim) (b : List TClaim) => (dB (decide (a = b)) : D)) [] b, (fun (a : List TClaim) (b : List TClaim) => []) [] b) :=
  mkCon_fn (fun x y h _ => c40_inj x y h) (([], b) : (List TClaim) × (List TClaim)) (by simp [nz, nz1, ML_nil, encLTClaim]) rfl
@[simp] theorem c40_fn2 (a : List TClaim) (s_b : Nat) (z_b : D) : c40.fn [.sl false 5 yTClaim (ML encTClaim a), .sl false s_b z_b []] [] = some ((fun (a : List TClaim) (b : List TClaim) => a.length ≤ 1099511627776 ∧ b.length ≤ 1099511627776) a [], (fun (a : List TClaim) (b : List TClaim) => (dB (decide (a = b)) : D)) a [], (fun (a : List TClaim) (b : List TClaim) => []) a []) :=
  mkCon_fn (fun x y h _ => c40_inj x y h) ((a, []) : (List TClaim) × (List TClaim)) (by simp [nz, nz1, ML_nil, encLTClaim]) rfl
@[simp] theorem c40_fn3 (s_a : Nat) (z_a : D) (s_b : Nat) (z_b : D) : c40.fn [.sl false s_a z_a [], .sl false s_b z_b []] [] = some ((fun (a : List TClaim) (b : List TClaim) => a.length ≤ 1099511627776 ∧ b.length ≤ 1099511627776) [] [], (fun (a : List TClaim) (b : List TClaim) => (dB (decide (a = b)) : D)) [] [], (fun (a : List TClaim) (b : List TClaim) => []) [] []) :=
  mkCon_fn (fun x y h _ => c40_inj x y h) (([], []) : (List TClaim) × (List TClaim)) (by simp [nz, nz1, ML_nil, encLTClaim]) rfl
theorem c40_pc (a : List TClaim) (b : List TClaim) (hpre : a.length ≤ 1099511627776 ∧ b.length ≤ 1099511627776) : PCo Tryd.prog 40 [encLTClaim a, encLTClaim b] (Tab.of []) (dB (decide (a = b))) (Tab.of []) := by
  refine pco_of_run [] (E := ⟨[c76], []⟩) (m := false) (base := 0) (Env.ok_cons c76_ok Env.ok_nil) G_ok mix 300 6 Tryd.func40 (by kernel_rfl) rfl (by kernel_rfl) (by kernel_rfl) rfl ?_
  simp [Tryd.f40]
  obtain ⟨pre1, pre2⟩ := hpre
  refine ⟨fun h => ?_, fun h => by intro e; subst e; exact absurd rfl h⟩
  refine loop_inv (fun p : Nat => p ≤ a.length ∧ a.take p = b.take p) (fun p => [(0, encLTClaim a), (1, encLTClaim b), (5, dI p)]) (fun _ => []) 1 (fun p => a.length - p) 0 100 (by simp) (by simp) (by simp) ?_
  intro p ⟨hp, hi⟩
  simp
  refine ⟨fun hlt => ⟨by omega, fun h2 => ⟨by omega, Again.mk (p + 1) ⟨by omega, take_eq_step hi (by omega) (by omega) h2⟩ (by simp) (by first | omega | (simp; omega))⟩, fun h2 => by intro e; subst e; exact absurd rfl h2⟩, fun hge => ?_⟩
  exact take_eq_full hi (by omega) (by omega)
theorem c40_ok : c40.ok Tryd.prog := mkCon_ok fun ⟨a, b⟩ hpre => c40_pc a b hpre
def stateIs (k : Int) (x : TClaim) : Bool := decide (x.State = k)
abbrev Gc := List (Int × List TClaim)
@[simp] def kTh (x : TClaim) : Int := x.Thing
abbrev bkC (l : List TClaim) : Gc := grpL kTh l
@[simp] theorem grpC_inj (g g' : Gc) : (keysG g = keysG g' ∧ rowsG encTClaim g = rowsG encTClaim g') ↔ g = g' := ⟨fun h => grp_inj inj_TClaim g g' h.1 h.2, fun h => by rw [h]; exact ⟨rfl, rfl⟩⟩
@[simp] theorem grpC_inj2 (g g' : Gc) : (keysG g = keysG g' ∧ rowsD 5 yTClaim (rowsG encTClaim g) = rowsD 5 yTClaim (rowsG encTClaim g')) ↔ g = g' := ⟨fun h => grp_inj inj_TClaim g g' h.1 (rowsD_inj _ _ h.2), fun h => by rw [h]; exact ⟨rfl, rfl⟩⟩
@[simp] theorem rowsC_flat (g : Gc) : (rowsG encTClaim g).all flatDs = true := rows_flat (fun _ => rfl) g
@[simp] theorem lookC (g : Gc) (k : Int) : (lookK (keysG g) (rowsD 5 yTClaim (rowsG encTClaim g)) [k]).getD (.sl false 5 yTClaim []) = .sl false 5 yTClaim (ML encTClaim (getG g k)) := look_G _ _ _ g k
/-- (*loop.example/g03007/impl.claimBook).note -/
noncomputable def c128 : Con := mkCon 128 true (α := Gc × TClaim) (fun x => (fun (g : Gc) (x : TClaim) => ([.ptr (0, 0) 0, encTClaim x] : List D)) x.1 x.2) (fun x => (fun (g : Gc) (x : TClaim) => ([((0, 0), .box (.agg [.mp (1, 0)])), ((1, 0), .rmap 0 (keysG g) 5 yTClaim (rowsG encTClaim g) none)] : List (Nm × OO))) x.1 x.2) (fun x => (fun (g : Gc) (x : TClaim) => (getG g x.Thing).length ≤ 1073741823) x.1 x.2) (fun x => (fun (g : Gc) (x : TClaim) => (.tup [] : D)) x.1 x.2) (fun x => (fun (g : Gc) (x : TClaim) => ([((0, 0), .box (.agg [.mp (1, 0)])), ((1, 0), .rmap 0 (keysG (addG g x.Thing x)) 5 yTClaim (rowsG encTClaim (addG g x.Thing x)) none)] : List (Nm × OO))) x.1 x.2)
@[simp] theorem c128_f : c128.f = 128 := rfl
@[simp] theorem c128_own : c128.own = true := rfl
theorem c128_inj : ∀ u_ v_ : Gc × TClaim, ((fun x => (fun (g : Gc) (x : TClaim) => ([.ptr (0, 0) 0, encTClaim x] : List D)) x.1 x.2) u_).map nz = ((fun x => (fun (g : Gc) (x : TClaim) => ([.ptr (0, 0) 0, encTClaim x] : List D)) x.1 x.2) v_).map nz → (fun x => (fun (g : Gc) (x : TClaim) => ([((0, 0), .box (.agg [.mp (1, 0)])), ((1, 0), .rmap 0 (keysG g) 5 yTClaim (rowsG encTClaim g) none)] : List (Nm × OO))) x.1 x.2) u_ = (fun x => (fun (g : Gc) (x : TClaim) => ([((0, 0), .box (.agg [.mp (1, 0)])), ((1, 0), .rmap 0 (keysG g) 5 yTClaim (rowsG encTClaim g) none)] : List (Nm × OO))) x.1 x.2) v_ → u_ = v_ := by
  intro u_ v_ h h2_
  obtain ⟨g, ⟨x_Id, x_Who, x_Thing, x_At, x_State⟩⟩ := u_
  obtain ⟨g', ⟨x_Id', x_Who', x_Thing', x_At', x_State'⟩⟩ := v_
  simp [nz_lit, nz1_lit, nz_agg, nz_sl, nz1_sl, nz_sx, nz_el, nz1_el, nz_own, nz1_own, nz_ptr, nz_fn, nz_iface] at h h2_
  first | (simp [h, h2_]; done) | (obtain ⟨h3_, h4_⟩ := List.append_inj h2_ h.1; simp_all; done) | simp_all | grind
@[simp] theorem c128_fn (g : Gc) (x_Id : Int) (x_Who : Int) (x_Thing : Int) (x_At : Int) (x_State : Int) : c128.fn ([.ptr (0, 0) 0, .agg [.lit (.int .i64 x_Id), .lit (.int .i64 x_Who), .lit (.int .i64 x_Thing), .lit (.int .i64 x_At), .lit (.int .i64 x_State)]]) ([((0, 0), .box (.agg [.mp (1, 0)])), ((1, 0), .rmap 0 (keysG g) 5 yTClaim (rowsG encTClaim g) none)]) = some ((getG g (⟨x_Id, x_Who, x_Thing, x_At, x_State⟩ : TClaim).Thing).length ≤ 1073741823, .tup [], [((0, 0), .box (.agg [.mp (1, 0)])), ((1, 0), .rmap 0 (keysG (addG g (⟨x_Id, x_Who, x_Thing, x_At, x_State⟩ : TClaim).Thing (⟨x_Id, x_Who, x_Thing, x_At, x_State⟩ : TClaim))) 5 yTClaim (rowsG encTClaim (addG g (⟨x_Id, x_Who, x_Thing, x_At, x_State⟩ : TClaim).Thing (⟨x_Id, x_Who, x_Thing, x_At, x_State⟩ : TClaim))) none)]) :=
  mkCon_fn c128_inj ((g, ⟨x_Id, x_Who, x_Thing, x_At, x_State⟩) : Gc × TClaim) rfl rfl
theorem c128_pc (g : Gc) (x : TClaim) (hpre : (getG g x.Thing).length ≤ 1073741823) : PCo Tryd.prog 128 ([.ptr (0, 0) 0, encTClaim x]) (Tab.of ([((0, 0), .box (.agg [.mp (1, 0)])), ((1, 0), .rmap 0 (keysG g) 5 yTClaim (rowsG encTClaim g) none)])) (.tup []) (Tab.of ([((0, 0), .box (.agg [.mp (1, 0)])), ((1, 0), .rmap 0 (keysG (addG g x.Thing x)) 5 yTClaim (rowsG encTClaim (addG g x.Thing x)) none)])) := by
  refine pco_of_run [1001] (E := ⟨[], []⟩) (m := false) (base := 0) Env.ok_nil G_ok mix 300 6 Tryd.func128 (by kernel_rfl) rfl (by kernel_rfl) (by kernel_rfl) rfl ?_
  obtain ⟨a, b, c, d, e⟩ := x
  simp only at hpre ⊢
  cases hp : posK [c] (keysG g) with
  | none =>
    have hn := posK_none_G hp
    simp [Tryd.f128, hp]
    exact ⟨keys_add .., rows_add _ _ _ _ _ (by rw [hn]; rfl)⟩
  | some j =>
    have hn := rows_at2 (enc := encTClaim) hp
    have hn2 := rows_at (enc := encTClaim) hp
    simp [Tryd.f128, hp, -rowsG_at, -rowsG_at2, hn, hn2]
    exact ⟨by omega, keys_add .., rows_add _ _ _ _ _ rfl⟩
theorem c128_ok : c128.ok Tryd.prog := mkCon_ok fun ⟨g, x⟩ hpre => c128_pc g x hpre
theorem getC_len (l : List TClaim) (k : Int) : (getG (bkC l) k).length ≤ l.length := by rw [getG_grp]; exact List.length_filter_le _ _
/-- loop.example/g03007/impl.newClaimBook -/
noncomputable def c117 : Con := mkCon 117 false (α := (List TClaim)) (fun x => (fun (l : List TClaim) => [encLTClaim l]) x) (fun _ => []) (fun x => (fun (l : List TClaim) => l.length ≤ 1073741823) x) (fun x => (fun (l : List TClaim) => (.el (.agg [.fm 0 (keysG (bkC l)) (.sl false 5 yTClaim []) (rowsD 5 yTClaim (rowsG encTClaim (bkC l)))]) : D)) x) (fun x => (fun (l : List TClaim) => []) x)
@[simp] theorem c117_f : c117.f = 117 := rfl
@[simp] theorem c117_own : c117.own = false := rfl
theorem c117_inj : ∀ u_ v_ : (List TClaim), ((fun x => (fun (l : List TClaim) => [encLTClaim l]) x) u_).map nz = ((fun x => (fun (l : List TClaim) => [encLTClaim l]) x) v_).map nz → u_ = v_ := by
  intro u_ v_ h
  obtain l := u_
  obtain l' := v_
  simp [nz_lit, nz1_lit, nz_agg, nz_sl, nz1_sl, encLTClaim] at h
  first | (simp [h]; done) | (obtain ⟨⟩ := h; simp_all; done) | simp_all
@[simp] theorem c117_fn (l : List TClaim) : c117.fn [.sl false 5 yTClaim (ML encTClaim l)] [] = some ((fun (l : List TClaim) => l.length ≤ 1073741823) l, (fun (l : List TClaim) => (.el (.agg [.fm 0 (keysG (bkC l)) (.sl false 5 yTClaim []) (rowsD 5 yTClaim (rowsG encTClaim (bkC l)))]) : D)) l, (fun (l : List TClaim) => []) l) :=
  mkCon_fn (fun x y h _ => c117_inj x y h) (l : (List TClaim)) (by simp [nz, nz1, ML_nil, encLTClaim]) rfl
@[simp] theorem c117_fn1 (s_l : Nat) (z_l : D) : c117.fn [.sl false s_l z_l []] [] = some ((fun (l : List TClaim) => l.length ≤ 1073741823) [], (fun (l : List TClaim) => (.el (.agg [.fm 0 (keysG (bkC l)) (.sl false 5 yTClaim []) (rowsD 5 yTClaim (rowsG encTClaim (bkC l)))]) : D)) [], (fun (l : List TClaim) => []) []) :=
  mkCon_fn (fun x y h _ => c117_inj x y h) ([] : (List TClaim)) (by simp [nz, nz1, ML_nil, encLTClaim]) rfl
theorem c117_pc (l : List TClaim) (hpre : l.length ≤ 1073741823) : PCo Tryd.prog 117 [encLTClaim l] (Tab.of []) (.el (.agg [.fm 0 (keysG (bkC l)) (.sl false 5 yTClaim []) (rowsD 5 yTClaim (rowsG encTClaim (bkC l)))])) (Tab.of []) := by
  refine pco_of_run [] (E := ⟨[c128, c128], []⟩) (m := false) (base := 0) (Env.ok_cons c128_ok (Env.ok_cons c128_ok Env.ok_nil)) G_ok mix 300 6 Tryd.func117 (by kernel_rfl) rfl (by kernel_rfl) (by kernel_rfl) rfl ?_
  simp [Tryd.f117]
  refine loop_inv (fun p : Nat => p ≤ l.length) (fun p => [(3, .ptr (0, 1) 0), (9, encLTClaim l), (10, dI l.length), (11, dI p)]) (fun p => [((0, 1), .box (.agg [.mp (1, 1)])), ((1, 1), .rmap 0 (keysG (bkC (l.take p))) 5 yTClaim (rowsG encTClaim (bkC (l.take p))) none)]) 2 (fun p => l.length - p) 0 400 (by simp) (by simp) (by simp) ?_
  intro p hp
  simp
  refine ⟨fun hlt => ?_, fun hge => ?_⟩
  · have hs := grpL_take (key := kTh) (d := default) hlt
    have hb := getC_len (l.take p) (l[p]?.getD default).Thing
    have hb2 : (l.take p).length ≤ p := by simp; omega
    repeat' (first | omega | refine And.intro ?_ ?_ | intro _)
    refine Again.mk (p + 1) (by omega) (by simp [hs]) (by first | omega | (simp; omega))
  · rw [List.take_of_length_le hge]
theorem c117_ok : c117.ok Tryd.prog := mkCon_ok fun l hpre => c117_pc l hpre
/-- loop.example/g03007/impl.countState$1 -/
noncomputable def c130 : Con := mkCon 130 false (α := TClaim × Int) (fun x => (fun (x : TClaim) (k : Int) => ([encTClaim x, .el (dI k)] : List D)) x.1 x.2) (fun x => (fun (x : TClaim) (k : Int) => ([] : List (Nm × OO))) x.1 x.2) (fun x => (fun (x : TClaim) (k : Int) => True) x.1 x.2) (fun x => (fun (x : TClaim) (k : Int) => (dB (stateIs k x) : D)) x.1 x.2) (fun x => (fun (x : TClaim) (k : Int) => ([] : List (Nm × OO))) x.1 x.2)
@[simp] theorem c130_f : c130.f = 130 := rfl
@[simp] theorem c130_own : c130.own = false := rfl
theorem c130_inj : ∀ u_ v_ : TClaim × Int, ((fun x => (fun (x : TClaim) (k : Int) => ([encTClaim x, .el (dI k)] : List D)) x.1 x.2) u_).map nz = ((fun x => (fun (x : TClaim) (k : Int) => ([encTClaim x, .el (dI k)] : List D)) x.1 x.2) v_).map nz → (fun x => (fun (x : TClaim) (k : Int) => ([] : List (Nm × OO))) x.1 x.2) u_ = (fun x => (fun (x : TClaim) (k : Int) => ([] : List (Nm × OO))) x.1 x.2) v_ → u_ = v_ := by
  intro u_ v_ h h2_
  obtain ⟨⟨x_Id, x_Who, x_Thing, x_At, x_State⟩, k⟩ := u_
  obtain ⟨⟨x_Id', x_Who', x_Thing', x_At', x_State'⟩, k'⟩ := v_
  simp [nz_lit, nz1_lit, nz_agg, nz_sl, nz1_sl, nz_sx, nz_el, nz1_el, nz_own, nz1_own, nz_ptr, nz_fn, nz_iface] at h h2_
  first | (simp [h, h2_]; done) | (obtain ⟨h3_, h4_⟩ := List.append_inj h2_ h.1; simp_all; done) | simp_all | grind
@[simp] theorem c130_fn (x_Id : Int) (x_Who : Int) (x_Thing : Int) (x_At : Int) (x_State : Int) (k : Int) : c130.fn ([.agg [.lit (.int .i64 x_Id), .lit (.int .i64 x_Who), .lit (.int .i64 x_Thing), .lit (.int .i64 x_At), .lit (.int .i64 x_State)], .el (dI k)]) ([]) = some (True, dB (stateIs k (⟨x_Id, x_Who, x_Thing, x_At, x_State⟩ : TClaim)), []) :=
  mkCon_fn c130_inj ((⟨x_Id, x_Who, x_Thing, x_At, x_State⟩, k) : TClaim × Int) rfl rfl
theorem c130_pc (x : TClaim) (k : Int) : PCo Tryd.prog 130 ([encTClaim x, .el (dI k)]) (Tab.of ([])) (dB (stateIs k x)) (Tab.of ([])) := by
  refine pco_of_run [] (E := ⟨[], []⟩) (m := false) (base := 0) Env.ok_nil G_ok mix 300 6 Tryd.func130 (by kernel_rfl) rfl (by kernel_rfl) (by kernel_rfl) rfl ?_
  simp [Tryd.f130]
  first | done | rfl
theorem c130_ok : c130.ok Tryd.prog := mkCon_ok fun ⟨x, k⟩ hpre => c130_pc x k
/-- loop.example/g03007/impl.countWhere[loop.example/g03007/impl.Claim] -/
noncomputable def c129 : Con := mkCon 129 false (α := (List TClaim) × Int) (fun x => (fun (l : List TClaim) (k : Int) => ([encLTClaim l, .fn (.func 130) [] [.el (dI k)]] : List D)) x.1 x.2) (fun x => (fun (l : List TClaim) (k : Int) => ([] : List (Nm × OO))) x.1 x.2) (fun x => (fun (l : List TClaim) (k : Int) => l.length ≤ 1099511627776) x.1 x.2) (fun x => (fun (l : List TClaim) (k : Int) => (dI (l.countP (stateIs k)) : D)) x.1 x.2) (fun x => (fun (l : List TClaim) (k : Int) => ([] : List (Nm × OO))) x.1 x.2)
@[simp] theorem c129_f : c129.f = 129 := rfl
@[simp] theorem c129_own : c129.own = false := rfl
theorem c129_inj : ∀ u_ v_ : (List TClaim) × Int, ((fun x => (fun (l : List TClaim) (k : Int) => ([encLTClaim l, .fn (.func 130) [] [.el (dI k)]] : List D)) x.1 x.2) u_).map nz = ((fun x => (fun (l : List TClaim) (k : Int) => ([encLTClaim l, .fn (.func 130) [] [.el (dI k)]] : List D)) x.1 x.2) v_).map nz → (fun x => (fun (l : List TClaim) (k : Int) => ([] : List (Nm × OO))) x.1 x.2) u_ = (fun x => (fun (l : List TClaim) (k : Int) => ([] : List (Nm × OO))) x.1 x.2) v_ → u_ = v_ := by
  intro u_ v_ h h2_
  obtain ⟨l, k⟩ := u_
  obtain ⟨l', k'⟩ := v_
  simp [nz_lit, nz1_lit, nz_agg, nz_sl, nz1_sl, nz_sx, nz_el, nz1_el, nz_own, nz1_own, nz_ptr, nz_fn, nz_iface] at h h2_
  first | (simp [h, h2_]; done) | (obtain ⟨h3_, h4_⟩ := List.append_inj h2_ h.1; simp_all; done) | simp_all | grind
@[simp] theorem c129_fn (l : List TClaim) (k : Int) : c129.fn ([(.sl false 5 yTClaim (ML encTClaim l)), .fn (.func 130) [] [.el (dI k)]]) ([]) = some (l.length ≤ 1099511627776, dI (l.countP (stateIs k)), []) :=
  mkCon_fn c129_inj ((l, k) : (List TClaim) × Int) rfl rfl
theorem c129_pc (l : List TClaim) (k : Int) (hpre : l.length ≤ 1099511627776) : PCo Tryd.prog 129 ([encLTClaim l, .fn (.func 130) [] [.el (dI k)]]) (Tab.of ([])) (dI (l.countP (stateIs k))) (Tab.of ([])) := by
  refine pco_of_run [] (E := ⟨[c130], []⟩) (m := false) (base := 0) (Env.ok_cons c130_ok Env.ok_nil) G_ok mix 300 6 Tryd.func129 (by kernel_rfl) rfl (by kernel_rfl) (by kernel_rfl) rfl ?_
  simp [Tryd.f129]
  refine loop_inv (fun p : Nat => p ≤ l.length) (fun p => [(1, .fn (.func 130) [] [.el (dI k)]), (5, dI ((l.take p).countP (stateIs k))), (8, encLTClaim l), (9, dI l.length), (10, dI p)]) (fun _ => []) 1 (fun p => l.length - p) 0 400 (by simp) (by simp) (by simp) ?_
  intro p hp
  simp
  refine ⟨fun hlt => ?_, fun hge => ?_⟩
  · have hs := countP_at (want := stateIs k) (d := default) hlt
    have hb := countP_take (want := stateIs k) (l := l) (p := p)
    repeat' (first | omega | refine And.intro ?_ ?_ | intro _)
    all_goals (rename_i hw; refine Again.mk (p + 1) (by omega) (by simp [hs, hw]) (by first | omega | (simp; omega)))
  · rw [List.take_of_length_le hge]
theorem c129_ok : c129.ok Tryd.prog := mkCon_ok fun ⟨l, k⟩ hpre => c129_pc l k hpre
/-- loop.example/g03007/impl.countState -/
noncomputable def c118 : Con := mkCon 118 false (α := (List TClaim) × Int) (fun x => (fun (l : List TClaim) (k : Int) => [encLTClaim l, dI k]) x.1 x.2) (fun _ => []) (fun x => (fun (l : List TClaim) (k : Int) => l.length ≤ 1099511627776) x.1 x.2) (fun x => (fun (l : List TClaim) (k : Int) => (dI (l.countP (stateIs k)) : D)) x.1 x.2) (fun x => (fun (l : List TClaim) (k : Int) => []) x.1 x.2)
@[simp] theorem c118_f : c118.f = 118 := rfl
@[simp] theorem c118_own : c118.own = false := rfl
theorem c118_inj : ∀ u_ v_ : (List TClaim) × Int, ((fun x => (fun (l : List TClaim) (k : Int) => [encLTClaim l, dI k]) x.1 x.2) u_).map nz = ((fun x => (fun (l : List TClaim) (k : Int) => [encLTClaim l, dI k]) x.1 x.2) v_).map nz → u_ = v_ := by
  intro u_ v_ h
  obtain ⟨l, k⟩ := u_
  obtain ⟨l', k'⟩ := v_
  simp [nz_lit, nz1_lit, nz_agg, nz_sl, nz1_sl, encLTClaim] at h
  first | (simp [h]; done) | (obtain ⟨⟩ := h; simp_all; done) | simp_all
@[simp] theorem c118_fn (l : List TClaim) (k : Int) : c118.fn [.sl false 5 yTClaim (ML encTClaim l), .lit (.int .i64 k)] [] = some ((fun (l : List TClaim) (k : Int) => l.length ≤ 1099511627776) l k, (fun (l : List TClaim) (k : Int) => (dI (l.countP (stateIs k)) : D)) l k, (fun (l : List TClaim) (k : Int) => []) l k) :=
  mkCon_fn (fun x y h _ => c118_inj x y h) ((l, k) : (List TClaim) × Int) (by simp [nz, nz1, ML_nil, encLTClaim]) rfl
@[simp] theorem c118_fn1 (s_l : Nat) (z_l : D) (k : Int) : c118.fn [.sl false s_l z_l [], .lit (.int .i64 k)] [] = some ((fun (l : List TClaim) (k : Int) => l.length ≤ 1099511627776) [] k, (fun (l : List TClaim) (k : Int) => (dI (l.countP (stateIs k)) : D)) [] k, (fun (l : List TClaim) (k : Int) => []) [] k) :=
  mkCon_fn (fun x y h _ => c118_inj x y h) (([], k) : (List TClaim) × Int) (by simp [nz, nz1, ML_nil, encLTClaim]) rfl
theorem c118_pc (l : List TClaim) (k : Int) (hpre : l.length ≤ 1099511627776) : PCo Tryd.prog 118 [encLTClaim l, dI k] (Tab.of []) (dI (l.countP (stateIs k))) (Tab.of []) := by
  refine pco_of_run [] (E := ⟨[c129, c130], []⟩) (m := false) (base := 0) (Env.ok_cons c129_ok (Env.ok_cons c130_ok Env.ok_nil)) G_ok mix 300 6 Tryd.func118 (by kernel_rfl) rfl (by kernel_rfl) (by kernel_rfl) rfl ?_
  simp [Tryd.f118]
  exact hpre
theorem c118_ok : c118.ok Tryd.prog := mkCon_ok fun ⟨l, k⟩ hpre => c118_pc l k hpre
def twice (g : Gc) : Bool := g.any fun p => decide (1 < p.2.countP (stateIs 3))
def okTwice (g : Gc) (l : List Nat) : Prop := l.Nodup ∧ (∀ i ∈ l, i < g.length) ∧ ∀ i ∈ l, ¬ 1 < (rowAt g i).countP (stateIs 3)
@[simp] def nClaim (x : TClaim) : Int := x.Id
def mIsClaim (x : TClaim) : Bool := mIn x.Id 1 999 && mIn x.Who 1 999 && mIn x.Thing 1 999 && mIn x.At 0 100000 && mIn x.State 0 3
def sameServed (x y : TClaim) : Bool := stateIs 3 x && (stateIs 3 y && decide (y.Thing = x.Thing))
def dupC : List TClaim → List TClaim → Bool
  | _, [] => false
  | b, x :: r => b.any (sameServed x) || dupC (b ++ [x]) r
theorem count_any {l : List TClaim} {f w : TClaim → Bool} : 0 < (l.filter f).countP w ↔ ∃ y ∈ l, f y = true ∧ w y = true := by
  rw [List.countP_pos_iff]
  constructor
  · rintro ⟨y, hy, h⟩; exact ⟨y, (List.mem_filter.1 hy).1, (List.mem_filter.1 hy).2, h⟩
  · rintro ⟨y, hy, h1, h2⟩; exact ⟨y, List.mem_filter.2 ⟨hy, h1⟩, h2⟩
theorem twice_snoc (b : List TClaim) (x : TClaim) : twice (bkC (b ++ [x])) = (twice (bkC b) || b.any (sameServed x)) := by
  have e : (stateIs 3 x && decide (0 < (getG (bkC b) (kTh x)).countP (stateIs 3))) = b.any (sameServed x) := by
    rw [bkC, getG_grp, Bool.eq_iff_iff, Bool.and_eq_true, decide_eq_true_eq, count_any, List.any_eq_true]
    simp only [sameServed, Bool.and_eq_true, decide_eq_true_eq, kTh]
    constructor
    · rintro ⟨h, y, h1, h2, h3⟩; exact ⟨y, h1, h, h3, of_decide_eq_true h2⟩
    · rintro ⟨y, h1, h, h3, h2⟩; exact ⟨h, y, h1, decide_eq_true h2, h3⟩
  rw [← e]
  simp only [twice, bkC, grpL_snoc]
  rw [any_addG]
theorem twice_dup : ∀ (r b : List TClaim), (twice (bkC b) || dupC b r) = twice (bkC (b ++ r))
  | [], b => by simp [dupC]
  | x :: r, b => by
    have := twice_dup r (b ++ [x])
    rw [dupC, ← Bool.or_assoc, ← twice_snoc, this]; simp
theorem twice_eq (l : List TClaim) : twice (bkC l) = dupC [] l := by
  have := twice_dup l []
  simpa [twice, bkC] using this.symm
def mAreClaims (l : List TClaim) : Bool := decide (l.length ≤ 20) && ascBy mIsClaim nClaim none l && !dupC [] l
theorem bk_len {l : List TClaim} {n : Nat} (h : l.length ≤ n) : ∀ p ∈ bkC l, p.2.length ≤ n := by
  intro p hp
  have := grp_len kTh l p hp
  omega
def goC (l : List TClaim) (p : Nat) : Bool := ascBy mIsClaim nClaim (prevO nClaim l p) (l.drop p) && !dupC (l.take p) (l.drop p)
theorem goC_at {l : List TClaim} {p : Nat} (h : p < l.length) : goC l p = (mIsClaim (l[p]?.getD default) && decide (0 < p → nClaim (l[p - 1]?.getD default) < nClaim (l[p]?.getD default)) && !(l.take p).any (sameServed (l[p]?.getD default)) && goC l (p + 1)) := by
  simp only [goC]
  rw [ascBy_at h, drop_at (d := default) h, dupC, take_at (d := default) h]
  cases mIsClaim (l[p]?.getD default) <;> cases (l.take p).any (sameServed (l[p]?.getD default)) <;> simp [Bool.and_assoc]
theorem take_get {α : Type} {l : List α} {p k : Nat} {d : α} (h : k < p) : (l.take p)[k]?.getD d = l[k]?.getD d := by
  rw [List.getElem?_take_of_lt h]
theorem mAre_goC (l : List TClaim) : mAreClaims l = (decide (l.length ≤ 20) && goC l 0) := by
  simp [mAreClaims, goC, Bool.and_assoc]
end Go.Proofs.YtobofamoagbacaaDoor
