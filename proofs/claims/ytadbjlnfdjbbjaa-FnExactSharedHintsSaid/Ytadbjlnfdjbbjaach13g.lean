/- Contracts of the functions that the laws run. -/
import Derived.Test.Ytadbjlnfdjbbjaagrp
import Derived.Test.Ytadbjlnfdjbbjaaascg
import Derived.Test.YtadbjlnfdjbbjaahelpA
import Derived.Test.YtadbjlnfdjbbjaaEngB
namespace Go.Proofs.Ytadbjlnfdjbbjaa
open Go Go.Eng
set_option linter.unusedSimpArgs false
set_option linter.unusedVariables false
set_option maxRecDepth 10000
set_option maxHeartbeats 1000000
/-- loop.example/g03007/laws.toClaim -/
noncomputable def c31 : Con := mkCon 31 false (α := TClaim) (fun x => (fun (a : TClaim) => [encTClaim a]) x) (fun _ => []) (fun x => (fun (a : TClaim) => True) x) (fun x => (fun (a : TClaim) => (encTClaim a : D)) x) (fun x => (fun (a : TClaim) => []) x)
@[simp] theorem c31_f : c31.f = 31 := rfl
@[simp] theorem c31_own : c31.own = false := rfl
theorem c31_inj : ∀ u_ v_ : TClaim, ((fun x => (fun (a : TClaim) => [encTClaim a]) x) u_).map nz = ((fun x => (fun (a : TClaim) => [encTClaim a]) x) v_).map nz → u_ = v_ := by
  intro u_ v_ h
  obtain ⟨a_Id, a_Who, a_Thing, a_At, a_State⟩ := u_
  obtain ⟨a_Id', a_Who', a_Thing', a_At', a_State'⟩ := v_
  simp [nz_lit, nz1_lit, nz_agg, nz_sl, nz1_sl, encTClaim] at h
  first | (simp [h]; done) | (obtain ⟨⟩ := h; simp_all; done) | simp_all
@[simp] theorem c31_fn (a_Id : Int) (a_Who : Int) (a_Thing : Int) (a_At : Int) (a_State : Int) : c31.fn [.agg [.lit (.int .i64 a_Id), .lit (.int .i64 a_Who), .lit (.int .i64 a_Thing), .lit (.int .i64 a_At), .lit (.int .i64 a_State)]] [] = some ((fun (a : TClaim) => True) ⟨a_Id, a_Who, a_Thing, a_At, a_State⟩, (fun (a : TClaim) => (encTClaim a : D)) ⟨a_Id, a_Who, a_Thing, a_At, a_State⟩, (fun (a : TClaim) => []) ⟨a_Id, a_Who, a_Thing, a_At, a_State⟩) :=
  mkCon_fn (fun x y h _ => c31_inj x y h) (⟨a_Id, a_Who, a_Thing, a_At, a_State⟩ : TClaim) (by simp [nz, nz1, ML_nil, encTClaim]) rfl
theorem c31_pc (a : TClaim) : PCo Try.prog 31 [encTClaim a] (Tab.of []) (encTClaim a) (Tab.of []) := by
  obtain ⟨a_Id, a_Who, a_Thing, a_At, a_State⟩ := a
  refine pco_of_run [] (E := ⟨[], []⟩) (m := false) (base := 0) Env.ok_nil G_ok mix 300 6 Try.func31 (by kernel_rfl) rfl (by kernel_rfl) (by kernel_rfl) rfl ?_
  simp [Try.f31]
  all_goals first | omega | (rw [Bool.eq_iff_iff]; simp; omega) | grind
theorem c31_ok : c31.ok Try.prog := mkCon_ok fun a hpre => c31_pc a
/-- loop.example/g03007/laws.eqClaim -/
noncomputable def c101 : Con := mkCon 101 false (α := TClaim × TClaim) (fun x => (fun (a : TClaim) (b : TClaim) => [encTClaim a, encTClaim b]) x.1 x.2) (fun _ => []) (fun x => (fun (a : TClaim) (b : TClaim) => True) x.1 x.2) (fun x => (fun (a : TClaim) (b : TClaim) => (dB (decide (a = b)) : D)) x.1 x.2) (fun x => (fun (a : TClaim) (b : TClaim) => []) x.1 x.2)
@[simp] theorem c101_f : c101.f = 101 := rfl
@[simp] theorem c101_own : c101.own = false := rfl
theorem c101_inj : ∀ u_ v_ : TClaim × TClaim, ((fun x => (fun (a : TClaim) (b : TClaim) => [encTClaim a, encTClaim b]) x.1 x.2) u_).map nz = ((fun x => (fun (a : TClaim) (b : TClaim) => [encTClaim a, encTClaim b]) x.1 x.2) v_).map nz → u_ = v_ := by
  intro u_ v_ h
  obtain ⟨⟨a_Id, a_Who, a_Thing, a_At, a_State⟩, ⟨b_Id, b_Who, b_Thing, b_At, b_State⟩⟩ := u_
  obtain ⟨⟨a_Id', a_Who', a_Thing', a_At', a_State'⟩, ⟨b_Id', b_Who', b_Thing', b_At', b_State'⟩⟩ := v_
  simp [nz_lit, nz1_lit, nz_agg, nz_sl, nz1_sl, encTClaim] at h
  first | (simp [h]; done) | (obtain ⟨⟩ := h; simp_all; done) | simp_all
@[simp] theorem c101_fn (a_Id : Int) (a_Who : Int) (a_Thing : Int) (a_At : Int) (a_State : Int) (b_Id : Int) (b_Who : Int) (b_Thing : Int) (b_At : Int) (b_State : Int) : c101.fn [.agg [.lit (.int .i64 a_Id), .lit (.int .i64 a_Who), .lit (.int .i64 a_Thing), .lit (.int .i64 a_At), .lit (.int .i64 a_State)], .agg [.lit (.int .i64 b_Id), .lit (.int .i64 b_Who), .lit (.int .i64 b_Thing), .lit (.int .i64 b_At), .lit (.int .i64 b_State)]] [] = some ((fun (a : TClaim) (b : TClaim) => True) ⟨a_Id, a_Who, a_Thing, a_At, a_State⟩ ⟨b_Id, b_Who, b_Thing, b_At, b_State⟩, (fun (a : TClaim) (b : TClaim) => (dB (decide (a = b)) : D)) ⟨a_Id, a_Who, a_Thing, a_At, a_State⟩ ⟨b_Id, b_Who, b_Thing, b_At, b_State⟩, (fun (a : TClaim) (b : TClaim) => []) ⟨a_Id, a_Who, a_Thing, a_At, a_State⟩ ⟨b_Id, b_Who, b_Thing, b_At, b_State⟩) :=
  mkCon_fn (fun x y h _ => c101_inj x y h) ((⟨a_Id, a_Who, a_Thing, a_At, a_State⟩, ⟨b_Id, b_Who, b_Thing, b_At, b_State⟩) : TClaim × TClaim) (by simp [nz, nz1, ML_nil, encTClaim]) rfl
theorem c101_pc (a : TClaim) (b : TClaim) : PCo Try.prog 101 [encTClaim a, encTClaim b] (Tab.of []) (dB (decide (a = b))) (Tab.of []) := by
  obtain ⟨a_Id, a_Who, a_Thing, a_At, a_State⟩ := a
  obtain ⟨b_Id, b_Who, b_Thing, b_At, b_State⟩ := b
  refine pco_of_run [] (E := ⟨[], []⟩) (m := false) (base := 0) Env.ok_nil G_ok mix 300 6 Try.func101 (by kernel_rfl) rfl (by kernel_rfl) (by kernel_rfl) rfl ?_
  simp [Try.f101]
  all_goals first | omega | (rw [Bool.eq_iff_iff]; simp; omega) | grind
theorem c101_ok : c101.ok Try.prog := mkCon_ok fun ⟨a, b⟩ hpre => c101_pc a b
/-- loop.example/g03007/laws.szClaimS -/
noncomputable def c25 : Con := mkCon 25 false (α := (List TClaim) × Int) (fun x => (fun (l : List TClaim) (left : Int) => [encLTClaim l, dI left]) x.1 x.2) (fun _ => []) (fun x => (fun (l : List TClaim) (left : Int) => l.length ≤ maxLen ∧ 0 ≤ left ∧ left ≤ 1099511627776) x.1 x.2) (fun x => (fun (l : List TClaim) (left : Int) => (dI (if left - l.length < 0 then -1 else left - l.length) : D)) x.1 x.2) (fun x => (fun (l : List TClaim) (left : Int) => []) x.1 x.2)
@[simp] theorem c25_f : c25.f = 25 := rfl
@[simp] theorem c25_own : c25.own = false := rfl
theorem c25_inj : ∀ u_ v_ : (List TClaim) × Int, ((fun x => (fun (l : List TClaim) (left : Int) => [encLTClaim l, dI left]) x.1 x.2) u_).map nz = ((fun x => (fun (l : List TClaim) (left : Int) => [encLTClaim l, dI left]) x.1 x.2) v_).map nz → u_ = v_ := by
  intro u_ v_ h
  obtain ⟨l, left⟩ := u_
  obtain ⟨l', left'⟩ := v_
  simp [nz_lit, nz1_lit, nz_agg, nz_sl, nz1_sl, encLTClaim] at h
  first | (simp [h]; done) | (obtain ⟨⟩ := h; simp_all; done) | simp_all
@[simp] theorem c25_fn (l : List TClaim) (left : Int) : c25.fn [.sl false 5 yTClaim (ML encTClaim l), .lit (.int .i64 left)] [] = some ((fun (l : List TClaim) (left : Int) => l.length ≤ maxLen ∧ 0 ≤ left ∧ left ≤ 1099511627776) l left, (fun (l : List TClaim) (left : Int) => (dI (if left - l.length < 0 then -1 else left - l.length) : D)) l left, (fun (l : List TClaim) (left : Int) => []) l left) :=
  mkCon_fn (fun x y h _ => c25_inj x y h) ((l, left) : (List TClaim) × Int) (by simp [nz, nz1, ML_nil, encLTClaim]) rfl
@[simp] theorem c25_fn1 (s_l : Nat) (z_l : D) (left : Int) : c25.fn [.sl false s_l z_l [], .lit (.int .i64 left)] [] = some ((fun (l : List TClaim) (left : Int) => l.length ≤ maxLen ∧ 0 ≤ left ∧ left ≤ 1099511627776) [] left, (fun (l : List TClaim) (left : Int) => (dI (if left - l.length < 0 then -1 else left - l.length) : D)) [] left, (fun (l : List TClaim) (left : Int) => []) [] left) :=
  mkCon_fn (fun x y h _ => c25_inj x y h) (([], left) : (List TClaim) × Int) (by simp [nz, nz1, ML_nil, encLTClaim]) rfl
theorem c25_pc (l : List TClaim) (left : Int) (hpre : l.length ≤ maxLen ∧ 0 ≤ left ∧ left ≤ 1099511627776) : PCo Try.prog 25 [encLTClaim l, dI left] (Tab.of []) (dI (if left - l.length < 0 then -1 else left - l.length)) (Tab.of []) := by
  refine pco_of_run [] (E := ⟨[], []⟩) (m := false) (base := 0) Env.ok_nil G_ok mix 300 6 Try.func25 (by kernel_rfl) rfl (by kernel_rfl) (by kernel_rfl) rfl ?_
  simp [Try.f25]
  simp [maxLen] at hpre
  all_goals omega
theorem c25_ok : c25.ok Try.prog := mkCon_ok fun ⟨l, left⟩ hpre => c25_pc l left hpre
/-- loop.example/g03007/laws.toClaimS -/
noncomputable def c27 : Con := mkCon 27 false (α := (List TClaim)) (fun x => (fun (l : List TClaim) => [encLTClaim l]) x) (fun _ => []) (fun x => (fun (l : List TClaim) => l.length ≤ 1099511627776) x) (fun x => (fun (l : List TClaim) => (.own (0, 1) 5 0 l.length : D)) x) (fun x => (fun (l : List TClaim) => [((0, 1), .arr false 5 yTClaim (ML encTClaim l))]) x)
@[simp] theorem c27_f : c27.f = 27 := rfl
@[simp] theorem c27_own : c27.own = false := rfl
theorem c27_inj : ∀ u_ v_ : (List TClaim), ((fun x => (fun (l : List TClaim) => [encLTClaim l]) x) u_).map nz = ((fun x => (fun (l : List TClaim) => [encLTClaim l]) x) v_).map nz → u_ = v_ := by
  intro u_ v_ h
  obtain l := u_
  obtain l' := v_
  simp [nz_lit, nz1_lit, nz_agg, nz_sl, nz1_sl, encLTClaim] at h
  first | (simp [h]; done) | (obtain ⟨⟩ := h; simp_all; done) | simp_all
@[simp] theorem c27_fn (l : List TClaim) : c27.fn [.sl false 5 yTClaim (ML encTClaim l)] [] = some ((fun (l : List TClaim) => l.length ≤ 1099511627776) l, (fun (l : List TClaim) => (.own (0, 1) 5 0 l.length : D)) l, (fun (l : List TClaim) => [((0, 1), .arr false 5 yTClaim (ML encTClaim l))]) l) :=
  mkCon_fn (fun x y h _ => c27_inj x y h) (l : (List TClaim)) (by simp [nz, nz1, ML_nil, encLTClaim]) rfl
@[simp] theorem c27_fn1 (s_l : Nat) (z_l : D) : c27.fn [.sl false s_l z_l []] [] = some ((fun (l : List TClaim) => l.length ≤ 1099511627776) [], (fun (l : List TClaim) => (.own (0, 1) 5 0 l.length : D)) [], (fun (l : List TClaim) => [((0, 1), .arr false 5 yTClaim (ML encTClaim l))]) []) :=
  mkCon_fn (fun x y h _ => c27_inj x y h) ([] : (List TClaim)) (by simp [nz, nz1, ML_nil, encLTClaim]) rfl
theorem c27_pc (l : List TClaim) (hpre : l.length ≤ 1099511627776) : PCo Try.prog 27 [encLTClaim l] (Tab.of []) (.own (0, 1) 5 0 l.length) (Tab.of [((0, 1), .arr false 5 yTClaim (ML encTClaim l))]) := by
  refine pco_of_run [] (E := ⟨[c31], []⟩) (m := false) (base := 0) (Env.ok_cons c31_ok Env.ok_nil) G_ok mix 300 6 Try.func27 (by kernel_rfl) rfl (by kernel_rfl) (by kernel_rfl) rfl ?_
  simp [Try.f27]
  refine ⟨by omega, ?_⟩
  refine loop_inv (fun p : Nat => p ≤ l.length) (fun p => [(0, encLTClaim l), (3, .own (0, 1) 5 0 l.length), (4, dI p)]) (fun p => [((0, 1), .arr false 5 yTClaim (ML encTClaim (l.take p ++ List.replicate (l.length - p) ⟨0, 0, 0, 0, 0⟩)))]) 2 (fun p => l.length - p) 0 100 (by simp) (by simp) (by first | (simp; done) | (simp; simp only [ML, List.map_replicate]; rfl)) ?_
  intro p hp
  simp
  refine ⟨fun hlt => ⟨by omega, by omega, Again.mk (p + 1) (by omega) (by simp [fill_step hlt]) (by first | omega | (simp; omega))⟩, fun hge => ?_⟩
  have : p = l.length := by omega
  subst this
  simp
theorem c27_ok : c27.ok Try.prog := mkCon_ok fun l hpre => c27_pc l hpre
/-- loop.example/g03007/laws.eqClaimS -/
noncomputable def c29 : Con := mkCon 29 false (α := (List TClaim) × (List TClaim)) (fun x => (fun (a : List TClaim) (b : List TClaim) => [encLTClaim a, encLTClaim b]) x.1 x.2) (fun _ => []) (fun x => (fun (a : List TClaim) (b : List TClaim) => a.length ≤ 1099511627776 ∧ b.length ≤ 1099511627776) x.1 x.2) (fun x => (fun (a : List TClaim) (b : List TClaim) => (dB (decide (a = b)) : D)) x.1 x.2) (fun x => (fun (a : List TClaim) (b : List TClaim) => []) x.1 x.2)
@[simp] theorem c29_f : c29.f = 29 := rfl
@[simp] theorem c29_own : c29.own = false := rfl
theorem c29_inj : ∀ u_ v_ : (List TClaim) × (List TClaim), ((fun x => (fun (a : List TClaim) (b : List TClaim) => [encLTClaim a, encLTClaim b]) x.1 x.2) u_).map nz = ((fun x => (fun (a : List TClaim) (b : List TClaim) => [encLTClaim a, encLTClaim b]) x.1 x.2) v_).map nz → u_ = v_ := by
  intro u_ v_ h
  obtain ⟨a, b⟩ := u_
  obtain ⟨a', b'⟩ := v_
  simp [nz_lit, nz1_lit, nz_agg, nz_sl, nz1_sl, encLTClaim] at h
  first | (simp [h]; done) | (obtain ⟨⟩ := h; simp_all; done) | simp_all
@[simp] theorem c29_fn (a : List TClaim) (b : List TClaim) : c29.fn [.sl false 5 yTClaim (ML encTClaim a), .sl false 5 yTClaim (ML encTClaim b)] [] = some ((fun (a : List TClaim) (b : List TClaim) => a.length ≤ 1099511627776 ∧ b.length ≤ 1099511627776) a b, (fun (a : List TClaim) (b : List TClaim) => (dB (decide (a = b)) : D)) a b, (fun (a : List TClaim) (b : List TClaim) => []) a b) :=
  mkCon_fn (fun x y h _ => c29_inj x y h) ((a, b) : (List TClaim) × (List TClaim)) (by simp [nz, nz1, ML_nil, encLTClaim]) rfl
@[simp] theorem c29_fn1 (s_a : Nat) (z_a : D) (b : List TClaim) : c29.fn [.sl false s_a z_a [], .sl false 5 yTClaim (ML encTClaim b)] [] = some ((fun (a : List TClaim) (b : List TClaim) => a.length ≤ 1099511627776 ∧ b.length ≤ 1099511627776) [] b, (fun (a : List TClaim) (b : List TClaim) => (dB (decide (a = b)) : D)) [] b, (fun (a : List TClaim) (b : List TClaim) => []) [] b) :=
  mkCon_fn (fun x y h _ => c29_inj x y h) (([], b) : (List TClaim) × (List TClaim)) (by simp [nz, nz1, ML_nil, encLTClaim]) rfl
@[simp] theorem c29_fn2 (a : List TClaim) (s_b : Nat) (z_b : D) : c29.fn [.sl false 5 yTClaim (ML encTClaim a), .sl false s_b z_b []] [] = some ((fun (a : List TClaim) (b : List TClaim) => a.length ≤ 1099511627776 ∧ b.length ≤ 1099511627776) a [], (fun (a : List TClaim) (b : List TClaim) => (dB (decide (a = b)) : D)) a [], (fun (a : List TClaim) (b : List TClaim) => []) a []) :=
  mkCon_fn (fun x y h _ => c29_inj x y h) ((a, []) : (List TClaim) × (List TClaim)) (by simp [nz, nz1, ML_nil, encLTClaim]) rfl
@[simp] theorem c29_fn3 (s_a : Nat) (z_a : D) (s_b : Nat) (z_b : D) : c29.fn [.sl false s_a z_a [], .sl false s_b z_b []] [] = some ((fun (a : List TClaim) (b : List TClaim) => a.length ≤ 1099511627776 ∧ b.length ≤ 1099511627776) [] [], (fun (a : List TClaim) (b : List TClaim) => (dB (decide (a = b)) : D)) [] [], (fun (a : List TClaim) (b : List TClaim) => []) [] []) :=
  mkCon_fn (fun x y h _ => c29_inj x y h) (([], []) : (List TClaim) × (List TClaim)) (by simp [nz, nz1, ML_nil, encLTClaim]) rfl
theorem c29_pc (a : List TClaim) (b : List TClaim) (hpre : a.length ≤ 1099511627776 ∧ b.length ≤ 1099511627776) : PCo Try.prog 29 [encLTClaim a, encLTClaim b] (Tab.of []) (dB (decide (a = b))) (Tab.of []) := by
  refine pco_of_run [] (E := ⟨[c101], []⟩) (m := false) (base := 0) (Env.ok_cons c101_ok Env.ok_nil) G_ok mix 300 6 Try.func29 (by kernel_rfl) rfl (by kernel_rfl) (by kernel_rfl) rfl ?_
  simp [Try.f29]
  obtain ⟨pre1, pre2⟩ := hpre
  refine ⟨fun h => ?_, fun h => by intro e; subst e; exact absurd rfl h⟩
  refine loop_inv (fun p : Nat => p ≤ a.length ∧ a.take p = b.take p) (fun p => [(0, encLTClaim a), (1, encLTClaim b), (5, dI p)]) (fun _ => []) 1 (fun p => a.length - p) 0 100 (by simp) (by simp) (by simp) ?_
  intro p ⟨hp, hi⟩
  simp
  refine ⟨fun hlt => ⟨by omega, fun h2 => ⟨by omega, Again.mk (p + 1) ⟨by omega, take_eq_step hi (by omega) (by omega) h2⟩ (by simp) (by first | omega | (simp; omega))⟩, fun h2 => by intro e; subst e; exact absurd rfl h2⟩, fun hge => ?_⟩
  exact take_eq_full hi (by omega) (by omega)
theorem c29_ok : c29.ok Try.prog := mkCon_ok fun ⟨a, b⟩ hpre => c29_pc a b hpre
def stateIs (k : Int) (x : TClaim) : Bool := decide (x.State = k)
abbrev Gc := List (Int × List TClaim)
@[simp] def kTh (x : TClaim) : Int := x.Thing
abbrev bkC (l : List TClaim) : Gc := grpL kTh l
@[simp] theorem grpC_inj (g g' : Gc) : (keysG g = keysG g' ∧ rowsG encTClaim g = rowsG encTClaim g') ↔ g = g' := ⟨fun h => grp_inj inj_TClaim g g' h.1 h.2, fun h => by rw [h]; exact ⟨rfl, rfl⟩⟩
@[simp] theorem grpC_inj2 (g g' : Gc) : (keysG g = keysG g' ∧ rowsD 5 yTClaim (rowsG encTClaim g) = rowsD 5 yTClaim (rowsG encTClaim g')) ↔ g = g' := ⟨fun h => grp_inj inj_TClaim g g' h.1 (rowsD_inj _ _ h.2), fun h => by rw [h]; exact ⟨rfl, rfl⟩⟩
@[simp] theorem rowsC_flat (g : Gc) : (rowsG encTClaim g).all flatDs = true := rows_flat (fun _ => rfl) g
@[simp] theorem lookC (g : Gc) (k : Int) : (lookK (keysG g) (rowsD 5 yTClaim (rowsG encTClaim g)) [k]).getD (.sl false 5 yTClaim []) = .sl false 5 yTClaim (ML encTClaim (getG g k)) := look_G _ _ _ g k
/-- (*loop.example/g03007/impl.claimBook).note -/
noncomputable def c149 : Con := mkCon 149 true (α := Gc × TClaim) (fun x => (fun (g : Gc) (x : TClaim) => ([.ptr (0, 0) 0, encTClaim x] : List D)) x.1 x.2) (fun x => (fun (g : Gc) (x : TClaim) => ([((0, 0), .box (.agg [.mp (1, 0)])), ((1, 0), .rmap 0 (keysG g) 5 yTClaim (rowsG encTClaim g) none)] : List (Nm × OO))) x.1 x.2) (fun x => (fun (g : Gc) (x : TClaim) => (getG g x.Thing).length ≤ 1073741823) x.1 x.2) (fun x => (fun (g : Gc) (x : TClaim) => (.tup [] : D)) x.1 x.2) (fun x => (fun (g : Gc) (x : TClaim) => ([((0, 0), .box (.agg [.mp (1, 0)])), ((1, 0), .rmap 0 (keysG (addG g x.Thing x)) 5 yTClaim (rowsG encTClaim (addG g x.Thing x)) none)] : List (Nm × OO))) x.1 x.2)
@[simp] theorem c149_f : c149.f = 149 := rfl
@[simp] theorem c149_own : c149.own = true := rfl
theorem c149_inj : ∀ u_ v_ : Gc × TClaim, ((fun x => (fun (g : Gc) (x : TClaim) => ([.ptr (0, 0) 0, encTClaim x] : List D)) x.1 x.2) u_).map nz = ((fun x => (fun (g : Gc) (x : TClaim) => ([.ptr (0, 0) 0, encTClaim x] : List D)) x.1 x.2) v_).map nz → (fun x => (fun (g : Gc) (x : TClaim) => ([((0, 0), .box (.agg [.mp (1, 0)])), ((1, 0), .rmap 0 (keysG g) 5 yTClaim (rowsG encTClaim g) none)] : List (Nm × OO))) x.1 x.2) u_ = (fun x => (fun (g : Gc) (x : TClaim) => ([((0, 0), .box (.agg [.mp (1, 0)])), ((1, 0), .rmap 0 (keysG g) 5 yTClaim (rowsG encTClaim g) none)] : List (Nm × OO))) x.1 x.2) v_ → u_ = v_ := by
  intro u_ v_ h h2_
  obtain ⟨g, ⟨x_Id, x_Who, x_Thing, x_At, x_State⟩⟩ := u_
  obtain ⟨g', ⟨x_Id', x_Who', x_Thing', x_At', x_State'⟩⟩ := v_
  simp [nz_lit, nz1_lit, nz_agg, nz_sl, nz1_sl, nz_sx, nz_el, nz1_el, nz_own, nz1_own, nz_ptr, nz_fn, nz_iface] at h h2_
  first | (simp [h, h2_]; done) | (obtain ⟨h3_, h4_⟩ := List.append_inj h2_ h.1; simp_all; done) | simp_all | grind
@[simp] theorem c149_fn (g : Gc) (x_Id : Int) (x_Who : Int) (x_Thing : Int) (x_At : Int) (x_State : Int) : c149.fn ([.ptr (0, 0) 0, .agg [.lit (.int .i64 x_Id), .lit (.int .i64 x_Who), .lit (.int .i64 x_Thing), .lit (.int .i64 x_At), .lit (.int .i64 x_State)]]) ([((0, 0), .box (.agg [.mp (1, 0)])), ((1, 0), .rmap 0 (keysG g) 5 yTClaim (rowsG encTClaim g) none)]) = some ((getG g (⟨x_Id, x_Who, x_Thing, x_At, x_State⟩ : TClaim).Thing).length ≤ 1073741823, .tup [], [((0, 0), .box (.agg [.mp (1, 0)])), ((1, 0), .rmap 0 (keysG (addG g (⟨x_Id, x_Who, x_Thing, x_At, x_State⟩ : TClaim).Thing (⟨x_Id, x_Who, x_Thing, x_At, x_State⟩ : TClaim))) 5 yTClaim (rowsG encTClaim (addG g (⟨x_Id, x_Who, x_Thing, x_At, x_State⟩ : TClaim).Thing (⟨x_Id, x_Who, x_Thing, x_At, x_State⟩ : TClaim))) none)]) :=
  mkCon_fn c149_inj ((g, ⟨x_Id, x_Who, x_Thing, x_At, x_State⟩) : Gc × TClaim) rfl rfl
theorem c149_pc (g : Gc) (x : TClaim) (hpre : (getG g x.Thing).length ≤ 1073741823) : PCo Try.prog 149 ([.ptr (0, 0) 0, encTClaim x]) (Tab.of ([((0, 0), .box (.agg [.mp (1, 0)])), ((1, 0), .rmap 0 (keysG g) 5 yTClaim (rowsG encTClaim g) none)])) (.tup []) (Tab.of ([((0, 0), .box (.agg [.mp (1, 0)])), ((1, 0), .rmap 0 (keysG (addG g x.Thing x)) 5 yTClaim (rowsG encTClaim (addG g x.Thing x)) none)])) := by
  refine pco_of_run [1001] (E := ⟨[], []⟩) (m := false) (base := 0) Env.ok_nil G_ok mix 300 6 Try.func149 (by kernel_rfl) rfl (by kernel_rfl) (by kernel_rfl) rfl ?_
  obtain ⟨a, b, c, d, e⟩ := x
  simp only at hpre ⊢
  cases hp : posK [c] (keysG g) with
  | none =>
    have hn := posK_none_G hp
    simp [Try.f149, hp]
    exact ⟨keys_add .., rows_add _ _ _ _ _ (by rw [hn]; rfl)⟩
  | some j =>
    have hn := rows_at2 (enc := encTClaim) hp
    have hn2 := rows_at (enc := encTClaim) hp
    simp [Try.f149, hp, -rowsG_at, -rowsG_at2, hn, hn2]
    exact ⟨by omega, keys_add .., rows_add _ _ _ _ _ rfl⟩
theorem c149_ok : c149.ok Try.prog := mkCon_ok fun ⟨g, x⟩ hpre => c149_pc g x hpre
theorem getC_len (l : List TClaim) (k : Int) : (getG (bkC l) k).length ≤ l.length := by rw [getG_grp]; exact List.length_filter_le _ _
/-- loop.example/g03007/impl.newClaimBook -/
noncomputable def c99 : Con := mkCon 99 false (α := (List TClaim)) (fun x => (fun (l : List TClaim) => [encLTClaim l]) x) (fun _ => []) (fun x => (fun (l : List TClaim) => l.length ≤ 1073741823) x) (fun x => (fun (l : List TClaim) => (.el (.agg [.fm 0 (keysG (bkC l)) (.sl false 5 yTClaim []) (rowsD 5 yTClaim (rowsG encTClaim (bkC l)))]) : D)) x) (fun x => (fun (l : List TClaim) => []) x)
@[simp] theorem c99_f : c99.f = 99 := rfl
@[simp] theorem c99_own : c99.own = false := rfl
theorem c99_inj : ∀ u_ v_ : (List TClaim), ((fun x => (fun (l : List TClaim) => [encLTClaim l]) x) u_).map nz = ((fun x => (fun (l : List TClaim) => [encLTClaim l]) x) v_).map nz → u_ = v_ := by
  intro u_ v_ h
  obtain l := u_
  obtain l' := v_
  simp [nz_lit, nz1_lit, nz_agg, nz_sl, nz1_sl, encLTClaim] at h
  first | (simp [h]; done) | (obtain ⟨⟩ := h; simp_all; done) | simp_all
@[simp] theorem c99_fn (l : List TClaim) : c99.fn [.sl false 5 yTClaim (ML encTClaim l)] [] = some ((fun (l : List TClaim) => l.length ≤ 1073741823) l, (fun (l : List TClaim) => (.el (.agg [.fm 0 (keysG (bkC l)) (.sl false 5 yTClaim []) (rowsD 5 yTClaim (rowsG encTClaim (bkC l)))]) : D)) l, (fun (l : List TClaim) => []) l) :=
  mkCon_fn (fun x y h _ => c99_inj x y h) (l : (List TClaim)) (by simp [nz, nz1, ML_nil, encLTClaim]) rfl
@[simp] theorem c99_fn1 (s_l : Nat) (z_l : D) : c99.fn [.sl false s_l z_l []] [] = some ((fun (l : List TClaim) => l.length ≤ 1073741823) [], (fun (l : List TClaim) => (.el (.agg [.fm 0 (keysG (bkC l)) (.sl false 5 yTClaim []) (rowsD 5 yTClaim (rowsG encTClaim (bkC l)))]) : D)) [], (fun (l : List TClaim) => []) []) :=
  mkCon_fn (fun x y h _ => c99_inj x y h) ([] : (List TClaim)) (by simp [nz, nz1, ML_nil, encLTClaim]) rfl
theorem c99_pc (l : List TClaim) (hpre : l.length ≤ 1073741823) : PCo Try.prog 99 [encLTClaim l] (Tab.of []) (.el (.agg [.fm 0 (keysG (bkC l)) (.sl false 5 yTClaim []) (rowsD 5 yTClaim (rowsG encTClaim (bkC l)))])) (Tab.of []) := by
  refine pco_of_run [] (E := ⟨[c149, c149], []⟩) (m := false) (base := 0) (Env.ok_cons c149_ok (Env.ok_cons c149_ok Env.ok_nil)) G_ok mix 300 6 Try.func99 (by kernel_rfl) rfl (by kernel_rfl) (by kernel_rfl) rfl ?_
  simp [Try.f99]
  refine loop_inv (fun p : Nat => p ≤ l.length) (fun p => [(3, .ptr (0, 1) 0), (9, encLTClaim l), (10, dI l.length), (11, dI p)]) (fun p => [((0, 1), .box (.agg [.mp (1, 1)])), ((1, 1), .rmap 0 (keysG (bkC (l.take p))) 5 yTClaim (rowsG encTClaim (bkC (l.take p))) none)]) 2 (fun p => l.length - p) 0 400 (by simp) (by simp) (by simp) ?_
  intro p hp
  simp
  refine ⟨fun hlt => ?_, fun hge => ?_⟩
  · have hs := grpL_take (key := kTh) (d := default) hlt
    have hb := getC_len (l.take p) (l[p]?.getD default).Thing
    have hb2 : (l.take p).length ≤ p := by simp; omega
    repeat' (first | omega | refine And.intro ?_ ?_ | intro _)
    refine Again.mk (p + 1) (by omega) (by simp [hs]) (by first | omega | (simp; omega))
  · rw [List.take_of_length_le hge]
theorem c99_ok : c99.ok Try.prog := mkCon_ok fun l hpre => c99_pc l hpre
/-- loop.example/g03007/impl.countState$1 -/
noncomputable def c175 : Con := mkCon 175 false (α := TClaim × Int) (fun x => (fun (x : TClaim) (k : Int) => ([encTClaim x, .el (dI k)] : List D)) x.1 x.2) (fun x => (fun (x : TClaim) (k : Int) => ([] : List (Nm × OO))) x.1 x.2) (fun x => (fun (x : TClaim) (k : Int) => True) x.1 x.2) (fun x => (fun (x : TClaim) (k : Int) => (dB (stateIs k x) : D)) x.1 x.2) (fun x => (fun (x : TClaim) (k : Int) => ([] : List (Nm × OO))) x.1 x.2)
@[simp] theorem c175_f : c175.f = 175 := rfl
@[simp] theorem c175_own : c175.own = false := rfl
theorem c175_inj : ∀ u_ v_ : TClaim × Int, ((fun x => (fun (x : TClaim) (k : Int) => ([encTClaim x, .el (dI k)] : List D)) x.1 x.2) u_).map nz = ((fun x => (fun (x : TClaim) (k : Int) => ([encTClaim x, .el (dI k)] : List D)) x.1 x.2) v_).map nz → (fun x => (fun (x : TClaim) (k : Int) => ([] : List (Nm × OO))) x.1 x.2) u_ = (fun x => (fun (x : TClaim) (k : Int) => ([] : List (Nm × OO))) x.1 x.2) v_ → u_ = v_ := by
  intro u_ v_ h h2_
  obtain ⟨⟨x_Id, x_Who, x_Thing, x_At, x_State⟩, k⟩ := u_
  obtain ⟨⟨x_Id', x_Who', x_Thing', x_At', x_State'⟩, k'⟩ := v_
  simp [nz_lit, nz1_lit, nz_agg, nz_sl, nz1_sl, nz_sx, nz_el, nz1_el, nz_own, nz1_own, nz_ptr, nz_fn, nz_iface] at h h2_
  first | (simp [h, h2_]; done) | (obtain ⟨h3_, h4_⟩ := List.append_inj h2_ h.1; simp_all; done) | simp_all | grind
@[simp] theorem c175_fn (x_Id : Int) (x_Who : Int) (x_Thing : Int) (x_At : Int) (x_State : Int) (k : Int) : c175.fn ([.agg [.lit (.int .i64 x_Id), .lit (.int .i64 x_Who), .lit (.int .i64 x_Thing), .lit (.int .i64 x_At), .lit (.int .i64 x_State)], .el (dI k)]) ([]) = some (True, dB (stateIs k (⟨x_Id, x_Who, x_Thing, x_At, x_State⟩ : TClaim)), []) :=
  mkCon_fn c175_inj ((⟨x_Id, x_Who, x_Thing, x_At, x_State⟩, k) : TClaim × Int) rfl rfl
theorem c175_pc (x : TClaim) (k : Int) : PCo Try.prog 175 ([encTClaim x, .el (dI k)]) (Tab.of ([])) (dB (stateIs k x)) (Tab.of ([])) := by
  refine pco_of_run [] (E := ⟨[], []⟩) (m := false) (base := 0) Env.ok_nil G_ok mix 300 6 Try.func175 (by kernel_rfl) rfl (by kernel_rfl) (by kernel_rfl) rfl ?_
  simp [Try.f175]
  first | done | rfl
theorem c175_ok : c175.ok Try.prog := mkCon_ok fun ⟨x, k⟩ hpre => c175_pc x k
/-- loop.example/g03007/impl.countWhere[loop.example/g03007/impl.Claim] -/
noncomputable def c174 : Con := mkCon 174 false (α := (List TClaim) × Int) (fun x => (fun (l : List TClaim) (k : Int) => ([encLTClaim l, .fn (.func 175) [] [.el (dI k)]] : List D)) x.1 x.2) (fun x => (fun (l : List TClaim) (k : Int) => ([] : List (Nm × OO))) x.1 x.2) (fun x => (fun (l : List TClaim) (k : Int) => l.length ≤ 1099511627776) x.1 x.2) (fun x => (fun (l : List TClaim) (k : Int) => (dI (l.countP (stateIs k)) : D)) x.1 x.2) (fun x => (fun (l : List TClaim) (k : Int) => ([] : List (Nm × OO))) x.1 x.2)
@[simp] theorem c174_f : c174.f = 174 := rfl
@[simp] theorem c174_own : c174.own = false := rfl
theorem c174_inj : ∀ u_ v_ : (List TClaim) × Int, ((fun x => (fun (l : List TClaim) (k : Int) => ([encLTClaim l, .fn (.func 175) [] [.el (dI k)]] : List D)) x.1 x.2) u_).map nz = ((fun x => (fun (l : List TClaim) (k : Int) => ([encLTClaim l, .fn (.func 175) [] [.el (dI k)]] : List D)) x.1 x.2) v_).map nz → (fun x => (fun (l : List TClaim) (k : Int) => ([] : List (Nm × OO))) x.1 x.2) u_ = (fun x => (fun (l : List TClaim) (k : Int) => ([] : List (Nm × OO))) x.1 x.2) v_ → u_ = v_ := by
  intro u_ v_ h h2_
  obtain ⟨l, k⟩ := u_
  obtain ⟨l', k'⟩ := v_
  simp [nz_lit, nz1_lit, nz_agg, nz_sl, nz1_sl, nz_sx, nz_el, nz1_el, nz_own, nz1_own, nz_ptr, nz_fn, nz_iface] at h h2_
  first | (simp [h, h2_]; done) | (obtain ⟨h3_, h4_⟩ := List.append_inj h2_ h.1; simp_all; done) | simp_all | grind
@[simp] theorem c174_fn (l : List TClaim) (k : Int) : c174.fn ([(.sl false 5 yTClaim (ML encTClaim l)), .fn (.func 175) [] [.el (dI k)]]) ([]) = some (l.length ≤ 1099511627776, dI (l.countP (stateIs k)), []) :=
  mkCon_fn c174_inj ((l, k) : (List TClaim) × Int) rfl rfl
theorem c174_pc (l : List TClaim) (k : Int) (hpre : l.length ≤ 1099511627776) : PCo Try.prog 174 ([encLTClaim l, .fn (.func 175) [] [.el (dI k)]]) (Tab.of ([])) (dI (l.countP (stateIs k))) (Tab.of ([])) := by
  refine pco_of_run [] (E := ⟨[c175], []⟩) (m := false) (base := 0) (Env.ok_cons c175_ok Env.ok_nil) G_ok mix 300 6 Try.func174 (by kernel_rfl) rfl (by kernel_rfl) (by kernel_rfl) rfl ?_
  simp [Try.f174]
  refine loop_inv (fun p : Nat => p ≤ l.length) (fun p => [(1, .fn (.func 175) [] [.el (dI k)]), (5, dI ((l.take p).countP (stateIs k))), (8, encLTClaim l), (9, dI l.length), (10, dI p)]) (fun _ => []) 1 (fun p => l.length - p) 0 400 (by simp) (by simp) (by simp) ?_
  intro p hp
  simp
  refine ⟨fun hlt => ?_, fun hge => ?_⟩
  · have hs := countP_at (want := stateIs k) (d := default) hlt
    have hb := countP_take (want := stateIs k) (l := l) (p := p)
    repeat' (first | omega | refine And.intro ?_ ?_ | intro _)
    all_goals (rename_i hw; refine Again.mk (p + 1) (by omega) (by simp [hs, hw]) (by first | omega | (simp; omega)))
  · rw [List.take_of_length_le hge]
theorem c174_ok : c174.ok Try.prog := mkCon_ok fun ⟨l, k⟩ hpre => c174_pc l k hpre
/-- loop.example/g03007/impl.countState -/
noncomputable def c150 : Con := mkCon 150 false (α := (List TClaim) × Int) (fun x => (fun (l : List TClaim) (k : Int) => [encLTClaim l, dI k]) x.1 x.2) (fun _ => []) (fun x => (fun (l : List TClaim) (k : Int) => l.length ≤ 1099511627776) x.1 x.2) (fun x => (fun (l : List TClaim) (k : Int) => (dI (l.countP (stateIs k)) : D)) x.1 x.2) (fun x => (fun (l : List TClaim) (k : Int) => []) x.1 x.2)
@[simp] theorem c150_f : c150.f = 150 := rfl
@[simp] theorem c150_own : c150.own = false := rfl
theorem c150_inj : ∀ u_ v_ : (List TClaim) × Int, ((fun x => (fun (l : List TClaim) (k : Int) => [encLTClaim l, dI k]) x.1 x.2) u_).map nz = ((fun x => (fun (l : List TClaim) (k : Int) => [encLTClaim l, dI k]) x.1 x.2) v_).map nz → u_ = v_ := by
  intro u_ v_ h
  obtain ⟨l, k⟩ := u_
  obtain ⟨l', k'⟩ := v_
  simp [nz_lit, nz1_lit, nz_agg, nz_sl, nz1_sl, encLTClaim] at h
  first | (simp [h]; done) | (obtain ⟨⟩ := h; simp_all; done) | simp_all
@[simp] theorem c150_fn (l : List TClaim) (k : Int) : c150.fn [.sl false 5 yTClaim (ML encTClaim l), .lit (.int .i64 k)] [] = some ((fun (l : List TClaim) (k : Int) => l.length ≤ 1099511627776) l k, (fun (l : List TClaim) (k : Int) => (dI (l.countP (stateIs k)) : D)) l k, (fun (l : List TClaim) (k : Int) => []) l k) :=
  mkCon_fn (fun x y h _ => c150_inj x y h) ((l, k) : (List TClaim) × Int) (by simp [nz, nz1, ML_nil, encLTClaim]) rfl
@[simp] theorem c150_fn1 (s_l : Nat) (z_l : D) (k : Int) : c150.fn [.sl false s_l z_l [], .lit (.int .i64 k)] [] = some ((fun (l : List TClaim) (k : Int) => l.length ≤ 1099511627776) [] k, (fun (l : List TClaim) (k : Int) => (dI (l.countP (stateIs k)) : D)) [] k, (fun (l : List TClaim) (k : Int) => []) [] k) :=
  mkCon_fn (fun x y h _ => c150_inj x y h) (([], k) : (List TClaim) × Int) (by simp [nz, nz1, ML_nil, encLTClaim]) rfl
theorem c150_pc (l : List TClaim) (k : Int) (hpre : l.length ≤ 1099511627776) : PCo Try.prog 150 [encLTClaim l, dI k] (Tab.of []) (dI (l.countP (stateIs k))) (Tab.of []) := by
  refine pco_of_run [] (E := ⟨[c174, c175], []⟩) (m := false) (base := 0) (Env.ok_cons c174_ok (Env.ok_cons c175_ok Env.ok_nil)) G_ok mix 300 6 Try.func150 (by kernel_rfl) rfl (by kernel_rfl) (by kernel_rfl) rfl ?_
  simp [Try.f150]
  exact hpre
theorem c150_ok : c150.ok Try.prog := mkCon_ok fun ⟨l, k⟩ hpre => c150_pc l k hpre
def twice (g : Gc) : Bool := g.any fun p => decide (1 < p.2.countP (stateIs 3))
def okTwice (g : Gc) (l : List Nat) : Prop := l.Nodup ∧ (∀ i ∈ l, i < g.length) ∧ ∀ i ∈ l, ¬ 1 < (rowAt g i).countP (stateIs 3)
/-- (*loop.example/g03007/impl.claimBook).isServedTwice -/
noncomputable def c100 : Con := mkCon 100 false (α := Gc) (fun x => (fun (g : Gc) => ([.el (.agg [.fm 0 (keysG g) (.sl false 5 yTClaim []) (rowsD 5 yTClaim (rowsG encTClaim g))])] : List D)) x) (fun x => (fun (g : Gc) => ([] : List (Nm × OO))) x) (fun x => (fun (g : Gc) => ∀ p ∈ g, p.2.length ≤ 1099511627776) x) (fun x => (fun (g : Gc) => (dB (twice g) : D)) x) (fun x => (fun (g : Gc) => ([] : List (Nm × OO))) x)
@[simp] theorem c100_f : c100.f = 100 := rfl
@[simp] theorem c100_own : c100.own = false := rfl
theorem c100_inj : ∀ u_ v_ : Gc, ((fun x => (fun (g : Gc) => ([.el (.agg [.fm 0 (keysG g) (.sl false 5 yTClaim []) (rowsD 5 yTClaim (rowsG encTClaim g))])] : List D)) x) u_).map nz = ((fun x => (fun (g : Gc) => ([.el (.agg [.fm 0 (keysG g) (.sl false 5 yTClaim []) (rowsD 5 yTClaim (rowsG encTClaim g))])] : List D)) x) v_).map nz → (fun x => (fun (g : Gc) => ([] : List (Nm × OO))) x) u_ = (fun x => (fun (g : Gc) => ([] : List (Nm × OO))) x) v_ → u_ = v_ := by
  intro u_ v_ h h2_
  obtain g := u_
  obtain g' := v_
  simp [nz_lit, nz1_lit, nz_agg, nz_sl, nz1_sl, nz_sx, nz_el, nz1_el, nz_own, nz1_own, nz_ptr, nz_fn, nz_iface] at h h2_
  first | (simp [h, h2_]; done) | (obtain ⟨h3_, h4_⟩ := List.append_inj h2_ h.1; simp_all; done) | simp_all | grind
@[simp] theorem c100_fn (g : Gc) : c100.fn ([.el (.agg [.fm 0 (keysG g) (.sl false 5 yTClaim []) (rowsD 5 yTClaim (rowsG encTClaim g))])]) ([]) = some (∀ p ∈ g, p.2.length ≤ 1099511627776, dB (twice g), []) :=
  mkCon_fn c100_inj (g : Gc) rfl rfl
theorem c100_pc (g : Gc) (hpre : ∀ p ∈ g, p.2.length ≤ 1099511627776) : PCo Try.prog 100 ([.el (.agg [.fm 0 (keysG g) (.sl false 5 yTClaim []) (rowsD 5 yTClaim (rowsG encTClaim g))])]) (Tab.of ([])) (dB (twice g)) (Tab.of ([])) := by
  refine pco_of_run [] (E := ⟨[c150], []⟩) (m := false) (base := 0) (Env.ok_cons c150_ok Env.ok_nil) G_ok mix 300 6 Try.func100 (by kernel_rfl) rfl (by kernel_rfl) (by kernel_rfl) rfl ?_
  simp [Try.f100]
  refine loop_inv (fun l : List Nat => okTwice g l) (fun _ => [(9, .it (0, 1))]) (fun l => [((0, 1), .mit 0 (keysG g) (.sl false 5 yTClaim []) (rowsD 5 yTClaim (rowsG encTClaim g)) l)]) 2 (fun l => g.length - l.length) [] 400 (by simp) (by simp [okTwice]) (by simp) ?_
  intro l ⟨hn, hl, hc⟩
  simp
  refine ⟨fun i hi hs => ⟨?_, fun h => ?_, fun h => ?_⟩, fun hall => ?_⟩
  · obtain ⟨p, hp, e⟩ := rowAt_mem hi
    rw [e]; exact hpre p hp
  · obtain ⟨p, hp, e⟩ := rowAt_mem hi
    rw [e] at h
    simp only [twice, List.any_eq_true]
    exact ⟨p, hp, by simp; omega⟩
  · refine Again.mk (l ++ [i]) ⟨?_, fun j hj => ?_, fun j hj => ?_⟩ (by simp) ?_
    · rw [List.nodup_append]
      exact ⟨hn, by simp, fun a ha b hb => by simp at hb; subst hb; rintro rfl; exact hs ha⟩
    · rcases List.mem_append.1 hj with hj | hj
      · exact hl j hj
      · simp at hj; subst hj; exact hi
    · rcases List.mem_append.1 hj with hj | hj
      · exact hc j hj
      · simp at hj; subst hj; omega
    · have := seen_lt hn hl hi hs
      simp; omega
  · simp only [twice, List.any_eq_false]
    intro p hp
    obtain ⟨i, hi, e⟩ := List.getElem_of_mem hp
    have := hc i (hall i hi)
    have e2 : rowAt g i = p.2 := by simp [rowAt, hi, e]
    rw [e2] at this
    simpa using this
theorem c100_ok : c100.ok Try.prog := mkCon_ok fun g hpre => c100_pc g hpre
@[simp] def nClaim (x : TClaim) : Int := x.Id
def mIsClaim (x : TClaim) : Bool := mIn x.Id 1 999 && mIn x.Who 1 999 && mIn x.Thing 1 999 && mIn x.At 0 100000 && mIn x.State 0 3
/-- loop.example/g03007/impl.isClaim -/
noncomputable def c98 : Con := mkCon 98 false (α := TClaim) (fun x => (fun (x : TClaim) => [encTClaim x]) x) (fun _ => []) (fun x => (fun (x : TClaim) => True) x) (fun x => (fun (x : TClaim) => (dB (mIsClaim x) : D)) x) (fun x => (fun (x : TClaim) => []) x)
@[simp] theorem c98_f : c98.f = 98 := rfl
@[simp] theorem c98_own : c98.own = false := rfl
theorem c98_inj : ∀ u_ v_ : TClaim, ((fun x => (fun (x : TClaim) => [encTClaim x]) x) u_).map nz = ((fun x => (fun (x : TClaim) => [encTClaim x]) x) v_).map nz → u_ = v_ := by
  intro u_ v_ h
  obtain ⟨x_Id, x_Who, x_Thing, x_At, x_State⟩ := u_
  obtain ⟨x_Id', x_Who', x_Thing', x_At', x_State'⟩ := v_
  simp [nz_lit, nz1_lit, nz_agg, nz_sl, nz1_sl, encTClaim] at h
  first | (simp [h]; done) | (obtain ⟨⟩ := h; simp_all; done) | simp_all
@[simp] theorem c98_fn (x_Id : Int) (x_Who : Int) (x_Thing : Int) (x_At : Int) (x_State : Int) : c98.fn [.agg [.lit (.int .i64 x_Id), .lit (.int .i64 x_Who), .lit (.int .i64 x_Thing), .lit (.int .i64 x_At), .lit (.int .i64 x_State)]] [] = some ((fun (x : TClaim) => True) ⟨x_Id, x_Who, x_Thing, x_At, x_State⟩, (fun (x : TClaim) => (dB (mIsClaim x) : D)) ⟨x_Id, x_Who, x_Thing, x_At, x_State⟩, (fun (x : TClaim) => []) ⟨x_Id, x_Who, x_Thing, x_At, x_State⟩) :=
  mkCon_fn (fun x y h _ => c98_inj x y h) (⟨x_Id, x_Who, x_Thing, x_At, x_State⟩ : TClaim) (by simp [nz, nz1, ML_nil, encTClaim]) rfl
theorem c98_pc (x : TClaim) : PCo Try.prog 98 [encTClaim x] (Tab.of []) (dB (mIsClaim x)) (Tab.of []) := by
  obtain ⟨x_Id, x_Who, x_Thing, x_At, x_State⟩ := x
  refine pco_of_run [] (E := ⟨[c147], []⟩) (m := false) (base := 0) (Env.ok_cons c147_ok Env.ok_nil) G_ok mix 300 6 Try.func98 (by kernel_rfl) rfl (by kernel_rfl) (by kernel_rfl) rfl ?_
  simp [Try.f98]
  simp [mIsClaim]; first | done | first | rfl | omega | (rw [Bool.eq_iff_iff]; simp; done) | (rw [Bool.eq_iff_iff]; simp; omega) | (rw [Bool.eq_iff_iff]; simp; grind) | grind
theorem c98_ok : c98.ok Try.prog := mkCon_ok fun x hpre => c98_pc x
/-- loop.example/g03007/impl.claimsInOrder -/
noncomputable def c96 : Con := mkCon 96 false (α := (List TClaim)) (fun x => (fun (l : List TClaim) => [encLTClaim l]) x) (fun _ => []) (fun x => (fun (l : List TClaim) => True) x) (fun x => (fun (l : List TClaim) => (.agg [.sl false 5 yTClaim (ML encTClaim l), .fn (.func 148) [] []] : D)) x) (fun x => (fun (l : List TClaim) => []) x)
@[simp] theorem c96_f : c96.f = 96 := rfl
@[simp] theorem c96_own : c96.own = false := rfl
theorem c96_inj : ∀ u_ v_ : (List TClaim), ((fun x => (fun (l : List TClaim) => [encLTClaim l]) x) u_).map nz = ((fun x => (fun (l : List TClaim) => [encLTClaim l]) x) v_).map nz → u_ = v_ := by
  intro u_ v_ h
  obtain l := u_
  obtain l' := v_
  simp [nz_lit, nz1_lit, nz_agg, nz_sl, nz1_sl, encLTClaim] at h
  first | (simp [h]; done) | (obtain ⟨⟩ := h; simp_all; done) | simp_all
@[simp] theorem c96_fn (l : List TClaim) : c96.fn [.sl false 5 yTClaim (ML encTClaim l)] [] = some ((fun (l : List TClaim) => True) l, (fun (l : List TClaim) => (.agg [.sl false 5 yTClaim (ML encTClaim l), .fn (.func 148) [] []] : D)) l, (fun (l : List TClaim) => []) l) :=
  mkCon_fn (fun x y h _ => c96_inj x y h) (l : (List TClaim)) (by simp [nz, nz1, ML_nil, encLTClaim]) rfl
@[simp] theorem c96_fn1 (s_l : Nat) (z_l : D) : c96.fn [.sl false s_l z_l []] [] = some ((fun (l : List TClaim) => True) [], (fun (l : List TClaim) => (.agg [.sl false 5 yTClaim (ML encTClaim l), .fn (.func 148) [] []] : D)) [], (fun (l : List TClaim) => []) []) :=
  mkCon_fn (fun x y h _ => c96_inj x y h) ([] : (List TClaim)) (by simp [nz, nz1, ML_nil, encLTClaim]) rfl
theorem c96_pc (l : List TClaim) : PCo Try.prog 96 [encLTClaim l] (Tab.of []) (.agg [.sl false 5 yTClaim (ML encTClaim l), .fn (.func 148) [] []]) (Tab.of []) := by
  refine pco_of_run [] (E := ⟨[], []⟩) (m := false) (base := 0) Env.ok_nil G_ok mix 300 6 Try.func96 (by kernel_rfl) rfl (by kernel_rfl) (by kernel_rfl) rfl ?_
  simp [Try.f96]
  all_goals first | omega | (rw [Bool.eq_iff_iff]; simp; omega) | grind
theorem c96_ok : c96.ok Try.prog := mkCon_ok fun l hpre => c96_pc l
/-- loop.example/g03007/impl.claimsInOrder$1 -/
noncomputable def c148 : Con := mkCon 148 false (α := TClaim) (fun x => (fun (x : TClaim) => [encTClaim x]) x) (fun _ => []) (fun x => (fun (x : TClaim) => True) x) (fun x => (fun (x : TClaim) => (dI (nClaim x) : D)) x) (fun x => (fun (x : TClaim) => []) x)
@[simp] theorem c148_f : c148.f = 148 := rfl
@[simp] theorem c148_own : c148.own = false := rfl
theorem c148_inj : ∀ u_ v_ : TClaim, ((fun x => (fun (x : TClaim) => [encTClaim x]) x) u_).map nz = ((fun x => (fun (x : TClaim) => [encTClaim x]) x) v_).map nz → u_ = v_ := by
  intro u_ v_ h
  obtain ⟨x_Id, x_Who, x_Thing, x_At, x_State⟩ := u_
  obtain ⟨x_Id', x_Who', x_Thing', x_At', x_State'⟩ := v_
  simp [nz_lit, nz1_lit, nz_agg, nz_sl, nz1_sl, encTClaim] at h
  first | (simp [h]; done) | (obtain ⟨⟩ := h; simp_all; done) | simp_all
@[simp] theorem c148_fn (x_Id : Int) (x_Who : Int) (x_Thing : Int) (x_At : Int) (x_State : Int) : c148.fn [.agg [.lit (.int .i64 x_Id), .lit (.int .i64 x_Who), .lit (.int .i64 x_Thing), .lit (.int .i64 x_At), .lit (.int .i64 x_State)]] [] = some ((fun (x : TClaim) => True) ⟨x_Id, x_Who, x_Thing, x_At, x_State⟩, (fun (x : TClaim) => (dI (nClaim x) : D)) ⟨x_Id, x_Who, x_Thing, x_At, x_State⟩, (fun (x : TClaim) => []) ⟨x_Id, x_Who, x_Thing, x_At, x_State⟩) :=
  mkCon_fn (fun x y h _ => c148_inj x y h) (⟨x_Id, x_Who, x_Thing, x_At, x_State⟩ : TClaim) (by simp [nz, nz1, ML_nil, encTClaim]) rfl
theorem c148_pc (x : TClaim) : PCo Try.prog 148 [encTClaim x] (Tab.of []) (dI (nClaim x)) (Tab.of []) := by
  obtain ⟨x_Id, x_Who, x_Thing, x_At, x_State⟩ := x
  refine pco_of_run [] (E := ⟨[], []⟩) (m := false) (base := 0) Env.ok_nil G_ok mix 300 6 Try.func148 (by kernel_rfl) rfl (by kernel_rfl) (by kernel_rfl) rfl ?_
  simp [Try.f148]
  all_goals first | omega | (rw [Bool.eq_iff_iff]; simp; omega) | grind
theorem c148_ok : c148.ok Try.prog := mkCon_ok fun x hpre => c148_pc x
/-- (loop.example/g03007/impl.sortedList[loop.example/g03007/impl.Claim]).isValid -/
noncomputable def c97 : Con := mkCon 97 false (α := (List TClaim) × Int) (fun x => (fun (l : List TClaim) (lim : Int) => ([.agg [.sl false 5 yTClaim (ML encTClaim l), .fn (.func 148) [] []], dI lim, .fn (.func 98) [] []] : List D)) x.1 x.2) (fun x => (fun (l : List TClaim) (lim : Int) => ([] : List (Nm × OO))) x.1 x.2) (fun x => (fun (l : List TClaim) (lim : Int) => l.length ≤ 1099511627776) x.1 x.2) (fun x => (fun (l : List TClaim) (lim : Int) => (dB (decide (l.length ≤ lim) && ascBy mIsClaim nClaim none l) : D)) x.1 x.2) (fun x => (fun (l : List TClaim) (lim : Int) => ([] : List (Nm × OO))) x.1 x.2)
@[simp] theorem c97_f : c97.f = 97 := rfl
@[simp] theorem c97_own : c97.own = false := rfl
theorem c97_inj : ∀ u_ v_ : (List TClaim) × Int, ((fun x => (fun (l : List TClaim) (lim : Int) => ([.agg [.sl false 5 yTClaim (ML encTClaim l), .fn (.func 148) [] []], dI lim, .fn (.func 98) [] []] : List D)) x.1 x.2) u_).map nz = ((fun x => (fun (l : List TClaim) (lim : Int) => ([.agg [.sl false 5 yTClaim (ML encTClaim l), .fn (.func 148) [] []], dI lim, .fn (.func 98) [] []] : List D)) x.1 x.2) v_).map nz → (fun x => (fun (l : List TClaim) (lim : Int) => ([] : List (Nm × OO))) x.1 x.2) u_ = (fun x => (fun (l : List TClaim) (lim : Int) => ([] : List (Nm × OO))) x.1 x.2) v_ → u_ = v_ := by
  intro u_ v_ h h2_
  obtain ⟨l, lim⟩ := u_
  obtain ⟨l', lim'⟩ := v_
  simp [nz_lit, nz1_lit, nz_agg, nz_sl, nz1_sl, nz_sx, nz_el, nz1_el, nz_own, nz1_own, nz_ptr, nz_fn, nz_iface] at h h2_
  first | (simp [h, h2_]; done) | (obtain ⟨h3_, h4_⟩ := List.append_inj h2_ h.1; simp_all; done) | simp_all | grind
@[simp] theorem c97_fn (l : List TClaim) (lim : Int) : c97.fn ([.agg [.sl false 5 yTClaim (ML encTClaim l), .fn (.func 148) [] []], dI lim, .fn (.func 98) [] []]) ([]) = some (l.length ≤ 1099511627776, dB (decide (l.length ≤ lim) && ascBy mIsClaim nClaim none l), []) :=
  mkCon_fn c97_inj ((l, lim) : (List TClaim) × Int) rfl rfl
theorem c97_pc (l : List TClaim) (lim : Int) (hpre : l.length ≤ 1099511627776) : PCo Try.prog 97 ([.agg [.sl false 5 yTClaim (ML encTClaim l), .fn (.func 148) [] []], dI lim, .fn (.func 98) [] []]) (Tab.of ([])) (dB (decide (l.length ≤ lim) && ascBy mIsClaim nClaim none l)) (Tab.of ([])) := by
  refine pco_of_run [6] (E := ⟨[c148, c98], []⟩) (m := false) (base := 0) (Env.ok_cons c148_ok (Env.ok_cons c98_ok Env.ok_nil)) G_ok mix 300 6 Try.func97 (by kernel_rfl) rfl (by kernel_rfl) (by kernel_rfl) rfl ?_
  simp [Try.f97]
  refine ⟨fun h h2 => by omega, fun hlim => ?_⟩
  refine loop_inv (fun p : Nat => p ≤ l.length ∧ ascBy mIsClaim nClaim none l = ascBy mIsClaim nClaim (prevO nClaim l p) (l.drop p)) (fun p => [(2, .fn (.func 98) [] []), (3, .ptr (0, 1) 0), (6, dB false), (15, .sl false 5 yTClaim (ML encTClaim l)), (16, dI l.length), (17, dI p)]) (fun _ => [((0, 1), .box (.agg [.sl false 5 yTClaim (ML encTClaim l), .fn (.func 148) [] []]))]) 2 (fun p => l.length - p) 0 400 (by simp) (by simp) (by simp) ?_
  intro p ⟨hp, hi⟩
  simp
  refine ⟨fun hlt => ?_, fun hge => ?_⟩
  · rw [ascBy_at hlt] at hi; simp only [nClaim, wantN] at hi
    repeat' (first | omega | refine And.intro ?_ ?_ | intro _)
    all_goals first | exact Again.mk (p + 1) ⟨by omega, by rw [hi]; grind⟩ (by simp) (by first | omega | (simp; omega)) | (rw [hi]; grind)
  · rw [hi, ascBy_end hge]; simp; omega
theorem c97_ok : c97.ok Try.prog := mkCon_ok fun ⟨l, lim⟩ hpre => c97_pc l lim hpre
def sameServed (x y : TClaim) : Bool := stateIs 3 x && (stateIs 3 y && decide (y.Thing = x.Thing))
def dupC : List TClaim → List TClaim → Bool
  | _, [] => false
  | b, x :: r => b.any (sameServed x) || dupC (b ++ [x]) r
theorem count_any {l : List TClaim} {f w : TClaim → Bool} : 0 < (l.filter f).countP w ↔ ∃ y ∈ l, f y = true ∧ w y = true := by
  rw [List.countP_pos_iff]
  constructor
  · rintro ⟨y, hy, h⟩; exact ⟨y, (List.mem_filter.1 hy).1, (List.mem_filter.1 hy).2, h⟩
  · rintro ⟨y, hy, h1, h2⟩; exact ⟨y, List.mem_filter.2 ⟨hy, h1⟩, h2⟩
theorem twice_snoc (b : List TClaim) (x : TClaim) : twice (bkC (b ++ [x])) = (twice (bkC b) || b.any (sameServed x)) := by
  have e : (stateIs 3 x && decide (0 < (getG (bkC b) (kTh x)).countP (stateIs 3))) = b.any (sameServed x) := by
    rw [bkC, getG_grp, Bool.eq_iff_iff, Bool.and_eq_true, decide_eq_true_eq, count_any, List.any_eq_true]
    simp only [sameServed, Bool.and_eq_true, decide_eq_true_eq, kTh]
    constructor
    · rintro ⟨h, y, h1, h2, h3⟩; exact ⟨y, h1, h, h3, of_decide_eq_true h2⟩
    · rintro ⟨y, h1, h, h3, h2⟩; exact ⟨h, y, h1, decide_eq_true h2, h3⟩
  rw [← e]
  simp only [twice, bkC, grpL_snoc]
  rw [any_addG]
theorem twice_dup : ∀ (r b : List TClaim), (twice (bkC b) || dupC b r) = twice (bkC (b ++ r))
  | [], b => by simp [dupC]
  | x :: r, b => by
    have := twice_dup r (b ++ [x])
    rw [dupC, ← Bool.or_assoc, ← twice_snoc, this]; simp
theorem twice_eq (l : List TClaim) : twice (bkC l) = dupC [] l := by
  have := twice_dup l []
  simpa [twice, bkC] using this.symm
def mAreClaims (l : List TClaim) : Bool := decide (l.length ≤ 20) && ascBy mIsClaim nClaim none l && !dupC [] l
theorem bk_len {l : List TClaim} {n : Nat} (h : l.length ≤ n) : ∀ p ∈ bkC l, p.2.length ≤ n := by
  intro p hp
  have := grp_len kTh l p hp
  omega
/-- loop.example/g03007/impl.AreClaims -/
noncomputable def c28 : Con := mkCon 28 false (α := (List TClaim)) (fun x => (fun (l : List TClaim) => [encLTClaim l]) x) (fun _ => []) (fun x => (fun (l : List TClaim) => l.length ≤ 1073741823) x) (fun x => (fun (l : List TClaim) => (dB (mAreClaims l) : D)) x) (fun x => (fun (l : List TClaim) => []) x)
@[simp] theorem c28_f : c28.f = 28 := rfl
@[simp] theorem c28_own : c28.own = false := rfl
theorem c28_inj : ∀ u_ v_ : (List TClaim), ((fun x => (fun (l : List TClaim) => [encLTClaim l]) x) u_).map nz = ((fun x => (fun (l : List TClaim) => [encLTClaim l]) x) v_).map nz → u_ = v_ := by
  intro u_ v_ h
  obtain l := u_
  obtain l' := v_
  simp [nz_lit, nz1_lit, nz_agg, nz_sl, nz1_sl, encLTClaim] at h
  first | (simp [h]; done) | (obtain ⟨⟩ := h; simp_all; done) | simp_all
@[simp] theorem c28_fn (l : List TClaim) : c28.fn [.sl false 5 yTClaim (ML encTClaim l)] [] = some ((fun (l : List TClaim) => l.length ≤ 1073741823) l, (fun (l : List TClaim) => (dB (mAreClaims l) : D)) l, (fun (l : List TClaim) => []) l) :=
  mkCon_fn (fun x y h _ => c28_inj x y h) (l : (List TClaim)) (by simp [nz, nz1, ML_nil, encLTClaim]) rfl
@[simp] theorem c28_fn1 (s_l : Nat) (z_l : D) : c28.fn [.sl false s_l z_l []] [] = some ((fun (l : List TClaim) => l.length ≤ 1073741823) [], (fun (l : List TClaim) => (dB (mAreClaims l) : D)) [], (fun (l : List TClaim) => []) []) :=
  mkCon_fn (fun x y h _ => c28_inj x y h) ([] : (List TClaim)) (by simp [nz, nz1, ML_nil, encLTClaim]) rfl
theorem c28_pc (l : List TClaim) (hpre : l.length ≤ 1073741823) : PCo Try.prog 28 [encLTClaim l] (Tab.of []) (dB (mAreClaims l)) (Tab.of []) := by
  refine pco_of_run [] (E := ⟨[c96, c97, c98, c99, c100, c98, c148], []⟩) (m := false) (base := 0) (Env.ok_cons c96_ok (Env.ok_cons c97_ok (Env.ok_cons c98_ok (Env.ok_cons c99_ok (Env.ok_cons c100_ok (Env.ok_cons c98_ok (Env.ok_cons c148_ok Env.ok_nil))))))) G_ok mix 300 6 Try.func28 (by kernel_rfl) rfl (by kernel_rfl) (by kernel_rfl) rfl ?_
  simp [Try.f28]
  refine ⟨⟨by omega, fun _ _ => hpre, fun _ _ a b hb => bk_len (n := 1099511627776) (by omega) _ hb⟩, ?_⟩
  rw [twice_eq, mAreClaims]
  congr 2
  rw [Bool.eq_iff_iff]; simp; omega
theorem c28_ok : c28.ok Try.prog := mkCon_ok fun l hpre => c28_pc l hpre
def goC (l : List TClaim) (p : Nat) : Bool := ascBy mIsClaim nClaim (prevO nClaim l p) (l.drop p) && !dupC (l.take p) (l.drop p)
theorem goC_at {l : List TClaim} {p : Nat} (h : p < l.length) : goC l p = (mIsClaim (l[p]?.getD default) && decide (0 < p → nClaim (l[p - 1]?.getD default) < nClaim (l[p]?.getD default)) && !(l.take p).any (sameServed (l[p]?.getD default)) && goC l (p + 1)) := by
  simp only [goC]
  rw [ascBy_at h, drop_at (d := default) h, dupC, take_at (d := default) h]
  cases mIsClaim (l[p]?.getD default) <;> cases (l.take p).any (sameServed (l[p]?.getD default)) <;> simp [Bool.and_assoc]
theorem take_get {α : Type} {l : List α} {p k : Nat} {d : α} (h : k < p) : (l.take p)[k]?.getD d = l[k]?.getD d := by
  rw [List.getElem?_take_of_lt h]
theorem mAre_goC (l : List TClaim) : mAreClaims l = (decide (l.length ≤ 20) && goC l 0) := by
  simp [mAreClaims, goC, Bool.and_assoc]
/-- loop.example/g03007/spec.AreClaims -/
noncomputable def c26 : Con := mkCon 26 false (α := (List TClaim)) (fun x => (fun (l : List TClaim) => [encLTClaim l]) x) (fun _ => []) (fun x => (fun (l : List TClaim) => l.length ≤ 1073741823) x) (fun x => (fun (l : List TClaim) => (dB (mAreClaims l) : D)) x) (fun x => (fun (l : List TClaim) => []) x)
@[simp] theorem c26_f : c26.f = 26 := rfl
@[simp] theorem c26_own : c26.own = false := rfl
theorem c26_inj : ∀ u_ v_ : (List TClaim), ((fun x => (fun (l : List TClaim) => [encLTClaim l]) x) u_).map nz = ((fun x => (fun (l : List TClaim) => [encLTClaim l]) x) v_).map nz → u_ = v_ := by
  intro u_ v_ h
  obtain l := u_
  obtain l' := v_
  simp [nz_lit, nz1_lit, nz_agg, nz_sl, nz1_sl, encLTClaim] at h
  first | (simp [h]; done) | (obtain ⟨⟩ := h; simp_all; done) | simp_all
@[simp] theorem c26_fn (l : List TClaim) : c26.fn [.sl false 5 yTClaim (ML encTClaim l)] [] = some ((fun (l : List TClaim) => l.length ≤ 1073741823) l, (fun (l : List TClaim) => (dB (mAreClaims l) : D)) l, (fun (l : List TClaim) => []) l) :=
  mkCon_fn (fun x y h _ => c26_inj x y h) (l : (List TClaim)) (by simp [nz, nz1, ML_nil, encLTClaim]) rfl
@[simp] theorem c26_fn1 (s_l : Nat) (z_l : D) : c26.fn [.sl false s_l z_l []] [] = some ((fun (l : List TClaim) => l.length ≤ 1073741823) [], (fun (l : List TClaim) => (dB (mAreClaims l) : D)) [], (fun (l : List TClaim) => []) []) :=
  mkCon_fn (fun x y h _ => c26_inj x y h) ([] : (List TClaim)) (by simp [nz, nz1, ML_nil, encLTClaim]) rfl
theorem c26_pc (l : List TClaim) (hpre : l.length ≤ 1073741823) : PCo Try.prog 26 [encLTClaim l] (Tab.of []) (dB (mAreClaims l)) (Tab.of []) := by
  refine pco_of_run [] (E := ⟨[c95], []⟩) (m := false) (base := 0) (Env.ok_cons c95_ok Env.ok_nil) G_ok mix 300 6 Try.func26 (by kernel_rfl) rfl (by kernel_rfl) (by kernel_rfl) rfl ?_
  simp [Try.f26]
  refine loop_inv (fun p : Nat => p ≤ l.length ∧ goC l 0 = goC l p) (fun p => [(0, encLTClaim l), (3, dI p)]) (fun _ => []) 1 (fun p => l.length - p) 0 400 (by simp) (by simp) (by simp) ?_
  intro p ⟨hp, hi⟩
  simp
  refine ⟨fun hlt => ?_, fun hge => ?_⟩
  · have hs := goC_at hlt
    rw [hs] at hi
    refine ⟨hlt, ⟨fun _ _ _ _ _ _ => by omega, fun _ _ _ _ _ _ => by omega⟩, fun hbad => ?_, fun h1 h2 h3 h4 h5 h6 => ?_⟩
    · have : goC l 0 = false := by
        rw [hi]
        cases hc : (mIsClaim (l[p]?.getD default) && decide (0 < p → nClaim (l[p - 1]?.getD default) < nClaim (l[p]?.getD default))) with
        | false => simp
        | true =>
          exfalso
          simp only [mIsClaim, Bool.and_eq_true, decide_eq_true_eq, nClaim] at hc
          obtain ⟨⟨⟨⟨⟨h1, h2⟩, h3⟩, h4⟩, h5⟩, h6⟩ := hc
          simp only [h1, h2, h3, h4, h5] at hbad
          simp at hbad
          have := of_decide_eq_true h6 hbad.1
          omega
      rw [mAre_goC, this]; simp
    · have hc : (mIsClaim (l[p]?.getD default) && decide (0 < p → nClaim (l[p - 1]?.getD default) < nClaim (l[p]?.getD default))) = true := by
        simp only [mIsClaim, h1, h2, h3, h4, h5, Bool.true_and]
        exact decide_eq_true h6
      rw [hc] at hi
      refine loop_inv (fun k : Nat => k ≤ p ∧ (l.take p).any (sameServed (l[p]?.getD default)) = ((l.take p).drop k).any (sameServed (l[p]?.getD default))) (fun k => [(0, encLTClaim l), (3, dI p), (4, .ptr (0, 1) 0), (5, dI k)]) (fun _ => [((0, 1), .box (encTClaim (l[p]?.getD default)))]) 2 (fun k => p - k) 0 400 (by simp) (by simp) (by simp) ?_
      intro k ⟨hk, hj⟩
      simp
      refine ⟨fun hkp => ?_, fun hkp => ?_⟩
      · have hkl : k < (l.take p).length := by simp; omega
        rw [any_at (d := default) hkl, take_get hkp] at hj
        have hsv : sameServed (l[p]?.getD default) (l[k]?.getD default) = true ↔ (l[p]?.getD default).State = 3 ∧ (l[k]?.getD default).State = 3 ∧ (l[k]?.getD default).Thing = (l[p]?.getD default).Thing := by simp [sameServed, stateIs]
        refine ⟨⟨fun _ => by omega, fun _ _ => by omega⟩, fun a b c => ?_, fun hno => ⟨by omega, Again.mk (k + 1) ⟨by omega, ?_⟩ (by simp) (by first | omega | (simp; omega))⟩⟩
        · rw [hsv.2 ⟨a, b, c⟩] at hj
          rw [mAre_goC, hi, hj]; simp
        · cases hq : sameServed (l[p]?.getD default) (l[k]?.getD default) with
          | false => rw [hj, hq]; simp
          | true => exact absurd (hsv.1 hq).2.2 (hno (hsv.1 hq).1 (hsv.1 hq).2.1)
      · have hkl : (l.take p).length ≤ k := by simp; omega
        rw [any_end hkl] at hj
        rw [hj] at hi
        repeat' (first | omega | refine And.intro ?_ ?_ | intro _)
        exact Again.mk (p + 1) ⟨by omega, by simpa using hi⟩ (by simp) (by first | omega | (simp; omega))
  · have hpl : p = l.length := by omega
    subst hpl
    have : goC l l.length = true := by simp [goC, ascBy, dupC]
    rw [mAre_goC, hi, this]
    rw [Bool.eq_iff_iff]; simp; omega
theorem c26_ok : c26.ok Try.prog := mkCon_ok fun l hpre => c26_pc l hpre

end Go.Proofs.Ytadbjlnfdjbbjaa
