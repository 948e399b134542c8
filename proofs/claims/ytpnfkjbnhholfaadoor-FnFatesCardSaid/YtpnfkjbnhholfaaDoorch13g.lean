/- Contracts of the functions that the laws run. -/
import Derived.Test.YtpnfkjbnhholfaaDoorgrp
import Derived.Test.YtpnfkjbnhholfaaDoorascg
import Derived.Test.YtpnfkjbnhholfaaDoorhelpA
import Derived.Test.YtpnfkjbnhholfaaDoorEngB
namespace Go.Proofs.YtpnfkjbnhholfaaDoor
open Go Go.Eng
set_option linter.unusedSimpArgs false
set_option linter.unusedVariables false
set_option maxRecDepth 10000
set_option maxHeartbeats 1000000
def stateIs (k : Int) (x : TClaim) : Bool := decide (x.State = k)
abbrev Gc := List (Int × List TClaim)
@[simp] def kTh (x : TClaim) : Int := x.Thing
abbrev bkC (l : List TClaim) : Gc := grpL kTh l
@[simp] theorem grpC_inj (g g' : Gc) : (keysG g = keysG g' ∧ rowsG encTClaim g = rowsG encTClaim g') ↔ g = g' := ⟨fun h => grp_inj inj_TClaim g g' h.1 h.2, fun h => by rw [h]; exact ⟨rfl, rfl⟩⟩
@[simp] theorem grpC_inj2 (g g' : Gc) : (keysG g = keysG g' ∧ rowsD 5 yTClaim (rowsG encTClaim g) = rowsD 5 yTClaim (rowsG encTClaim g')) ↔ g = g' := ⟨fun h => grp_inj inj_TClaim g g' h.1 (rowsD_inj _ _ h.2), fun h => by rw [h]; exact ⟨rfl, rfl⟩⟩
@[simp] theorem rowsC_flat (g : Gc) : (rowsG encTClaim g).all flatDs = true := rows_flat (fun _ => rfl) g
@[simp] theorem lookC (g : Gc) (k : Int) : (lookK (keysG g) (rowsD 5 yTClaim (rowsG encTClaim g)) [k]).getD (.sl false 5 yTClaim []) = .sl false 5 yTClaim (ML encTClaim (getG g k)) := look_G _ _ _ g k
/-- (*loop.example/g03007/impl.claimBook).note -/
noncomputable def c54 : Con := mkCon 54 true (α := Gc × TClaim) (fun x => (fun (g : Gc) (x : TClaim) => ([.ptr (0, 0) 0, encTClaim x] : List D)) x.1 x.2) (fun x => (fun (g : Gc) (x : TClaim) => ([((0, 0), .box (.agg [.mp (1, 0)])), ((1, 0), .rmap 0 (keysG g) 5 yTClaim (rowsG encTClaim g) none)] : List (Nm × OO))) x.1 x.2) (fun x => (fun (g : Gc) (x : TClaim) => (getG g x.Thing).length ≤ 1073741823) x.1 x.2) (fun x => (fun (g : Gc) (x : TClaim) => (.tup [] : D)) x.1 x.2) (fun x => (fun (g : Gc) (x : TClaim) => ([((0, 0), .box (.agg [.mp (1, 0)])), ((1, 0), .rmap 0 (keysG (addG g x.Thing x)) 5 yTClaim (rowsG encTClaim (addG g x.Thing x)) none)] : List (Nm × OO))) x.1 x.2)
@[simp] theorem c54_f : c54.f = 54 := rfl
@[simp] theorem c54_own : c54.own = true := rfl
theorem c54_inj : ∀ u_ v_ : Gc × TClaim, ((fun x => (fun (g : Gc) (x : TClaim) => ([.ptr (0, 0) 0, encTClaim x] : List D)) x.1 x.2) u_).map nz = ((fun x => (fun (g : Gc) (x : TClaim) => ([.ptr (0, 0) 0, encTClaim x] : List D)) x.1 x.2) v_).map nz → (fun x => (fun (g : Gc) (x : TClaim) => ([((0, 0), .box (.agg [.mp (1, 0)])), ((1, 0), .rmap 0 (keysG g) 5 yTClaim (rowsG encTClaim g) none)] : List (Nm × OO))) x.1 x.2) u_ = (fun x => (fun (g : Gc) (x : TClaim) => ([((0, 0), .box (.agg [.mp (1, 0)])), ((1, 0), .rmap 0 (keysG g) 5 yTClaim (rowsG encTClaim g) none)] : List (Nm × OO))) x.1 x.2) v_ → u_ = v_ := by
  intro u_ v_ h h2_
  obtain ⟨g, ⟨x_Id, x_Who, x_Thing, x_At, x_State⟩⟩ := u_
  obtain ⟨g', ⟨x_Id', x_Who', x_Thing', x_At', x_State'⟩⟩ := v_
  simp [nz_lit, nz1_lit, nz_agg, nz_sl, nz1_sl, nz_sx, nz_el, nz1_el, nz_own, nz1_own, nz_ptr, nz_fn, nz_iface] at h h2_
  first | (simp [h, h2_]; done) | (obtain ⟨h3_, h4_⟩ := List.append_inj h2_ h.1; simp_all; done) | simp_all | grind
@[simp] theorem c54_fn (g : Gc) (x_Id : Int) (x_Who : Int) (x_Thing : Int) (x_At : Int) (x_State : Int) : c54.fn ([.ptr (0, 0) 0, .agg [.lit (.int .i64 x_Id), .lit (.int .i64 x_Who), .lit (.int .i64 x_Thing), .lit (.int .i64 x_At), .lit (.int .i64 x_State)]]) ([((0, 0), .box (.agg [.mp (1, 0)])), ((1, 0), .rmap 0 (keysG g) 5 yTClaim (rowsG encTClaim g) none)]) = some ((getG g (⟨x_Id, x_Who, x_Thing, x_At, x_State⟩ : TClaim).Thing).length ≤ 1073741823, .tup [], [((0, 0), .box (.agg [.mp (1, 0)])), ((1, 0), .rmap 0 (keysG (addG g (⟨x_Id, x_Who, x_Thing, x_At, x_State⟩ : TClaim).Thing (⟨x_Id, x_Who, x_Thing, x_At, x_State⟩ : TClaim))) 5 yTClaim (rowsG encTClaim (addG g (⟨x_Id, x_Who, x_Thing, x_At, x_State⟩ : TClaim).Thing (⟨x_Id, x_Who, x_Thing, x_At, x_State⟩ : TClaim))) none)]) :=
  mkCon_fn c54_inj ((g, ⟨x_Id, x_Who, x_Thing, x_At, x_State⟩) : Gc × TClaim) rfl rfl
theorem c54_pc (g : Gc) (x : TClaim) (hpre : (getG g x.Thing).length ≤ 1073741823) : PCo Tryd.prog 54 ([.ptr (0, 0) 0, encTClaim x]) (Tab.of ([((0, 0), .box (.agg [.mp (1, 0)])), ((1, 0), .rmap 0 (keysG g) 5 yTClaim (rowsG encTClaim g) none)])) (.tup []) (Tab.of ([((0, 0), .box (.agg [.mp (1, 0)])), ((1, 0), .rmap 0 (keysG (addG g x.Thing x)) 5 yTClaim (rowsG encTClaim (addG g x.Thing x)) none)])) := by
  refine pco_of_run [1001] (E := ⟨[], [], []⟩) (m := false) (base := 0) Env.ok_nil G_ok mix 300 6 Tryd.func54 (by kernel_rfl) rfl (by kernel_rfl) (by kernel_rfl) rfl ?_
  obtain ⟨a, b, c, d, e⟩ := x
  simp only at hpre ⊢
  cases hp : posK [c] (keysG g) with
  | none =>
    have hn := posK_none_G hp
    simp [Tryd.f54, hp]
    exact ⟨keys_add .., rows_add _ _ _ _ _ (by rw [hn]; rfl)⟩
  | some j =>
    have hn := rows_at2 (enc := encTClaim) hp
    have hn2 := rows_at (enc := encTClaim) hp
    simp [Tryd.f54, hp, -rowsG_at, -rowsG_at2, hn, hn2]
    exact ⟨by omega, keys_add .., rows_add _ _ _ _ _ rfl⟩
theorem c54_ok : c54.ok Tryd.prog := mkCon_ok fun ⟨g, x⟩ hpre => c54_pc g x hpre
theorem getC_len (l : List TClaim) (k : Int) : (getG (bkC l) k).length ≤ l.length := by rw [getG_grp]; exact List.length_filter_le _ _
/-- loop.example/g03007/impl.newClaimBook -/
noncomputable def c39 : Con := mkCon 39 false (α := (List TClaim)) (fun x => (fun (l : List TClaim) => [encLTClaim l]) x) (fun _ => []) (fun x => (fun (l : List TClaim) => l.length ≤ 1073741823) x) (fun x => (fun (l : List TClaim) => (.el (.agg [.fm 0 (keysG (bkC l)) (.sl false 5 yTClaim []) (rowsD 5 yTClaim (rowsG encTClaim (bkC l)))]) : D)) x) (fun x => (fun (l : List TClaim) => []) x)
@[simp] theorem c39_f : c39.f = 39 := rfl
@[simp] theorem c39_own : c39.own = false := rfl
theorem c39_inj : ∀ u_ v_ : (List TClaim), ((fun x => (fun (l : List TClaim) => [encLTClaim l]) x) u_).map nz = ((fun x => (fun (l : List TClaim) => [encLTClaim l]) x) v_).map nz → u_ = v_ := by
  intro u_ v_ h
  obtain l := u_
  obtain l' := v_
  simp [nz_lit, nz1_lit, nz_agg, nz_sl, nz1_sl, encLTClaim] at h
  first | (simp [h]; done) | (obtain ⟨⟩ := h; simp_all; done) | simp_all
@[simp] theorem c39_fn (l : List TClaim) : c39.fn [.sl false 5 yTClaim (ML encTClaim l)] [] = some ((fun (l : List TClaim) => l.length ≤ 1073741823) l, (fun (l : List TClaim) => (.el (.agg [.fm 0 (keysG (bkC l)) (.sl false 5 yTClaim []) (rowsD 5 yTClaim (rowsG encTClaim (bkC l)))]) : D)) l, (fun (l : List TClaim) => []) l) :=
  mkCon_fn (fun x y h _ => c39_inj x y h) (l : (List TClaim)) (by simp [nz, nz1, ML_nil, encLTClaim]) rfl
@[simp] theorem c39_fn1 (s_l : Nat) (z_l : D) : c39.fn [.sl false s_l z_l []] [] = some ((fun (l : List TClaim) => l.length ≤ 1073741823) [], (fun (l : List TClaim) => (.el (.agg [.fm 0 (keysG (bkC l)) (.sl false 5 yTClaim []) (rowsD 5 yTClaim (rowsG encTClaim (bkC l)))]) : D)) [], (fun (l : List TClaim) => []) []) :=
  mkCon_fn (fun x y h _ => c39_inj x y h) ([] : (List TClaim)) (by simp [nz, nz1, ML_nil, encLTClaim]) rfl
theorem c39_pc (l : List TClaim) (hpre : l.length ≤ 1073741823) : PCo Tryd.prog 39 [encLTClaim l] (Tab.of []) (.el (.agg [.fm 0 (keysG (bkC l)) (.sl false 5 yTClaim []) (rowsD 5 yTClaim (rowsG encTClaim (bkC l)))])) (Tab.of []) := by
  refine pco_of_run [] (E := ⟨[c54, c54], [], []⟩) (m := false) (base := 0) (Env.ok_cons c54_ok (Env.ok_cons c54_ok Env.ok_nil)) G_ok mix 300 6 Tryd.func39 (by kernel_rfl) rfl (by kernel_rfl) (by kernel_rfl) rfl ?_
  simp [Tryd.f39]
  refine loop_inv (fun p : Nat => p ≤ l.length) (fun p => [(3, .ptr (0, 1) 0), (9, encLTClaim l), (10, dI l.length), (11, dI p)]) (fun p => [((0, 1), .box (.agg [.mp (1, 1)])), ((1, 1), .rmap 0 (keysG (bkC (l.take p))) 5 yTClaim (rowsG encTClaim (bkC (l.take p))) none)]) 2 (fun p => l.length - p) 0 400 (by simp) (by simp) (by simp) ?_
  intro p hp
  simp
  refine ⟨fun hlt => ?_, fun hge => ?_⟩
  · have hs := grpL_take (key := kTh) (d := default) hlt
    have hb := getC_len (l.take p) (l[p]?.getD default).Thing
    have hb2 : (l.take p).length ≤ p := by simp; omega
    repeat' (first | omega | refine And.intro ?_ ?_ | intro _)
    refine Again.mk (p + 1) (by omega) (by simp [hs]) (by first | omega | (simp; omega))
  · rw [List.take_of_length_le hge]
theorem c39_ok : c39.ok Tryd.prog := mkCon_ok fun l hpre => c39_pc l hpre
/-- loop.example/g03007/impl.countState$1 -/
noncomputable def c73 : Con := mkCon 73 false (α := TClaim × Int) (fun x => (fun (x : TClaim) (k : Int) => ([encTClaim x, .el (dI k)] : List D)) x.1 x.2) (fun x => (fun (x : TClaim) (k : Int) => ([] : List (Nm × OO))) x.1 x.2) (fun x => (fun (x : TClaim) (k : Int) => True) x.1 x.2) (fun x => (fun (x : TClaim) (k : Int) => (dB (stateIs k x) : D)) x.1 x.2) (fun x => (fun (x : TClaim) (k : Int) => ([] : List (Nm × OO))) x.1 x.2)
@[simp] theorem c73_f : c73.f = 73 := rfl
@[simp] theorem c73_own : c73.own = false := rfl
theorem c73_inj : ∀ u_ v_ : TClaim × Int, ((fun x => (fun (x : TClaim) (k : Int) => ([encTClaim x, .el (dI k)] : List D)) x.1 x.2) u_).map nz = ((fun x => (fun (x : TClaim) (k : Int) => ([encTClaim x, .el (dI k)] : List D)) x.1 x.2) v_).map nz → (fun x => (fun (x : TClaim) (k : Int) => ([] : List (Nm × OO))) x.1 x.2) u_ = (fun x => (fun (x : TClaim) (k : Int) => ([] : List (Nm × OO))) x.1 x.2) v_ → u_ = v_ := by
  intro u_ v_ h h2_
  obtain ⟨⟨x_Id, x_Who, x_Thing, x_At, x_State⟩, k⟩ := u_
  obtain ⟨⟨x_Id', x_Who', x_Thing', x_At', x_State'⟩, k'⟩ := v_
  simp [nz_lit, nz1_lit, nz_agg, nz_sl, nz1_sl, nz_sx, nz_el, nz1_el, nz_own, nz1_own, nz_ptr, nz_fn, nz_iface] at h h2_
  first | (simp [h, h2_]; done) | (obtain ⟨h3_, h4_⟩ := List.append_inj h2_ h.1; simp_all; done) | simp_all | grind
@[simp] theorem c73_fn (x_Id : Int) (x_Who : Int) (x_Thing : Int) (x_At : Int) (x_State : Int) (k : Int) : c73.fn ([.agg [.lit (.int .i64 x_Id), .lit (.int .i64 x_Who), .lit (.int .i64 x_Thing), .lit (.int .i64 x_At), .lit (.int .i64 x_State)], .el (dI k)]) ([]) = some (True, dB (stateIs k (⟨x_Id, x_Who, x_Thing, x_At, x_State⟩ : TClaim)), []) :=
  mkCon_fn c73_inj ((⟨x_Id, x_Who, x_Thing, x_At, x_State⟩, k) : TClaim × Int) rfl rfl
theorem c73_pc (x : TClaim) (k : Int) : PCo Tryd.prog 73 ([encTClaim x, .el (dI k)]) (Tab.of ([])) (dB (stateIs k x)) (Tab.of ([])) := by
  refine pco_of_run [] (E := ⟨[], [], []⟩) (m := false) (base := 0) Env.ok_nil G_ok mix 300 6 Tryd.func73 (by kernel_rfl) rfl (by kernel_rfl) (by kernel_rfl) rfl ?_
  simp [Tryd.f73]
  first | done | rfl
theorem c73_ok : c73.ok Tryd.prog := mkCon_ok fun ⟨x, k⟩ hpre => c73_pc x k
/-- loop.example/g03007/impl.countWhere[loop.example/g03007/impl.Claim] -/
noncomputable def c72 : Con := mkCon 72 false (α := (List TClaim) × Int) (fun x => (fun (l : List TClaim) (k : Int) => ([encLTClaim l, .fn (.func 73) [] [.el (dI k)]] : List D)) x.1 x.2) (fun x => (fun (l : List TClaim) (k : Int) => ([] : List (Nm × OO))) x.1 x.2) (fun x => (fun (l : List TClaim) (k : Int) => l.length ≤ 1099511627776) x.1 x.2) (fun x => (fun (l : List TClaim) (k : Int) => (dI (l.countP (stateIs k)) : D)) x.1 x.2) (fun x => (fun (l : List TClaim) (k : Int) => ([] : List (Nm × OO))) x.1 x.2)
@[simp] theorem c72_f : c72.f = 72 := rfl
@[simp] theorem c72_own : c72.own = false := rfl
theorem c72_inj : ∀ u_ v_ : (List TClaim) × Int, ((fun x => (fun (l : List TClaim) (k : Int) => ([encLTClaim l, .fn (.func 73) [] [.el (dI k)]] : List D)) x.1 x.2) u_).map nz = ((fun x => (fun (l : List TClaim) (k : Int) => ([encLTClaim l, .fn (.func 73) [] [.el (dI k)]] : List D)) x.1 x.2) v_).map nz → (fun x => (fun (l : List TClaim) (k : Int) => ([] : List (Nm × OO))) x.1 x.2) u_ = (fun x => (fun (l : List TClaim) (k : Int) => ([] : List (Nm × OO))) x.1 x.2) v_ → u_ = v_ := by
  intro u_ v_ h h2_
  obtain ⟨l, k⟩ := u_
  obtain ⟨l', k'⟩ := v_
  simp [nz_lit, nz1_lit, nz_agg, nz_sl, nz1_sl, nz_sx, nz_el, nz1_el, nz_own, nz1_own, nz_ptr, nz_fn, nz_iface] at h h2_
  first | (simp [h, h2_]; done) | (obtain ⟨h3_, h4_⟩ := List.append_inj h2_ h.1; simp_all; done) | simp_all | grind
@[simp] theorem c72_fn (l : List TClaim) (k : Int) : c72.fn ([(.sl false 5 yTClaim (ML encTClaim l)), .fn (.func 73) [] [.el (dI k)]]) ([]) = some (l.length ≤ 1099511627776, dI (l.countP (stateIs k)), []) :=
  mkCon_fn c72_inj ((l, k) : (List TClaim) × Int) rfl rfl
theorem c72_pc (l : List TClaim) (k : Int) (hpre : l.length ≤ 1099511627776) : PCo Tryd.prog 72 ([encLTClaim l, .fn (.func 73) [] [.el (dI k)]]) (Tab.of ([])) (dI (l.countP (stateIs k))) (Tab.of ([])) := by
  refine pco_of_run [] (E := ⟨[c73], [], []⟩) (m := false) (base := 0) (Env.ok_cons c73_ok Env.ok_nil) G_ok mix 300 6 Tryd.func72 (by kernel_rfl) rfl (by kernel_rfl) (by kernel_rfl) rfl ?_
  simp [Tryd.f72]
  refine loop_inv (fun p : Nat => p ≤ l.length) (fun p => [(1, .fn (.func 73) [] [.el (dI k)]), (5, dI ((l.take p).countP (stateIs k))), (8, encLTClaim l), (9, dI l.length), (10, dI p)]) (fun _ => []) 1 (fun p => l.length - p) 0 400 (by simp) (by simp) (by simp) ?_
  intro p hp
  simp
  refine ⟨fun hlt => ?_, fun hge => ?_⟩
  · have hs := countP_at (want := stateIs k) (d := default) hlt
    have hb := countP_take (want := stateIs k) (l := l) (p := p)
    repeat' (first | omega | refine And.intro ?_ ?_ | intro _)
    all_goals (rename_i hw; refine Again.mk (p + 1) (by omega) (by simp [hs, hw]) (by first | omega | (simp; omega)))
  · rw [List.take_of_length_le hge]
theorem c72_ok : c72.ok Tryd.prog := mkCon_ok fun ⟨l, k⟩ hpre => c72_pc l k hpre
/-- loop.example/g03007/impl.countState -/
noncomputable def c68 : Con := mkCon 68 false (α := (List TClaim) × Int) (fun x => (fun (l : List TClaim) (k : Int) => [encLTClaim l, dI k]) x.1 x.2) (fun _ => []) (fun x => (fun (l : List TClaim) (k : Int) => l.length ≤ 1099511627776) x.1 x.2) (fun x => (fun (l : List TClaim) (k : Int) => (dI (l.countP (stateIs k)) : D)) x.1 x.2) (fun x => (fun (l : List TClaim) (k : Int) => []) x.1 x.2)
@[simp] theorem c68_f : c68.f = 68 := rfl
@[simp] theorem c68_own : c68.own = false := rfl
theorem c68_inj : ∀ u_ v_ : (List TClaim) × Int, ((fun x => (fun (l : List TClaim) (k : Int) => [encLTClaim l, dI k]) x.1 x.2) u_).map nz = ((fun x => (fun (l : List TClaim) (k : Int) => [encLTClaim l, dI k]) x.1 x.2) v_).map nz → u_ = v_ := by
  intro u_ v_ h
  obtain ⟨l, k⟩ := u_
  obtain ⟨l', k'⟩ := v_
  simp [nz_lit, nz1_lit, nz_agg, nz_sl, nz1_sl, encLTClaim] at h
  first | (simp [h]; done) | (obtain ⟨⟩ := h; simp_all; done) | simp_all
@[simp] theorem c68_fn (l : List TClaim) (k : Int) : c68.fn [.sl false 5 yTClaim (ML encTClaim l), .lit (.int .i64 k)] [] = some ((fun (l : List TClaim) (k : Int) => l.length ≤ 1099511627776) l k, (fun (l : List TClaim) (k : Int) => (dI (l.countP (stateIs k)) : D)) l k, (fun (l : List TClaim) (k : Int) => []) l k) :=
  mkCon_fn (fun x y h _ => c68_inj x y h) ((l, k) : (List TClaim) × Int) (by simp [nz, nz1, ML_nil, encLTClaim]) rfl
@[simp] theorem c68_fn1 (s_l : Nat) (z_l : D) (k : Int) : c68.fn [.sl false s_l z_l [], .lit (.int .i64 k)] [] = some ((fun (l : List TClaim) (k : Int) => l.length ≤ 1099511627776) [] k, (fun (l : List TClaim) (k : Int) => (dI (l.countP (stateIs k)) : D)) [] k, (fun (l : List TClaim) (k : Int) => []) [] k) :=
  mkCon_fn (fun x y h _ => c68_inj x y h) (([], k) : (List TClaim) × Int) (by simp [nz, nz1, ML_nil, encLTClaim]) rfl
theorem c68_pc (l : List TClaim) (k : Int) (hpre : l.length ≤ 1099511627776) : PCo Tryd.prog 68 [encLTClaim l, dI k] (Tab.of []) (dI (l.countP (stateIs k))) (Tab.of []) := by
  refine pco_of_run [] (E := ⟨[c72, c73], [], []⟩) (m := false) (base := 0) (Env.ok_cons c72_ok (Env.ok_cons c73_ok Env.ok_nil)) G_ok mix 300 6 Tryd.func68 (by kernel_rfl) rfl (by kernel_rfl) (by kernel_rfl) rfl ?_
  simp [Tryd.f68]
  exact hpre
theorem c68_ok : c68.ok Tryd.prog := mkCon_ok fun ⟨l, k⟩ hpre => c68_pc l k hpre
def twice (g : Gc) : Bool := g.any fun p => decide (1 < p.2.countP (stateIs 3))
def okTwice (g : Gc) (l : List Nat) : Prop := l.Nodup ∧ (∀ i ∈ l, i < g.length) ∧ ∀ i ∈ l, ¬ 1 < (rowAt g i).countP (stateIs 3)
@[simp] def nClaim (x : TClaim) : Int := x.Id
def mIsClaim (x : TClaim) : Bool := mIn x.Id 1 999 && mIn x.Who 1 999 && mIn x.Thing 1 999 && mIn x.At 0 100000 && mIn x.State 0 3
def sameServed (x y : TClaim) : Bool := stateIs 3 x && (stateIs 3 y && decide (y.Thing = x.Thing))
def dupC : List TClaim → List TClaim → Bool
  | _, [] => false
  | b, x :: r => b.any (sameServed x) || dupC (b ++ [x]) r
theorem count_any {l : List TClaim} {f w : TClaim → Bool} : 0 < (l.filter f).countP w ↔ ∃ y ∈ l, f y = true ∧ w y = true := by
  rw [List.countP_pos_iff]
  constructor
  · rintro ⟨y, hy, h⟩; exact ⟨y, (List.mem_filter.1 hy).1, (List.mem_filter.1 hy).2, h⟩
  · rintro ⟨y, hy, h1, h2⟩; exact ⟨y, List.mem_filter.2 ⟨hy, h1⟩, h2⟩
theorem twice_snoc (b : List TClaim) (x : TClaim) : twice (bkC (b ++ [x])) = (twice (bkC b) || b.any (sameServed x)) := by
  have e : (stateIs 3 x && decide (0 < (getG (bkC b) (kTh x)).countP (stateIs 3))) = b.any (sameServed x) := by
    rw [bkC, getG_grp, Bool.eq_iff_iff, Bool.and_eq_true, decide_eq_true_eq, count_any, List.any_eq_true]
    simp only [sameServed, Bool.and_eq_true, decide_eq_true_eq, kTh]
    constructor
    · rintro ⟨h, y, h1, h2, h3⟩; exact ⟨y, h1, h, h3, of_decide_eq_true h2⟩
    · rintro ⟨y, h1, h, h3, h2⟩; exact ⟨h, y, h1, decide_eq_true h2, h3⟩
  rw [← e]
  simp only [twice, bkC, grpL_snoc]
  rw [any_addG]
theorem twice_dup : ∀ (r b : List TClaim), (twice (bkC b) || dupC b r) = twice (bkC (b ++ r))
  | [], b => by simp [dupC]
  | x :: r, b => by
    have := twice_dup r (b ++ [x])
    rw [dupC, ← Bool.or_assoc, ← twice_snoc, this]; simp
theorem twice_eq (l : List TClaim) : twice (bkC l) = dupC [] l := by
  have := twice_dup l []
  simpa [twice, bkC] using this.symm
def mAreClaims (l : List TClaim) : Bool := decide (l.length ≤ 20) && ascBy mIsClaim nClaim none l && !dupC [] l
theorem bk_len {l : List TClaim} {n : Nat} (h : l.length ≤ n) : ∀ p ∈ bkC l, p.2.length ≤ n := by
  intro p hp
  have := grp_len kTh l p hp
  omega
def goC (l : List TClaim) (p : Nat) : Bool := ascBy mIsClaim nClaim (prevO nClaim l p) (l.drop p) && !dupC (l.take p) (l.drop p)
theorem goC_at {l : List TClaim} {p : Nat} (h : p < l.length) : goC l p = (mIsClaim (l[p]?.getD default) && decide (0 < p → nClaim (l[p - 1]?.getD default) < nClaim (l[p]?.getD default)) && !(l.take p).any (sameServed (l[p]?.getD default)) && goC l (p + 1)) := by
  simp only [goC]
  rw [ascBy_at h, drop_at (d := default) h, dupC, take_at (d := default) h]
  cases mIsClaim (l[p]?.getD default) <;> cases (l.take p).any (sameServed (l[p]?.getD default)) <;> simp [Bool.and_assoc]
theorem take_get {α : Type} {l : List α} {p k : Nat} {d : α} (h : k < p) : (l.take p)[k]?.getD d = l[k]?.getD d := by
  rw [List.getElem?_take_of_lt h]
theorem mAre_goC (l : List TClaim) : mAreClaims l = (decide (l.length ≤ 20) && goC l 0) := by
  simp [mAreClaims, goC, Bool.and_assoc]
/-- loop.example/g03007/spec.AreClaims -/
noncomputable def c70 : Con := mkCon 70 false (α := (List TClaim)) (fun x => (fun (l : List TClaim) => [encLTClaim l]) x) (fun _ => []) (fun x => (fun (l : List TClaim) => l.length ≤ 1073741823) x) (fun x => (fun (l : List TClaim) => (dB (mAreClaims l) : D)) x) (fun x => (fun (l : List TClaim) => []) x)
@[simp] theorem c70_f : c70.f = 70 := rfl
@[simp] theorem c70_own : c70.own = false := rfl
theorem c70_inj : ∀ u_ v_ : (List TClaim), ((fun x => (fun (l : List TClaim) => [encLTClaim l]) x) u_).map nz = ((fun x => (fun (l : List TClaim) => [encLTClaim l]) x) v_).map nz → u_ = v_ := by
  intro u_ v_ h
  obtain l := u_
  obtain l' := v_
  simp [nz_lit, nz1_lit, nz_agg, nz_sl, nz1_sl, encLTClaim] at h
  first | (simp [h]; done) | (obtain ⟨⟩ := h; simp_all; done) | simp_all
@[simp] theorem c70_fn (l : List TClaim) : c70.fn [.sl false 5 yTClaim (ML encTClaim l)] [] = some ((fun (l : List TClaim) => l.length ≤ 1073741823) l, (fun (l : List TClaim) => (dB (mAreClaims l) : D)) l, (fun (l : List TClaim) => []) l) :=
  mkCon_fn (fun x y h _ => c70_inj x y h) (l : (List TClaim)) (by simp [nz, nz1, ML_nil, encLTClaim]) rfl
@[simp] theorem c70_fn1 (s_l : Nat) (z_l : D) : c70.fn [.sl false s_l z_l []] [] = some ((fun (l : List TClaim) => l.length ≤ 1073741823) [], (fun (l : List TClaim) => (dB (mAreClaims l) : D)) [], (fun (l : List TClaim) => []) []) :=
  mkCon_fn (fun x y h _ => c70_inj x y h) ([] : (List TClaim)) (by simp [nz, nz1, ML_nil, encLTClaim]) rfl
theorem c70_pc (l : List TClaim) (hpre : l.length ≤ 1073741823) : PCo Tryd.prog 70 [encLTClaim l] (Tab.of []) (dB (mAreClaims l)) (Tab.of []) := by
  refine pco_of_run [] (E := ⟨[c76], [], []⟩) (m := false) (base := 0) (Env.ok_cons c76_ok Env.ok_nil) G_ok mix 300 6 Tryd.func70 (by kernel_rfl) rfl (by kernel_rfl) (by kernel_rfl) rfl ?_
  simp [Tryd.f70]
  refine loop_inv (fun p : Nat => p ≤ l.length ∧ goC l 0 = goC l p) (fun p => [(0, encLTClaim l), (3, dI p)]) (fun _ => []) 1 (fun p => l.length - p) 0 400 (by simp) (by simp) (by simp) ?_
  intro p ⟨hp, hi⟩
  simp
  refine ⟨fun hlt => ?_, fun hge => ?_⟩
  · have hs := goC_at hlt
    rw [hs] at hi
    refine ⟨hlt, ⟨fun _ _ _ _ _ _ => by omega, fun _ _ _ _ _ _ => by omega⟩, fun hbad => ?_, fun h1 h2 h3 h4 h5 h6 => ?_⟩
    · have : goC l 0 = false := by
        rw [hi]
        cases hc : (mIsClaim (l[p]?.getD default) && decide (0 < p → nClaim (l[p - 1]?.getD default) < nClaim (l[p]?.getD default))) with
        | false => simp
        | true =>
          exfalso
          simp only [mIsClaim, Bool.and_eq_true, decide_eq_true_eq, nClaim] at hc
          obtain ⟨⟨⟨⟨⟨h1, h2⟩, h3⟩, h4⟩, h5⟩, h6⟩ := hc
          simp only [h1, h2, h3, h4, h5] at hbad
          simp at hbad
          have := of_decide_eq_true h6 hbad.1
          omega
      rw [mAre_goC, this]; simp
    · have hc : (mIsClaim (l[p]?.getD default) && decide (0 < p → nClaim (l[p - 1]?.getD default) < nClaim (l[p]?.getD default))) = true := by
        simp only [mIsClaim, h1, h2, h3, h4, h5, Bool.true_and]
        exact decide_eq_true h6
      rw [hc] at hi
      refine loop_inv (fun k : Nat => k ≤ p ∧ (l.take p).any (sameServed (l[p]?.getD default)) = ((l.take p).drop k).any (sameServed (l[p]?.getD default))) (fun k => [(0, encLTClaim l), (3, dI p), (4, .ptr (0, 1) 0), (5, dI k)]) (fun _ => [((0, 1), .box (encTClaim (l[p]?.getD default)))]) 2 (fun k => p - k) 0 400 (by simp) (by simp) (by simp) ?_
      intro k ⟨hk, hj⟩
      simp
      refine ⟨fun hkp => ?_, fun hkp => ?_⟩
      · have hkl : k < (l.take p).length := by simp; omega
        rw [any_at (d := default) hkl, take_get hkp] at hj
        have hsv : sameServed (l[p]?.getD default) (l[k]?.getD default) = true ↔ (l[p]?.getD default).State = 3 ∧ (l[k]?.getD default).State = 3 ∧ (l[k]?.getD default).Thing = (l[p]?.getD default).Thing := by simp [sameServed, stateIs]
        refine ⟨⟨fun _ => by omega, fun _ _ => by omega⟩, fun a b c => ?_, fun hno => ⟨by omega, Again.mk (k + 1) ⟨by omega, ?_⟩ (by simp) (by first | omega | (simp; omega))⟩⟩
        · rw [hsv.2 ⟨a, b, c⟩] at hj
          rw [mAre_goC, hi, hj]; simp
        · cases hq : sameServed (l[p]?.getD default) (l[k]?.getD default) with
          | false => rw [hj, hq]; simp
          | true => exact absurd (hsv.1 hq).2.2 (hno (hsv.1 hq).1 (hsv.1 hq).2.1)
      · have hkl : (l.take p).length ≤ k := by simp; omega
        rw [any_end hkl] at hj
        rw [hj] at hi
        repeat' (first | omega | refine And.intro ?_ ?_ | intro _)
        exact Again.mk (p + 1) ⟨by omega, by simpa using hi⟩ (by simp) (by first | omega | (simp; omega))
  · have hpl : p = l.length := by omega
    subst hpl
    have : goC l l.length = true := by simp [goC, ascBy, dupC]
    rw [mAre_goC, hi, this]
    rw [Bool.eq_iff_iff]; simp; omega
theorem c70_ok : c70.ok Tryd.prog := mkCon_ok fun l hpre => c70_pc l hpre

end Go.Proofs.YtpnfkjbnhholfaaDoor
