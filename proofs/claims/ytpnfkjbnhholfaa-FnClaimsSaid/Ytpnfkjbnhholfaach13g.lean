/- Contracts of the functions that the laws run. -/
import Derived.Test.Ytpnfkjbnhholfaagrp
import Derived.Test.Ytpnfkjbnhholfaaascg
import Derived.Test.YtpnfkjbnhholfaahelpA
import Derived.Test.YtpnfkjbnhholfaaEngB
namespace Go.Proofs.Ytpnfkjbnhholfaa
open Go Go.Eng
set_option linter.unusedSimpArgs false
set_option linter.unusedVariables false
set_option maxRecDepth 10000
set_option maxHeartbeats 1000000
def stateIs (k : Int) (x : TClaim) : Bool := decide (x.State = k)
abbrev Gc := List (Int × List TClaim)
@[simp] def kTh (x : TClaim) : Int := x.Thing
abbrev bkC (l : List TClaim) : Gc := grpL kTh l
@[simp] theorem grpC_inj (g g' : Gc) : (keysG g = keysG g' ∧ rowsG encTClaim g = rowsG encTClaim g') ↔ g = g' := ⟨fun h => grp_inj inj_TClaim g g' h.1 h.2, fun h => by rw [h]; exact ⟨rfl, rfl⟩⟩
@[simp] theorem grpC_inj2 (g g' : Gc) : (keysG g = keysG g' ∧ rowsD 5 yTClaim (rowsG encTClaim g) = rowsD 5 yTClaim (rowsG encTClaim g')) ↔ g = g' := ⟨fun h => grp_inj inj_TClaim g g' h.1 (rowsD_inj _ _ h.2), fun h => by rw [h]; exact ⟨rfl, rfl⟩⟩
@[simp] theorem rowsC_flat (g : Gc) : (rowsG encTClaim g).all flatDs = true := rows_flat (fun _ => rfl) g
@[simp] theorem lookC (g : Gc) (k : Int) : (lookK (keysG g) (rowsD 5 yTClaim (rowsG encTClaim g)) [k]).getD (.sl false 5 yTClaim []) = .sl false 5 yTClaim (ML encTClaim (getG g k)) := look_G _ _ _ g k
/-- (*loop.example/g03007/impl.claimBook).note -/
noncomputable def c159 : Con := mkCon 159 true (α := Gc × TClaim) (fun x => (fun (g : Gc) (x : TClaim) => ([.ptr (0, 0) 0, encTClaim x] : List D)) x.1 x.2) (fun x => (fun (g : Gc) (x : TClaim) => ([((0, 0), .box (.agg [.mp (1, 0)])), ((1, 0), .rmap 0 (keysG g) 5 yTClaim (rowsG encTClaim g) none)] : List (Nm × OO))) x.1 x.2) (fun x => (fun (g : Gc) (x : TClaim) => (getG g x.Thing).length ≤ 1073741823) x.1 x.2) (fun x => (fun (g : Gc) (x : TClaim) => (.tup [] : D)) x.1 x.2) (fun x => (fun (g : Gc) (x : TClaim) => ([((0, 0), .box (.agg [.mp (1, 0)])), ((1, 0), .rmap 0 (keysG (addG g x.Thing x)) 5 yTClaim (rowsG encTClaim (addG g x.Thing x)) none)] : List (Nm × OO))) x.1 x.2)
@[simp] theorem c159_f : c159.f = 159 := rfl
@[simp] theorem c159_own : c159.own = true := rfl
theorem c159_inj : ∀ u_ v_ : Gc × TClaim, ((fun x => (fun (g : Gc) (x : TClaim) => ([.ptr (0, 0) 0, encTClaim x] : List D)) x.1 x.2) u_).map nz = ((fun x => (fun (g : Gc) (x : TClaim) => ([.ptr (0, 0) 0, encTClaim x] : List D)) x.1 x.2) v_).map nz → (fun x => (fun (g : Gc) (x : TClaim) => ([((0, 0), .box (.agg [.mp (1, 0)])), ((1, 0), .rmap 0 (keysG g) 5 yTClaim (rowsG encTClaim g) none)] : List (Nm × OO))) x.1 x.2) u_ = (fun x => (fun (g : Gc) (x : TClaim) => ([((0, 0), .box (.agg [.mp (1, 0)])), ((1, 0), .rmap 0 (keysG g) 5 yTClaim (rowsG encTClaim g) none)] : List (Nm × OO))) x.1 x.2) v_ → u_ = v_ := by
  intro u_ v_ h h2_
  obtain ⟨g, ⟨x_Id, x_Who, x_Thing, x_At, x_State⟩⟩ := u_
  obtain ⟨g', ⟨x_Id', x_Who', x_Thing', x_At', x_State'⟩⟩ := v_
  simp [nz_lit, nz1_lit, nz_agg, nz_sl, nz1_sl, nz_sx, nz_el, nz1_el, nz_own, nz1_own, nz_ptr, nz_fn, nz_iface] at h h2_
  first | (simp [h, h2_]; done) | (obtain ⟨h3_, h4_⟩ := List.append_inj h2_ h.1; simp_all; done) | simp_all | grind
@[simp] theorem c159_fn (g : Gc) (x_Id : Int) (x_Who : Int) (x_Thing : Int) (x_At : Int) (x_State : Int) : c159.fn ([.ptr (0, 0) 0, .agg [.lit (.int .i64 x_Id), .lit (.int .i64 x_Who), .lit (.int .i64 x_Thing), .lit (.int .i64 x_At), .lit (.int .i64 x_State)]]) ([((0, 0), .box (.agg [.mp (1, 0)])), ((1, 0), .rmap 0 (keysG g) 5 yTClaim (rowsG encTClaim g) none)]) = some ((getG g (⟨x_Id, x_Who, x_Thing, x_At, x_State⟩ : TClaim).Thing).length ≤ 1073741823, .tup [], [((0, 0), .box (.agg [.mp (1, 0)])), ((1, 0), .rmap 0 (keysG (addG g (⟨x_Id, x_Who, x_Thing, x_At, x_State⟩ : TClaim).Thing (⟨x_Id, x_Who, x_Thing, x_At, x_State⟩ : TClaim))) 5 yTClaim (rowsG encTClaim (addG g (⟨x_Id, x_Who, x_Thing, x_At, x_State⟩ : TClaim).Thing (⟨x_Id, x_Who, x_Thing, x_At, x_State⟩ : TClaim))) none)]) :=
  mkCon_fn c159_inj ((g, ⟨x_Id, x_Who, x_Thing, x_At, x_State⟩) : Gc × TClaim) rfl rfl
theorem c159_pc (g : Gc) (x : TClaim) (hpre : (getG g x.Thing).length ≤ 1073741823) : PCo Try.prog 159 ([.ptr (0, 0) 0, encTClaim x]) (Tab.of ([((0, 0), .box (.agg [.mp (1, 0)])), ((1, 0), .rmap 0 (keysG g) 5 yTClaim (rowsG encTClaim g) none)])) (.tup []) (Tab.of ([((0, 0), .box (.agg [.mp (1, 0)])), ((1, 0), .rmap 0 (keysG (addG g x.Thing x)) 5 yTClaim (rowsG encTClaim (addG g x.Thing x)) none)])) := by
  refine pco_of_run [1001] (E := ⟨[], [], []⟩) (m := false) (base := 0) Env.ok_nil G_ok mix 300 6 Try.func159 (by kernel_rfl) rfl (by kernel_rfl) (by kernel_rfl) rfl ?_
  obtain ⟨a, b, c, d, e⟩ := x
  simp only at hpre ⊢
  cases hp : posK [c] (keysG g) with
  | none =>
    have hn := posK_none_G hp
    simp [Try.f159, hp]
    exact ⟨keys_add .., rows_add _ _ _ _ _ (by rw [hn]; rfl)⟩
  | some j =>
    have hn := rows_at2 (enc := encTClaim) hp
    have hn2 := rows_at (enc := encTClaim) hp
    simp [Try.f159, hp, -rowsG_at, -rowsG_at2, hn, hn2]
    exact ⟨by omega, keys_add .., rows_add _ _ _ _ _ rfl⟩
theorem c159_ok : c159.ok Try.prog := mkCon_ok fun ⟨g, x⟩ hpre => c159_pc g x hpre
theorem getC_len (l : List TClaim) (k : Int) : (getG (bkC l) k).length ≤ l.length := by rw [getG_grp]; exact List.length_filter_le _ _
/-- loop.example/g03007/impl.newClaimBook -/
noncomputable def c96 : Con := mkCon 96 false (α := (List TClaim)) (fun x => (fun (l : List TClaim) => [encLTClaim l]) x) (fun _ => []) (fun x => (fun (l : List TClaim) => l.length ≤ 1073741823) x) (fun x => (fun (l : List TClaim) => (.el (.agg [.fm 0 (keysG (bkC l)) (.sl false 5 yTClaim []) (rowsD 5 yTClaim (rowsG encTClaim (bkC l)))]) : D)) x) (fun x => (fun (l : List TClaim) => []) x)
@[simp] theorem c96_f : c96.f = 96 := rfl
@[simp] theorem c96_own : c96.own = false := rfl
theorem c96_inj : ∀ u_ v_ : (List TClaim), ((fun x => (fun (l : List TClaim) => [encLTClaim l]) x) u_).map nz = ((fun x => (fun (l : List TClaim) => [encLTClaim l]) x) v_).map nz → u_ = v_ := by
  intro u_ v_ h
  obtain l := u_
  obtain l' := v_
  simp [nz_lit, nz1_lit, nz_agg, nz_sl, nz1_sl, encLTClaim] at h
  first | (simp [h]; done) | (obtain ⟨⟩ := h; simp_all; done) | simp_all
@[simp] theorem c96_fn (l : List TClaim) : c96.fn [.sl false 5 yTClaim (ML encTClaim l)] [] = some ((fun (l : List TClaim) => l.length ≤ 1073741823) l, (fun (l : List TClaim) => (.el (.agg [.fm 0 (keysG (bkC l)) (.sl false 5 yTClaim []) (rowsD 5 yTClaim (rowsG encTClaim (bkC l)))]) : D)) l, (fun (l : List TClaim) => []) l) :=
  mkCon_fn (fun x y h _ => c96_inj x y h) (l : (List TClaim)) (by simp [nz, nz1, ML_nil, encLTClaim]) rfl
@[simp] theorem c96_fn1 (s_l : Nat) (z_l : D) : c96.fn [.sl false s_l z_l []] [] = some ((fun (l : List TClaim) => l.length ≤ 1073741823) [], (fun (l : List TClaim) => (.el (.agg [.fm 0 (keysG (bkC l)) (.sl false 5 yTClaim []) (rowsD 5 yTClaim (rowsG encTClaim (bkC l)))]) : D)) [], (fun (l : List TClaim) => []) []) :=
  mkCon_fn (fun x y h _ => c96_inj x y h) ([] : (List TClaim)) (by simp [nz, nz1, ML_nil, encLTClaim]) rfl
theorem c96_pc (l : List TClaim) (hpre : l.length ≤ 1073741823) : PCo Try.prog 96 [encLTClaim l] (Tab.of []) (.el (.agg [.fm 0 (keysG (bkC l)) (.sl false 5 yTClaim []) (rowsD 5 yTClaim (rowsG encTClaim (bkC l)))])) (Tab.of []) := by
  refine pco_of_run [] (E := ⟨[c159, c159], [], []⟩) (m := false) (base := 0) (Env.ok_cons c159_ok (Env.ok_cons c159_ok Env.ok_nil)) G_ok mix 300 6 Try.func96 (by kernel_rfl) rfl (by kernel_rfl) (by kernel_rfl) rfl ?_
  simp [Try.f96]
  refine loop_inv (fun p : Nat => p ≤ l.length) (fun p => [(3, .ptr (0, 1) 0), (9, encLTClaim l), (10, dI l.length), (11, dI p)]) (fun p => [((0, 1), .box (.agg [.mp (1, 1)])), ((1, 1), .rmap 0 (keysG (bkC (l.take p))) 5 yTClaim (rowsG encTClaim (bkC (l.take p))) none)]) 2 (fun p => l.length - p) 0 400 (by simp) (by simp) (by simp) ?_
  intro p hp
  simp
  refine ⟨fun hlt => ?_, fun hge => ?_⟩
  · have hs := grpL_take (key := kTh) (d := default) hlt
    have hb := getC_len (l.take p) (l[p]?.getD default).Thing
    have hb2 : (l.take p).length ≤ p := by simp; omega
    repeat' (first | omega | refine And.intro ?_ ?_ | intro _)
    refine Again.mk (p + 1) (by omega) (by simp [hs]) (by first | omega | (simp; omega))
  · rw [List.take_of_length_le hge]
theorem c96_ok : c96.ok Try.prog := mkCon_ok fun l hpre => c96_pc l hpre
/-- loop.example/g03007/impl.countState$1 -/
noncomputable def c203 : Con := mkCon 203 false (α := TClaim × Int) (fun x => (fun (x : TClaim) (k : Int) => ([encTClaim x, .el (dI k)] : List D)) x.1 x.2) (fun x => (fun (x : TClaim) (k : Int) => ([] : List (Nm × OO))) x.1 x.2) (fun x => (fun (x : TClaim) (k : Int) => True) x.1 x.2) (fun x => (fun (x : TClaim) (k : Int) => (dB (stateIs k x) : D)) x.1 x.2) (fun x => (fun (x : TClaim) (k : Int) => ([] : List (Nm × OO))) x.1 x.2)
@[simp] theorem c203_f : c203.f = 203 := rfl
@[simp] theorem c203_own : c203.own = false := rfl
theorem c203_inj : ∀ u_ v_ : TClaim × Int, ((fun x => (fun (x : TClaim) (k : Int) => ([encTClaim x, .el (dI k)] : List D)) x.1 x.2) u_).map nz = ((fun x => (fun (x : TClaim) (k : Int) => ([encTClaim x, .el (dI k)] : List D)) x.1 x.2) v_).map nz → (fun x => (fun (x : TClaim) (k : Int) => ([] : List (Nm × OO))) x.1 x.2) u_ = (fun x => (fun (x : TClaim) (k : Int) => ([] : List (Nm × OO))) x.1 x.2) v_ → u_ = v_ := by
  intro u_ v_ h h2_
  obtain ⟨⟨x_Id, x_Who, x_Thing, x_At, x_State⟩, k⟩ := u_
  obtain ⟨⟨x_Id', x_Who', x_Thing', x_At', x_State'⟩, k'⟩ := v_
  simp [nz_lit, nz1_lit, nz_agg, nz_sl, nz1_sl, nz_sx, nz_el, nz1_el, nz_own, nz1_own, nz_ptr, nz_fn, nz_iface] at h h2_
  first | (simp [h, h2_]; done) | (obtain ⟨h3_, h4_⟩ := List.append_inj h2_ h.1; simp_all; done) | simp_all | grind
@[simp] theorem c203_fn (x_Id : Int) (x_Who : Int) (x_Thing : Int) (x_At : Int) (x_State : Int) (k : Int) : c203.fn ([.agg [.lit (.int .i64 x_Id), .lit (.int .i64 x_Who), .lit (.int .i64 x_Thing), .lit (.int .i64 x_At), .lit (.int .i64 x_State)], .el (dI k)]) ([]) = some (True, dB (stateIs k (⟨x_Id, x_Who, x_Thing, x_At, x_State⟩ : TClaim)), []) :=
  mkCon_fn c203_inj ((⟨x_Id, x_Who, x_Thing, x_At, x_State⟩, k) : TClaim × Int) rfl rfl
theorem c203_pc (x : TClaim) (k : Int) : PCo Try.prog 203 ([encTClaim x, .el (dI k)]) (Tab.of ([])) (dB (stateIs k x)) (Tab.of ([])) := by
  refine pco_of_run [] (E := ⟨[], [], []⟩) (m := false) (base := 0) Env.ok_nil G_ok mix 300 6 Try.func203 (by kernel_rfl) rfl (by kernel_rfl) (by kernel_rfl) rfl ?_
  simp [Try.f203]
  first | done | rfl
theorem c203_ok : c203.ok Try.prog := mkCon_ok fun ⟨x, k⟩ hpre => c203_pc x k
/-- loop.example/g03007/impl.countWhere[loop.example/g03007/impl.Claim] -/
noncomputable def c202 : Con := mkCon 202 false (α := (List TClaim) × Int) (fun x => (fun (l : List TClaim) (k : Int) => ([encLTClaim l, .fn (.func 203) [] [.el (dI k)]] : List D)) x.1 x.2) (fun x => (fun (l : List TClaim) (k : Int) => ([] : List (Nm × OO))) x.1 x.2) (fun x => (fun (l : List TClaim) (k : Int) => l.length ≤ 1099511627776) x.1 x.2) (fun x => (fun (l : List TClaim) (k : Int) => (dI (l.countP (stateIs k)) : D)) x.1 x.2) (fun x => (fun (l : List TClaim) (k : Int) => ([] : List (Nm × OO))) x.1 x.2)
@[simp] theorem c202_f : c202.f = 202 := rfl
@[simp] theorem c202_own : c202.own = false := rfl
theorem c202_inj : ∀ u_ v_ : (List TClaim) × Int, ((fun x => (fun (l : List TClaim) (k : Int) => ([encLTClaim l, .fn (.func 203) [] [.el (dI k)]] : List D)) x.1 x.2) u_).map nz = ((fun x => (fun (l : List TClaim) (k : Int) => ([encLTClaim l, .fn (.func 203) [] [.el (dI k)]] : List D)) x.1 x.2) v_).map nz → (fun x => (fun (l : List TClaim) (k : Int) => ([] : List (Nm × OO))) x.1 x.2) u_ = (fun x => (fun (l : List TClaim) (k : Int) => ([] : List (Nm × OO))) x.1 x.2) v_ → u_ = v_ := by
  intro u_ v_ h h2_
  obtain ⟨l, k⟩ := u_
  obtain ⟨l', k'⟩ := v_
  simp [nz_lit, nz1_lit, nz_agg, nz_sl, nz1_sl, nz_sx, nz_el, nz1_el, nz_own, nz1_own, nz_ptr, nz_fn, nz_iface] at h h2_
  first | (simp [h, h2_]; done) | (obtain ⟨h3_, h4_⟩ := List.append_inj h2_ h.1; simp_all; done) | simp_all | grind
@[simp] theorem c202_fn (l : List TClaim) (k : Int) : c202.fn ([(.sl false 5 yTClaim (ML encTClaim l)), .fn (.func 203) [] [.el (dI k)]]) ([]) = some (l.length ≤ 1099511627776, dI (l.countP (stateIs k)), []) :=
  mkCon_fn c202_inj ((l, k) : (List TClaim) × Int) rfl rfl
theorem c202_pc (l : List TClaim) (k : Int) (hpre : l.length ≤ 1099511627776) : PCo Try.prog 202 ([encLTClaim l, .fn (.func 203) [] [.el (dI k)]]) (Tab.of ([])) (dI (l.countP (stateIs k))) (Tab.of ([])) := by
  refine pco_of_run [] (E := ⟨[c203], [], []⟩) (m := false) (base := 0) (Env.ok_cons c203_ok Env.ok_nil) G_ok mix 300 6 Try.func202 (by kernel_rfl) rfl (by kernel_rfl) (by kernel_rfl) rfl ?_
  simp [Try.f202]
  refine loop_inv (fun p : Nat => p ≤ l.length) (fun p => [(1, .fn (.func 203) [] [.el (dI k)]), (5, dI ((l.take p).countP (stateIs k))), (8, encLTClaim l), (9, dI l.length), (10, dI p)]) (fun _ => []) 1 (fun p => l.length - p) 0 400 (by simp) (by simp) (by simp) ?_
  intro p hp
  simp
  refine ⟨fun hlt => ?_, fun hge => ?_⟩
  · have hs := countP_at (want := stateIs k) (d := default) hlt
    have hb := countP_take (want := stateIs k) (l := l) (p := p)
    repeat' (first | omega | refine And.intro ?_ ?_ | intro _)
    all_goals (rename_i hw; refine Again.mk (p + 1) (by omega) (by simp [hs, hw]) (by first | omega | (simp; omega)))
  · rw [List.take_of_length_le hge]
theorem c202_ok : c202.ok Try.prog := mkCon_ok fun ⟨l, k⟩ hpre => c202_pc l k hpre
/-- loop.example/g03007/impl.countState -/
noncomputable def c165 : Con := mkCon 165 false (α := (List TClaim) × Int) (fun x => (fun (l : List TClaim) (k : Int) => [encLTClaim l, dI k]) x.1 x.2) (fun _ => []) (fun x => (fun (l : List TClaim) (k : Int) => l.length ≤ 1099511627776) x.1 x.2) (fun x => (fun (l : List TClaim) (k : Int) => (dI (l.countP (stateIs k)) : D)) x.1 x.2) (fun x => (fun (l : List TClaim) (k : Int) => []) x.1 x.2)
@[simp] theorem c165_f : c165.f = 165 := rfl
@[simp] theorem c165_own : c165.own = false := rfl
theorem c165_inj : ∀ u_ v_ : (List TClaim) × Int, ((fun x => (fun (l : List TClaim) (k : Int) => [encLTClaim l, dI k]) x.1 x.2) u_).map nz = ((fun x => (fun (l : List TClaim) (k : Int) => [encLTClaim l, dI k]) x.1 x.2) v_).map nz → u_ = v_ := by
  intro u_ v_ h
  obtain ⟨l, k⟩ := u_
  obtain ⟨l', k'⟩ := v_
  simp [nz_lit, nz1_lit, nz_agg, nz_sl, nz1_sl, encLTClaim] at h
  first | (simp [h]; done) | (obtain ⟨⟩ := h; simp_all; done) | simp_all
@[simp] theorem c165_fn (l : List TClaim) (k : Int) : c165.fn [.sl false 5 yTClaim (ML encTClaim l), .lit (.int .i64 k)] [] = some ((fun (l : List TClaim) (k : Int) => l.length ≤ 1099511627776) l k, (fun (l : List TClaim) (k : Int) => (dI (l.countP (stateIs k)) : D)) l k, (fun (l : List TClaim) (k : Int) => []) l k) :=
  mkCon_fn (fun x y h _ => c165_inj x y h) ((l, k) : (List TClaim) × Int) (by simp [nz, nz1, ML_nil, encLTClaim]) rfl
@[simp] theorem c165_fn1 (s_l : Nat) (z_l : D) (k : Int) : c165.fn [.sl false s_l z_l [], .lit (.int .i64 k)] [] = some ((fun (l : List TClaim) (k : Int) => l.length ≤ 1099511627776) [] k, (fun (l : List TClaim) (k : Int) => (dI (l.countP (stateIs k)) : D)) [] k, (fun (l : List TClaim) (k : Int) => []) [] k) :=
  mkCon_fn (fun x y h _ => c165_inj x y h) (([], k) : (List TClaim) × Int) (by simp [nz, nz1, ML_nil, encLTClaim]) rfl
theorem c165_pc (l : List TClaim) (k : Int) (hpre : l.length ≤ 1099511627776) : PCo Try.prog 165 [encLTClaim l, dI k] (Tab.of []) (dI (l.countP (stateIs k))) (Tab.of []) := by
  refine pco_of_run [] (E := ⟨[c202, c203], [], []⟩) (m := false) (base := 0) (Env.ok_cons c202_ok (Env.ok_cons c203_ok Env.ok_nil)) G_ok mix 300 6 Try.func165 (by kernel_rfl) rfl (by kernel_rfl) (by kernel_rfl) rfl ?_
  simp [Try.f165]
  exact hpre
theorem c165_ok : c165.ok Try.prog := mkCon_ok fun ⟨l, k⟩ hpre => c165_pc l k hpre
def twice (g : Gc) : Bool := g.any fun p => decide (1 < p.2.countP (stateIs 3))
def okTwice (g : Gc) (l : List Nat) : Prop := l.Nodup ∧ (∀ i ∈ l, i < g.length) ∧ ∀ i ∈ l, ¬ 1 < (rowAt g i).countP (stateIs 3)
/-- (*loop.example/g03007/impl.claimBook).isServedTwice -/
noncomputable def c103 : Con := mkCon 103 false (α := Gc) (fun x => (fun (g : Gc) => ([.el (.agg [.fm 0 (keysG g) (.sl false 5 yTClaim []) (rowsD 5 yTClaim (rowsG encTClaim g))])] : List D)) x) (fun x => (fun (g : Gc) => ([] : List (Nm × OO))) x) (fun x => (fun (g : Gc) => ∀ p ∈ g, p.2.length ≤ 1099511627776) x) (fun x => (fun (g : Gc) => (dB (twice g) : D)) x) (fun x => (fun (g : Gc) => ([] : List (Nm × OO))) x)
@[simp] theorem c103_f : c103.f = 103 := rfl
@[simp] theorem c103_own : c103.own = false := rfl
theorem c103_inj : ∀ u_ v_ : Gc, ((fun x => (fun (g : Gc) => ([.el (.agg [.fm 0 (keysG g) (.sl false 5 yTClaim []) (rowsD 5 yTClaim (rowsG encTClaim g))])] : List D)) x) u_).map nz = ((fun x => (fun (g : Gc) => ([.el (.agg [.fm 0 (keysG g) (.sl false 5 yTClaim []) (rowsD 5 yTClaim (rowsG encTClaim g))])] : List D)) x) v_).map nz → (fun x => (fun (g : Gc) => ([] : List (Nm × OO))) x) u_ = (fun x => (fun (g : Gc) => ([] : List (Nm × OO))) x) v_ → u_ = v_ := by
  intro u_ v_ h h2_
  obtain g := u_
  obtain g' := v_
  simp [nz_lit, nz1_lit, nz_agg, nz_sl, nz1_sl, nz_sx, nz_el, nz1_el, nz_own, nz1_own, nz_ptr, nz_fn, nz_iface] at h h2_
  first | (simp [h, h2_]; done) | (obtain ⟨h3_, h4_⟩ := List.append_inj h2_ h.1; simp_all; done) | simp_all | grind
@[simp] theorem c103_fn (g : Gc) : c103.fn ([.el (.agg [.fm 0 (keysG g) (.sl false 5 yTClaim []) (rowsD 5 yTClaim (rowsG encTClaim g))])]) ([]) = some (∀ p ∈ g, p.2.length ≤ 1099511627776, dB (twice g), []) :=
  mkCon_fn c103_inj (g : Gc) rfl rfl
theorem c103_pc (g : Gc) (hpre : ∀ p ∈ g, p.2.length ≤ 1099511627776) : PCo Try.prog 103 ([.el (.agg [.fm 0 (keysG g) (.sl false 5 yTClaim []) (rowsD 5 yTClaim (rowsG encTClaim g))])]) (Tab.of ([])) (dB (twice g)) (Tab.of ([])) := by
  refine pco_of_run [] (E := ⟨[c165], [], []⟩) (m := false) (base := 0) (Env.ok_cons c165_ok Env.ok_nil) G_ok mix 300 6 Try.func103 (by kernel_rfl) rfl (by kernel_rfl) (by kernel_rfl) rfl ?_
  simp [Try.f103]
  refine loop_inv (fun l : List Nat => okTwice g l) (fun _ => [(9, .it (0, 1))]) (fun l => [((0, 1), .mit 0 (keysG g) (.sl false 5 yTClaim []) (rowsD 5 yTClaim (rowsG encTClaim g)) l)]) 2 (fun l => g.length - l.length) [] 400 (by simp) (by simp [okTwice]) (by simp) ?_
  intro l ⟨hn, hl, hc⟩
  simp
  refine ⟨fun i hi hs => ⟨?_, fun h => ?_, fun h => ?_⟩, fun hall => ?_⟩
  · obtain ⟨p, hp, e⟩ := rowAt_mem hi
    rw [e]; exact hpre p hp
  · obtain ⟨p, hp, e⟩ := rowAt_mem hi
    rw [e] at h
    simp only [twice, List.any_eq_true]
    exact ⟨p, hp, by simp; omega⟩
  · refine Again.mk (l ++ [i]) ⟨?_, fun j hj => ?_, fun j hj => ?_⟩ (by simp) ?_
    · rw [List.nodup_append]
      exact ⟨hn, by simp, fun a ha b hb => by simp at hb; subst hb; rintro rfl; exact hs ha⟩
    · rcases List.mem_append.1 hj with hj | hj
      · exact hl j hj
      · simp at hj; subst hj; exact hi
    · rcases List.mem_append.1 hj with hj | hj
      · exact hc j hj
      · simp at hj; subst hj; omega
    · have := seen_lt hn hl hi hs
      simp; omega
  · simp only [twice, List.any_eq_false]
    intro p hp
    obtain ⟨i, hi, e⟩ := List.getElem_of_mem hp
    have := hc i (hall i hi)
    have e2 : rowAt g i = p.2 := by simp [rowAt, hi, e]
    rw [e2] at this
    simpa using this
theorem c103_ok : c103.ok Try.prog := mkCon_ok fun g hpre => c103_pc g hpre
@[simp] def nClaim (x : TClaim) : Int := x.Id
def mIsClaim (x : TClaim) : Bool := mIn x.Id 1 999 && mIn x.Who 1 999 && mIn x.Thing 1 999 && mIn x.At 0 100000 && mIn x.State 0 3
/-- loop.example/g03007/impl.isClaim -/
noncomputable def c102 : Con := mkCon 102 false (α := TClaim) (fun x => (fun (x : TClaim) => [encTClaim x]) x) (fun _ => []) (fun x => (fun (x : TClaim) => True) x) (fun x => (fun (x : TClaim) => (dB (mIsClaim x) : D)) x) (fun x => (fun (x : TClaim) => []) x)
@[simp] theorem c102_f : c102.f = 102 := rfl
@[simp] theorem c102_own : c102.own = false := rfl
theorem c102_inj : ∀ u_ v_ : TClaim, ((fun x => (fun (x : TClaim) => [encTClaim x]) x) u_).map nz = ((fun x => (fun (x : TClaim) => [encTClaim x]) x) v_).map nz → u_ = v_ := by
  intro u_ v_ h
  obtain ⟨x_Id, x_Who, x_Thing, x_At, x_State⟩ := u_
  obtain ⟨x_Id', x_Who', x_Thing', x_At', x_State'⟩ := v_
  simp [nz_lit, nz1_lit, nz_agg, nz_sl, nz1_sl, encTClaim] at h
  first | (simp [h]; done) | (obtain ⟨⟩ := h; simp_all; done) | simp_all
@[simp] theorem c102_fn (x_Id : Int) (x_Who : Int) (x_Thing : Int) (x_At : Int) (x_State : Int) : c102.fn [.agg [.lit (.int .i64 x_Id), .lit (.int .i64 x_Who), .lit (.int .i64 x_Thing), .lit (.int .i64 x_At), .lit (.int .i64 x_State)]] [] = some ((fun (x : TClaim) => True) ⟨x_Id, x_Who, x_Thing, x_At, x_State⟩, (fun (x : TClaim) => (dB (mIsClaim x) : D)) ⟨x_Id, x_Who, x_Thing, x_At, x_State⟩, (fun (x : TClaim) => []) ⟨x_Id, x_Who, x_Thing, x_At, x_State⟩) :=
  mkCon_fn (fun x y h _ => c102_inj x y h) (⟨x_Id, x_Who, x_Thing, x_At, x_State⟩ : TClaim) (by simp [nz, nz1, ML_nil, encTClaim]) rfl
theorem c102_pc (x : TClaim) : PCo Try.prog 102 [encTClaim x] (Tab.of []) (dB (mIsClaim x)) (Tab.of []) := by
  obtain ⟨x_Id, x_Who, x_Thing, x_At, x_State⟩ := x
  refine pco_of_run [] (E := ⟨[c84], [], []⟩) (m := false) (base := 0) (Env.ok_cons c84_ok Env.ok_nil) G_ok mix 300 6 Try.func102 (by kernel_rfl) rfl (by kernel_rfl) (by kernel_rfl) rfl ?_
  simp [Try.f102]
  simp [mIsClaim]; first | done | first | rfl | omega | (rw [Bool.eq_iff_iff]; simp; done) | (rw [Bool.eq_iff_iff]; simp; omega) | (rw [Bool.eq_iff_iff]; simp; grind) | grind
theorem c102_ok : c102.ok Try.prog := mkCon_ok fun x hpre => c102_pc x
/-- loop.example/g03007/impl.claimsInOrder -/
noncomputable def c99 : Con := mkCon 99 false (α := (List TClaim)) (fun x => (fun (l : List TClaim) => [encLTClaim l]) x) (fun _ => []) (fun x => (fun (l : List TClaim) => True) x) (fun x => (fun (l : List TClaim) => (.agg [.sl false 5 yTClaim (ML encTClaim l), .fn (.func 162) [] []] : D)) x) (fun x => (fun (l : List TClaim) => []) x)
@[simp] theorem c99_f : c99.f = 99 := rfl
@[simp] theorem c99_own : c99.own = false := rfl
theorem c99_inj : ∀ u_ v_ : (List TClaim), ((fun x => (fun (l : List TClaim) => [encLTClaim l]) x) u_).map nz = ((fun x => (fun (l : List TClaim) => [encLTClaim l]) x) v_).map nz → u_ = v_ := by
  intro u_ v_ h
  obtain l := u_
  obtain l' := v_
  simp [nz_lit, nz1_lit, nz_agg, nz_sl, nz1_sl, encLTClaim] at h
  first | (simp [h]; done) | (obtain ⟨⟩ := h; simp_all; done) | simp_all
@[simp] theorem c99_fn (l : List TClaim) : c99.fn [.sl false 5 yTClaim (ML encTClaim l)] [] = some ((fun (l : List TClaim) => True) l, (fun (l : List TClaim) => (.agg [.sl false 5 yTClaim (ML encTClaim l), .fn (.func 162) [] []] : D)) l, (fun (l : List TClaim) => []) l) :=
  mkCon_fn (fun x y h _ => c99_inj x y h) (l : (List TClaim)) (by simp [nz, nz1, ML_nil, encLTClaim]) rfl
@[simp] theorem c99_fn1 (s_l : Nat) (z_l : D) : c99.fn [.sl false s_l z_l []] [] = some ((fun (l : List TClaim) => True) [], (fun (l : List TClaim) => (.agg [.sl false 5 yTClaim (ML encTClaim l), .fn (.func 162) [] []] : D)) [], (fun (l : List TClaim) => []) []) :=
  mkCon_fn (fun x y h _ => c99_inj x y h) ([] : (List TClaim)) (by simp [nz, nz1, ML_nil, encLTClaim]) rfl
theorem c99_pc (l : List TClaim) : PCo Try.prog 99 [encLTClaim l] (Tab.of []) (.agg [.sl false 5 yTClaim (ML encTClaim l), .fn (.func 162) [] []]) (Tab.of []) := by
  refine pco_of_run [] (E := ⟨[], [], []⟩) (m := false) (base := 0) Env.ok_nil G_ok mix 300 6 Try.func99 (by kernel_rfl) rfl (by kernel_rfl) (by kernel_rfl) rfl ?_
  simp [Try.f99]
  all_goals first | omega | (rw [Bool.eq_iff_iff]; simp; omega) | grind
theorem c99_ok : c99.ok Try.prog := mkCon_ok fun l hpre => c99_pc l
/-- loop.example/g03007/impl.claimsInOrder$1 -/
noncomputable def c162 : Con := mkCon 162 false (α := TClaim) (fun x => (fun (x : TClaim) => [encTClaim x]) x) (fun _ => []) (fun x => (fun (x : TClaim) => True) x) (fun x => (fun (x : TClaim) => (dI (nClaim x) : D)) x) (fun x => (fun (x : TClaim) => []) x)
@[simp] theorem c162_f : c162.f = 162 := rfl
@[simp] theorem c162_own : c162.own = false := rfl
theorem c162_inj : ∀ u_ v_ : TClaim, ((fun x => (fun (x : TClaim) => [encTClaim x]) x) u_).map nz = ((fun x => (fun (x : TClaim) => [encTClaim x]) x) v_).map nz → u_ = v_ := by
  intro u_ v_ h
  obtain ⟨x_Id, x_Who, x_Thing, x_At, x_State⟩ := u_
  obtain ⟨x_Id', x_Who', x_Thing', x_At', x_State'⟩ := v_
  simp [nz_lit, nz1_lit, nz_agg, nz_sl, nz1_sl, encTClaim] at h
  first | (simp [h]; done) | (obtain ⟨⟩ := h; simp_all; done) | simp_all
@[simp] theorem c162_fn (x_Id : Int) (x_Who : Int) (x_Thing : Int) (x_At : Int) (x_State : Int) : c162.fn [.agg [.lit (.int .i64 x_Id), .lit (.int .i64 x_Who), .lit (.int .i64 x_Thing), .lit (.int .i64 x_At), .lit (.int .i64 x_State)]] [] = some ((fun (x : TClaim) => True) ⟨x_Id, x_Who, x_Thing, x_At, x_State⟩, (fun (x : TClaim) => (dI (nClaim x) : D)) ⟨x_Id, x_Who, x_Thing, x_At, x_State⟩, (fun (x : TClaim) => []) ⟨x_Id, x_Who, x_Thing, x_At, x_State⟩) :=
  mkCon_fn (fun x y h _ => c162_inj x y h) (⟨x_Id, x_Who, x_Thing, x_At, x_State⟩ : TClaim) (by simp [nz, nz1, ML_nil, encTClaim]) rfl
theorem c162_pc (x : TClaim) : PCo Try.prog 162 [encTClaim x] (Tab.of []) (dI (nClaim x)) (Tab.of []) := by
  obtain ⟨x_Id, x_Who, x_Thing, x_At, x_State⟩ := x
  refine pco_of_run [] (E := ⟨[], [], []⟩) (m := false) (base := 0) Env.ok_nil G_ok mix 300 6 Try.func162 (by kernel_rfl) rfl (by kernel_rfl) (by kernel_rfl) rfl ?_
  simp [Try.f162]
  all_goals first | omega | (rw [Bool.eq_iff_iff]; simp; omega) | grind
theorem c162_ok : c162.ok Try.prog := mkCon_ok fun x hpre => c162_pc x
/-- (loop.example/g03007/impl.sortedList[loop.example/g03007/impl.Claim]).isValid -/
noncomputable def c101 : Con := mkCon 101 false (α := (List TClaim) × Int) (fun x => (fun (l : List TClaim) (lim : Int) => ([.agg [.sl false 5 yTClaim (ML encTClaim l), .fn (.func 162) [] []], dI lim, .fn (.func 102) [] []] : List D)) x.1 x.2) (fun x => (fun (l : List TClaim) (lim : Int) => ([] : List (Nm × OO))) x.1 x.2) (fun x => (fun (l : List TClaim) (lim : Int) => l.length ≤ 1099511627776) x.1 x.2) (fun x => (fun (l : List TClaim) (lim : Int) => (dB (decide (l.length ≤ lim) && ascBy mIsClaim nClaim none l) : D)) x.1 x.2) (fun x => (fun (l : List TClaim) (lim : Int) => ([] : List (Nm × OO))) x.1 x.2)
@[simp] theorem c101_f : c101.f = 101 := rfl
@[simp] theorem c101_own : c101.own = false := rfl
theorem c101_inj : ∀ u_ v_ : (List TClaim) × Int, ((fun x => (fun (l : List TClaim) (lim : Int) => ([.agg [.sl false 5 yTClaim (ML encTClaim l), .fn (.func 162) [] []], dI lim, .fn (.func 102) [] []] : List D)) x.1 x.2) u_).map nz = ((fun x => (fun (l : List TClaim) (lim : Int) => ([.agg [.sl false 5 yTClaim (ML encTClaim l), .fn (.func 162) [] []], dI lim, .fn (.func 102) [] []] : List D)) x.1 x.2) v_).map nz → (fun x => (fun (l : List TClaim) (lim : Int) => ([] : List (Nm × OO))) x.1 x.2) u_ = (fun x => (fun (l : List TClaim) (lim : Int) => ([] : List (Nm × OO))) x.1 x.2) v_ → u_ = v_ := by
  intro u_ v_ h h2_
  obtain ⟨l, lim⟩ := u_
  obtain ⟨l', lim'⟩ := v_
  simp [nz_lit, nz1_lit, nz_agg, nz_sl, nz1_sl, nz_sx, nz_el, nz1_el, nz_own, nz1_own, nz_ptr, nz_fn, nz_iface] at h h2_
  first | (simp [h, h2_]; done) | (obtain ⟨h3_, h4_⟩ := List.append_inj h2_ h.1; simp_all; done) | simp_all | grind
@[simp] theorem c101_fn (l : List TClaim) (lim : Int) : c101.fn ([.agg [.sl false 5 yTClaim (ML encTClaim l), .fn (.func 162) [] []], dI lim, .fn (.func 102) [] []]) ([]) = some (l.length ≤ 1099511627776, dB (decide (l.length ≤ lim) && ascBy mIsClaim nClaim none l), []) :=
  mkCon_fn c101_inj ((l, lim) : (List TClaim) × Int) rfl rfl
theorem c101_pc (l : List TClaim) (lim : Int) (hpre : l.length ≤ 1099511627776) : PCo Try.prog 101 ([.agg [.sl false 5 yTClaim (ML encTClaim l), .fn (.func 162) [] []], dI lim, .fn (.func 102) [] []]) (Tab.of ([])) (dB (decide (l.length ≤ lim) && ascBy mIsClaim nClaim none l)) (Tab.of ([])) := by
  refine pco_of_run [6] (E := ⟨[c162, c102], [], []⟩) (m := false) (base := 0) (Env.ok_cons c162_ok (Env.ok_cons c102_ok Env.ok_nil)) G_ok mix 300 6 Try.func101 (by kernel_rfl) rfl (by kernel_rfl) (by kernel_rfl) rfl ?_
  simp [Try.f101]
  refine ⟨fun h h2 => by omega, fun hlim => ?_⟩
  refine loop_inv (fun p : Nat => p ≤ l.length ∧ ascBy mIsClaim nClaim none l = ascBy mIsClaim nClaim (prevO nClaim l p) (l.drop p)) (fun p => [(2, .fn (.func 102) [] []), (3, .ptr (0, 1) 0), (6, dB false), (15, .sl false 5 yTClaim (ML encTClaim l)), (16, dI l.length), (17, dI p)]) (fun _ => [((0, 1), .box (.agg [.sl false 5 yTClaim (ML encTClaim l), .fn (.func 162) [] []]))]) 2 (fun p => l.length - p) 0 400 (by simp) (by simp) (by simp) ?_
  intro p ⟨hp, hi⟩
  simp
  refine ⟨fun hlt => ?_, fun hge => ?_⟩
  · rw [ascBy_at hlt] at hi; simp only [nClaim, wantN] at hi
    repeat' (first | omega | refine And.intro ?_ ?_ | intro _)
    all_goals first | exact Again.mk (p + 1) ⟨by omega, by rw [hi]; grind⟩ (by simp) (by first | omega | (simp; omega)) | (rw [hi]; grind)
  · rw [hi, ascBy_end hge]; simp; omega
theorem c101_ok : c101.ok Try.prog := mkCon_ok fun ⟨l, lim⟩ hpre => c101_pc l lim hpre
def sameServed (x y : TClaim) : Bool := stateIs 3 x && (stateIs 3 y && decide (y.Thing = x.Thing))
def dupC : List TClaim → List TClaim → Bool
  | _, [] => false
  | b, x :: r => b.any (sameServed x) || dupC (b ++ [x]) r
theorem count_any {l : List TClaim} {f w : TClaim → Bool} : 0 < (l.filter f).countP w ↔ ∃ y ∈ l, f y = true ∧ w y = true := by
  rw [List.countP_pos_iff]
  constructor
  · rintro ⟨y, hy, h⟩; exact ⟨y, (List.mem_filter.1 hy).1, (List.mem_filter.1 hy).2, h⟩
  · rintro ⟨y, hy, h1, h2⟩; exact ⟨y, List.mem_filter.2 ⟨hy, h1⟩, h2⟩
theorem twice_snoc (b : List TClaim) (x : TClaim) : twice (bkC (b ++ [x])) = (twice (bkC b) || b.any (sameServed x)) := by
  have e : (stateIs 3 x && decide (0 < (getG (bkC b) (kTh x)).countP (stateIs 3))) = b.any (sameServed x) := by
    rw [bkC, getG_grp, Bool.eq_iff_iff, Bool.and_eq_true, decide_eq_true_eq, count_any, List.any_eq_true]
    simp only [sameServed, Bool.and_eq_true, decide_eq_true_eq, kTh]
    constructor
    · rintro ⟨h, y, h1, h2, h3⟩; exact ⟨y, h1, h, h3, of_decide_eq_true h2⟩
    · rintro ⟨y, h1, h, h3, h2⟩; exact ⟨h, y, h1, decide_eq_true h2, h3⟩
  rw [← e]
  simp only [twice, bkC, grpL_snoc]
  rw [any_addG]
theorem twice_dup : ∀ (r b : List TClaim), (twice (bkC b) || dupC b r) = twice (bkC (b ++ r))
  | [], b => by simp [dupC]
  | x :: r, b => by
    have := twice_dup r (b ++ [x])
    rw [dupC, ← Bool.or_assoc, ← twice_snoc, this]; simp
theorem twice_eq (l : List TClaim) : twice (bkC l) = dupC [] l := by
  have := twice_dup l []
  simpa [twice, bkC] using this.symm
def mAreClaims (l : List TClaim) : Bool := decide (l.length ≤ 20) && ascBy mIsClaim nClaim none l && !dupC [] l
theorem bk_len {l : List TClaim} {n : Nat} (h : l.length ≤ n) : ∀ p ∈ bkC l, p.2.length ≤ n := by
  intro p hp
  have := grp_len kTh l p hp
  omega
/-- loop.example/g03007/impl.AreClaims -/
noncomputable def c33 : Con := mkCon 33 false (α := (List TClaim)) (fun x => (fun (l : List TClaim) => [encLTClaim l]) x) (fun _ => []) (fun x => (fun (l : List TClaim) => l.length ≤ 1073741823) x) (fun x => (fun (l : List TClaim) => (dB (mAreClaims l) : D)) x) (fun x => (fun (l : List TClaim) => []) x)
@[simp] theorem c33_f : c33.f = 33 := rfl
@[simp] theorem c33_own : c33.own = false := rfl
theorem c33_inj : ∀ u_ v_ : (List TClaim), ((fun x => (fun (l : List TClaim) => [encLTClaim l]) x) u_).map nz = ((fun x => (fun (l : List TClaim) => [encLTClaim l]) x) v_).map nz → u_ = v_ := by
  intro u_ v_ h
  obtain l := u_
  obtain l' := v_
  simp [nz_lit, nz1_lit, nz_agg, nz_sl, nz1_sl, encLTClaim] at h
  first | (simp [h]; done) | (obtain ⟨⟩ := h; simp_all; done) | simp_all
@[simp] theorem c33_fn (l : List TClaim) : c33.fn [.sl false 5 yTClaim (ML encTClaim l)] [] = some ((fun (l : List TClaim) => l.length ≤ 1073741823) l, (fun (l : List TClaim) => (dB (mAreClaims l) : D)) l, (fun (l : List TClaim) => []) l) :=
  mkCon_fn (fun x y h _ => c33_inj x y h) (l : (List TClaim)) (by simp [nz, nz1, ML_nil, encLTClaim]) rfl
@[simp] theorem c33_fn1 (s_l : Nat) (z_l : D) : c33.fn [.sl false s_l z_l []] [] = some ((fun (l : List TClaim) => l.length ≤ 1073741823) [], (fun (l : List TClaim) => (dB (mAreClaims l) : D)) [], (fun (l : List TClaim) => []) []) :=
  mkCon_fn (fun x y h _ => c33_inj x y h) ([] : (List TClaim)) (by simp [nz, nz1, ML_nil, encLTClaim]) rfl
theorem c33_pc (l : List TClaim) (hpre : l.length ≤ 1073741823) : PCo Try.prog 33 [encLTClaim l] (Tab.of []) (dB (mAreClaims l)) (Tab.of []) := by
  refine pco_of_run [] (E := ⟨[c96, c99, c101, c102, c103, c102, c162], [], []⟩) (m := false) (base := 0) (Env.ok_cons c96_ok (Env.ok_cons c99_ok (Env.ok_cons c101_ok (Env.ok_cons c102_ok (Env.ok_cons c103_ok (Env.ok_cons c102_ok (Env.ok_cons c162_ok Env.ok_nil))))))) G_ok mix 300 6 Try.func33 (by kernel_rfl) rfl (by kernel_rfl) (by kernel_rfl) rfl ?_
  simp [Try.f33]
  refine ⟨⟨by omega, fun _ _ => hpre, fun _ _ a b hb => bk_len (n := 1099511627776) (by omega) _ hb⟩, ?_⟩
  rw [twice_eq, mAreClaims]
  congr 2
  rw [Bool.eq_iff_iff]; simp; omega
theorem c33_ok : c33.ok Try.prog := mkCon_ok fun l hpre => c33_pc l hpre
def goC (l : List TClaim) (p : Nat) : Bool := ascBy mIsClaim nClaim (prevO nClaim l p) (l.drop p) && !dupC (l.take p) (l.drop p)
theorem goC_at {l : List TClaim} {p : Nat} (h : p < l.length) : goC l p = (mIsClaim (l[p]?.getD default) && decide (0 < p → nClaim (l[p - 1]?.getD default) < nClaim (l[p]?.getD default)) && !(l.take p).any (sameServed (l[p]?.getD default)) && goC l (p + 1)) := by
  simp only [goC]
  rw [ascBy_at h, drop_at (d := default) h, dupC, take_at (d := default) h]
  cases mIsClaim (l[p]?.getD default) <;> cases (l.take p).any (sameServed (l[p]?.getD default)) <;> simp [Bool.and_assoc]
theorem take_get {α : Type} {l : List α} {p k : Nat} {d : α} (h : k < p) : (l.take p)[k]?.getD d = l[k]?.getD d := by
  rw [List.getElem?_take_of_lt h]
theorem mAre_goC (l : List TClaim) : mAreClaims l = (decide (l.length ≤ 20) && goC l 0) := by
  simp [mAreClaims, goC, Bool.and_assoc]
/-- loop.example/g03007/spec.AreClaims -/
noncomputable def c40 : Con := mkCon 40 false (α := (List TClaim)) (fun x => (fun (l : List TClaim) => [encLTClaim l]) x) (fun _ => []) (fun x => (fun (l : List TClaim) => l.length ≤ 1073741823) x) (fun x => (fun (l : List TClaim) => (dB (mAreClaims l) : D)) x) (fun x => (fun (l : List TClaim) => []) x)
@[simp] theorem c40_f : c40.f = 40 := rfl
@[simp] theorem c40_own : c40.own = false := rfl
theorem c40_inj : ∀ u_ v_ : (List TClaim), ((fun x => (fun (l : List TClaim) => [encLTClaim l]) x) u_).map nz = ((fun x => (fun (l : List TClaim) => [encLTClaim l]) x) v_).map nz → u_ = v_ := by
  intro u_ v_ h
  obtain l := u_
  obtain l' := v_
  simp [nz_lit, nz1_lit, nz_agg, nz_sl, nz1_sl, encLTClaim] at h
  first | (simp [h]; done) | (obtain ⟨⟩ := h; simp_all; done) | simp_all
@[simp] theorem c40_fn (l : List TClaim) : c40.fn [.sl false 5 yTClaim (ML encTClaim l)] [] = some ((fun (l : List TClaim) => l.length ≤ 1073741823) l, (fun (l : List TClaim) => (dB (mAreClaims l) : D)) l, (fun (l : List TClaim) => []) l) :=
  mkCon_fn (fun x y h _ => c40_inj x y h) (l : (List TClaim)) (by simp [nz, nz1, ML_nil, encLTClaim]) rfl
@[simp] theorem c40_fn1 (s_l : Nat) (z_l : D) : c40.fn [.sl false s_l z_l []] [] = some ((fun (l : List TClaim) => l.length ≤ 1073741823) [], (fun (l : List TClaim) => (dB (mAreClaims l) : D)) [], (fun (l : List TClaim) => []) []) :=
  mkCon_fn (fun x y h _ => c40_inj x y h) ([] : (List TClaim)) (by simp [nz, nz1, ML_nil, encLTClaim]) rfl
theorem c40_pc (l : List TClaim) (hpre : l.length ≤ 1073741823) : PCo Try.prog 40 [encLTClaim l] (Tab.of []) (dB (mAreClaims l)) (Tab.of []) := by
  refine pco_of_run [] (E := ⟨[c108], [], []⟩) (m := false) (base := 0) (Env.ok_cons c108_ok Env.ok_nil) G_ok mix 300 6 Try.func40 (by kernel_rfl) rfl (by kernel_rfl) (by kernel_rfl) rfl ?_
  simp [Try.f40]
  refine loop_inv (fun p : Nat => p ≤ l.length ∧ goC l 0 = goC l p) (fun p => [(0, encLTClaim l), (3, dI p)]) (fun _ => []) 1 (fun p => l.length - p) 0 400 (by simp) (by simp) (by simp) ?_
  intro p ⟨hp, hi⟩
  simp
  refine ⟨fun hlt => ?_, fun hge => ?_⟩
  · have hs := goC_at hlt
    rw [hs] at hi
    refine ⟨hlt, ⟨fun _ _ _ _ _ _ => by omega, fun _ _ _ _ _ _ => by omega⟩, fun hbad => ?_, fun h1 h2 h3 h4 h5 h6 => ?_⟩
    · have : goC l 0 = false := by
        rw [hi]
        cases hc : (mIsClaim (l[p]?.getD default) && decide (0 < p → nClaim (l[p - 1]?.getD default) < nClaim (l[p]?.getD default))) with
        | false => simp
        | true =>
          exfalso
          simp only [mIsClaim, Bool.and_eq_true, decide_eq_true_eq, nClaim] at hc
          obtain ⟨⟨⟨⟨⟨h1, h2⟩, h3⟩, h4⟩, h5⟩, h6⟩ := hc
          simp only [h1, h2, h3, h4, h5] at hbad
          simp at hbad
          have := of_decide_eq_true h6 hbad.1
          omega
      rw [mAre_goC, this]; simp
    · have hc : (mIsClaim (l[p]?.getD default) && decide (0 < p → nClaim (l[p - 1]?.getD default) < nClaim (l[p]?.getD default))) = true := by
        simp only [mIsClaim, h1, h2, h3, h4, h5, Bool.true_and]
        exact decide_eq_true h6
      rw [hc] at hi
      refine loop_inv (fun k : Nat => k ≤ p ∧ (l.take p).any (sameServed (l[p]?.getD default)) = ((l.take p).drop k).any (sameServed (l[p]?.getD default))) (fun k => [(0, encLTClaim l), (3, dI p), (4, .ptr (0, 1) 0), (5, dI k)]) (fun _ => [((0, 1), .box (encTClaim (l[p]?.getD default)))]) 2 (fun k => p - k) 0 400 (by simp) (by simp) (by simp) ?_
      intro k ⟨hk, hj⟩
      simp
      refine ⟨fun hkp => ?_, fun hkp => ?_⟩
      · have hkl : k < (l.take p).length := by simp; omega
        rw [any_at (d := default) hkl, take_get hkp] at hj
        have hsv : sameServed (l[p]?.getD default) (l[k]?.getD default) = true ↔ (l[p]?.getD default).State = 3 ∧ (l[k]?.getD default).State = 3 ∧ (l[k]?.getD default).Thing = (l[p]?.getD default).Thing := by simp [sameServed, stateIs]
        refine ⟨⟨fun _ => by omega, fun _ _ => by omega⟩, fun a b c => ?_, fun hno => ⟨by omega, Again.mk (k + 1) ⟨by omega, ?_⟩ (by simp) (by first | omega | (simp; omega))⟩⟩
        · rw [hsv.2 ⟨a, b, c⟩] at hj
          rw [mAre_goC, hi, hj]; simp
        · cases hq : sameServed (l[p]?.getD default) (l[k]?.getD default) with
          | false => rw [hj, hq]; simp
          | true => exact absurd (hsv.1 hq).2.2 (hno (hsv.1 hq).1 (hsv.1 hq).2.1)
      · have hkl : (l.take p).length ≤ k := by simp; omega
        rw [any_end hkl] at hj
        rw [hj] at hi
        repeat' (first | omega | refine And.intro ?_ ?_ | intro _)
        exact Again.mk (p + 1) ⟨by omega, by simpa using hi⟩ (by simp) (by first | omega | (simp; omega))
  · have hpl : p = l.length := by omega
    subst hpl
    have : goC l l.length = true := by simp [goC, ascBy, dupC]
    rw [mAre_goC, hi, this]
    rw [Bool.eq_iff_iff]; simp; omega
theorem c40_ok : c40.ok Try.prog := mkCon_ok fun l hpre => c40_pc l hpre

end Go.Proofs.Ytpnfkjbnhholfaa
