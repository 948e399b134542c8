/- Contracts of the functions that the laws run. -/
import Derived.Test.YtmhbciaolpamaaaRch33a
import Derived.Test.YtmhbciaolpamaaaREngB
namespace Go.Proofs.YtmhbciaolpamaaaR
open Go Go.Eng
set_option linter.unusedSimpArgs false
set_option linter.unusedVariables false
set_option maxRecDepth 10000
set_option maxHeartbeats 1000000
theorem wfH_len {h : THouse} (w : wfTHouse h) : smHM h := by
  obtain ⟨_, w1, w2, w3, w4, w5, w6, w7, _⟩ := w
  exact ⟨w1.1, ⟨w2.1, fun x hx => wfS_len (w2.2 x hx)⟩, w3.1, w4.1, w5.1, w6.1, w7.1⟩
def stateIs (k : Int) (x : TClaim) : Bool := decide (x.State = k)
/-- loop.example/g03007/impl.countState$1 -/
noncomputable def c217 : Con := mkCon 217 false (α := TClaim × Int) (fun x => (fun (x : TClaim) (k : Int) => ([encTClaim x, .el (dI k)] : List D)) x.1 x.2) (fun x => (fun (x : TClaim) (k : Int) => ([] : List (Nm × OO))) x.1 x.2) (fun x => (fun (x : TClaim) (k : Int) => True) x.1 x.2) (fun x => (fun (x : TClaim) (k : Int) => (dB (stateIs k x) : D)) x.1 x.2) (fun x => (fun (x : TClaim) (k : Int) => ([] : List (Nm × OO))) x.1 x.2)
@[simp] theorem c217_f : c217.f = 217 := rfl
@[simp] theorem c217_own : c217.own = false := rfl
theorem c217_inj : ∀ u_ v_ : TClaim × Int, ((fun x => (fun (x : TClaim) (k : Int) => ([encTClaim x, .el (dI k)] : List D)) x.1 x.2) u_).map nz = ((fun x => (fun (x : TClaim) (k : Int) => ([encTClaim x, .el (dI k)] : List D)) x.1 x.2) v_).map nz → (fun x => (fun (x : TClaim) (k : Int) => ([] : List (Nm × OO))) x.1 x.2) u_ = (fun x => (fun (x : TClaim) (k : Int) => ([] : List (Nm × OO))) x.1 x.2) v_ → u_ = v_ := by
  intro u_ v_ h h2_
  obtain ⟨⟨x_Id, x_Who, x_Thing, x_At, x_State⟩, k⟩ := u_
  obtain ⟨⟨x_Id', x_Who', x_Thing', x_At', x_State'⟩, k'⟩ := v_
  simp [nz_lit, nz1_lit, nz_agg, nz_sl, nz1_sl, nz_sx, nz_el, nz1_el, nz_own, nz1_own, nz_ptr, nz_fn, nz_iface] at h h2_
  first | (simp [h, h2_]; done) | (obtain ⟨h3_, h4_⟩ := List.append_inj h2_ h.1; simp_all; done) | simp_all | grind
@[simp] theorem c217_fn (x_Id : Int) (x_Who : Int) (x_Thing : Int) (x_At : Int) (x_State : Int) (k : Int) : c217.fn ([.agg [.lit (.int .i64 x_Id), .lit (.int .i64 x_Who), .lit (.int .i64 x_Thing), .lit (.int .i64 x_At), .lit (.int .i64 x_State)], .el (dI k)]) ([]) = some (True, dB (stateIs k (⟨x_Id, x_Who, x_Thing, x_At, x_State⟩ : TClaim)), []) :=
  mkCon_fn c217_inj ((⟨x_Id, x_Who, x_Thing, x_At, x_State⟩, k) : TClaim × Int) rfl rfl
theorem c217_pc (x : TClaim) (k : Int) : PCo Try.prog 217 ([encTClaim x, .el (dI k)]) (Tab.of ([])) (dB (stateIs k x)) (Tab.of ([])) := by
  refine pco_of_run [] (E := ⟨[], []⟩) (m := false) (base := 0) Env.ok_nil G_ok mix 300 6 Try.func217 (by kernel_rfl) rfl (by kernel_rfl) (by kernel_rfl) rfl ?_
  simp [Try.f217]
  first | done | rfl
theorem c217_ok : c217.ok Try.prog := mkCon_ok fun ⟨x, k⟩ hpre => c217_pc x k
/-- loop.example/g03007/impl.countWhere[loop.example/g03007/impl.Claim] -/
noncomputable def c216 : Con := mkCon 216 false (α := (List TClaim) × Int) (fun x => (fun (l : List TClaim) (k : Int) => ([encLTClaim l, .fn (.func 217) [] [.el (dI k)]] : List D)) x.1 x.2) (fun x => (fun (l : List TClaim) (k : Int) => ([] : List (Nm × OO))) x.1 x.2) (fun x => (fun (l : List TClaim) (k : Int) => l.length ≤ 1099511627776) x.1 x.2) (fun x => (fun (l : List TClaim) (k : Int) => (dI (l.countP (stateIs k)) : D)) x.1 x.2) (fun x => (fun (l : List TClaim) (k : Int) => ([] : List (Nm × OO))) x.1 x.2)
@[simp] theorem c216_f : c216.f = 216 := rfl
@[simp] theorem c216_own : c216.own = false := rfl
theorem c216_inj : ∀ u_ v_ : (List TClaim) × Int, ((fun x => (fun (l : List TClaim) (k : Int) => ([encLTClaim l, .fn (.func 217) [] [.el (dI k)]] : List D)) x.1 x.2) u_).map nz = ((fun x => (fun (l : List TClaim) (k : Int) => ([encLTClaim l, .fn (.func 217) [] [.el (dI k)]] : List D)) x.1 x.2) v_).map nz → (fun x => (fun (l : List TClaim) (k : Int) => ([] : List (Nm × OO))) x.1 x.2) u_ = (fun x => (fun (l : List TClaim) (k : Int) => ([] : List (Nm × OO))) x.1 x.2) v_ → u_ = v_ := by
  intro u_ v_ h h2_
  obtain ⟨l, k⟩ := u_
  obtain ⟨l', k'⟩ := v_
  simp [nz_lit, nz1_lit, nz_agg, nz_sl, nz1_sl, nz_sx, nz_el, nz1_el, nz_own, nz1_own, nz_ptr, nz_fn, nz_iface] at h h2_
  first | (simp [h, h2_]; done) | (obtain ⟨h3_, h4_⟩ := List.append_inj h2_ h.1; simp_all; done) | simp_all | grind
@[simp] theorem c216_fn (l : List TClaim) (k : Int) : c216.fn ([(.sl false 5 yTClaim (ML encTClaim l)), .fn (.func 217) [] [.el (dI k)]]) ([]) = some (l.length ≤ 1099511627776, dI (l.countP (stateIs k)), []) :=
  mkCon_fn c216_inj ((l, k) : (List TClaim) × Int) rfl rfl
theorem c216_pc (l : List TClaim) (k : Int) (hpre : l.length ≤ 1099511627776) : PCo Try.prog 216 ([encLTClaim l, .fn (.func 217) [] [.el (dI k)]]) (Tab.of ([])) (dI (l.countP (stateIs k))) (Tab.of ([])) := by
  refine pco_of_run [] (E := ⟨[c217], []⟩) (m := false) (base := 0) (Env.ok_cons c217_ok Env.ok_nil) G_ok mix 300 6 Try.func216 (by kernel_rfl) rfl (by kernel_rfl) (by kernel_rfl) rfl ?_
  simp [Try.f216]
  refine loop_inv (fun p : Nat => p ≤ l.length) (fun p => [(1, .fn (.func 217) [] [.el (dI k)]), (5, dI ((l.take p).countP (stateIs k))), (8, encLTClaim l), (9, dI l.length), (10, dI p)]) (fun _ => []) 1 (fun p => l.length - p) 0 400 (by simp) (by simp) (by simp) ?_
  intro p hp
  simp
  refine ⟨fun hlt => ?_, fun hge => ?_⟩
  · have hs := countP_at (want := stateIs k) (d := default) hlt
    have hb := countP_take (want := stateIs k) (l := l) (p := p)
    repeat' (first | omega | refine And.intro ?_ ?_ | intro _)
    all_goals (rename_i hw; refine Again.mk (p + 1) (by omega) (by simp [hs, hw]) (by first | omega | (simp; omega)))
  · rw [List.take_of_length_le hge]
theorem c216_ok : c216.ok Try.prog := mkCon_ok fun ⟨l, k⟩ hpre => c216_pc l k hpre
/-- loop.example/g03007/impl.countState -/
noncomputable def c177 : Con := mkCon 177 false (α := (List TClaim) × Int) (fun x => (fun (l : List TClaim) (k : Int) => [encLTClaim l, dI k]) x.1 x.2) (fun _ => []) (fun x => (fun (l : List TClaim) (k : Int) => l.length ≤ 1099511627776) x.1 x.2) (fun x => (fun (l : List TClaim) (k : Int) => (dI (l.countP (stateIs k)) : D)) x.1 x.2) (fun x => (fun (l : List TClaim) (k : Int) => []) x.1 x.2)
@[simp] theorem c177_f : c177.f = 177 := rfl
@[simp] theorem c177_own : c177.own = false := rfl
theorem c177_inj : ∀ u_ v_ : (List TClaim) × Int, ((fun x => (fun (l : List TClaim) (k : Int) => [encLTClaim l, dI k]) x.1 x.2) u_).map nz = ((fun x => (fun (l : List TClaim) (k : Int) => [encLTClaim l, dI k]) x.1 x.2) v_).map nz → u_ = v_ := by
  intro u_ v_ h
  obtain ⟨l, k⟩ := u_
  obtain ⟨l', k'⟩ := v_
  simp [nz_lit, nz1_lit, nz_agg, nz_sl, nz1_sl, encLTClaim] at h
  first | (simp [h]; done) | (obtain ⟨⟩ := h; simp_all; done) | simp_all
@[simp] theorem c177_fn (l : List TClaim) (k : Int) : c177.fn [.sl false 5 yTClaim (ML encTClaim l), .lit (.int .i64 k)] [] = some ((fun (l : List TClaim) (k : Int) => l.length ≤ 1099511627776) l k, (fun (l : List TClaim) (k : Int) => (dI (l.countP (stateIs k)) : D)) l k, (fun (l : List TClaim) (k : Int) => []) l k) :=
  mkCon_fn (fun x y h _ => c177_inj x y h) ((l, k) : (List TClaim) × Int) (by simp [nz, nz1, ML_nil, encLTClaim]) rfl
@[simp] theorem c177_fn1 (s_l : Nat) (z_l : D) (k : Int) : c177.fn [.sl false s_l z_l [], .lit (.int .i64 k)] [] = some ((fun (l : List TClaim) (k : Int) => l.length ≤ 1099511627776) [] k, (fun (l : List TClaim) (k : Int) => (dI (l.countP (stateIs k)) : D)) [] k, (fun (l : List TClaim) (k : Int) => []) [] k) :=
  mkCon_fn (fun x y h _ => c177_inj x y h) (([], k) : (List TClaim) × Int) (by simp [nz, nz1, ML_nil, encLTClaim]) rfl
theorem c177_pc (l : List TClaim) (k : Int) (hpre : l.length ≤ 1099511627776) : PCo Try.prog 177 [encLTClaim l, dI k] (Tab.of []) (dI (l.countP (stateIs k))) (Tab.of []) := by
  refine pco_of_run [] (E := ⟨[c216, c217], []⟩) (m := false) (base := 0) (Env.ok_cons c216_ok (Env.ok_cons c217_ok Env.ok_nil)) G_ok mix 300 6 Try.func177 (by kernel_rfl) rfl (by kernel_rfl) (by kernel_rfl) rfl ?_
  simp [Try.f177]
  exact hpre
theorem c177_ok : c177.ok Try.prog := mkCon_ok fun ⟨l, k⟩ hpre => c177_pc l k hpre
def mServed (h : THouse) : Int := if h.Finds.length = 0 then 0 else (100 * (h.Claims.countP (stateIs 3) : Int)).tdiv h.Finds.length
theorem served_bd {n f : Nat} (hf : ¬ f = 0) : 0 ≤ (100 * (n : Int)).tdiv f ∧ (100 * (n : Int)).tdiv f ≤ 100 * n := by
  have hn : 0 ≤ 100 * (n : Int) := by omega
  rw [Int.tdiv_eq_ediv_of_nonneg hn]
  exact ⟨Int.ediv_nonneg hn (Int.natCast_nonneg f), Int.ediv_le_self _ hn⟩
theorem served_fin {h : THouse} (h1 : h.Claims.length ≤ 1073741823) : (h.Finds = [] → 0 = mServed h) ∧
    (¬h.Finds = [] → ((-9223372036854775808 ≤ 100 * (h.Claims.countP (stateIs 3) : Int) ∧ 100 * (h.Claims.countP (stateIs 3) : Int) ≤ 9223372036854775807) ∧ ¬h.Finds = [] ∧ -9223372036854775808 ≤ (100 * (h.Claims.countP (stateIs 3) : Int)).tdiv h.Finds.length ∧ (100 * (h.Claims.countP (stateIs 3) : Int)).tdiv h.Finds.length ≤ 9223372036854775807) ∧ (100 * (h.Claims.countP (stateIs 3) : Int)).tdiv h.Finds.length = mServed h) := by
  have hc := List.countP_le_length (p := stateIs 3) (l := h.Claims)
  refine ⟨fun e => by simp [mServed, e], fun e => ?_⟩
  have e2 : ¬ h.Finds.length = 0 := fun e3 => e (List.eq_nil_of_length_eq_zero e3)
  have hb := served_bd (n := h.Claims.countP (stateIs 3)) e2
  have hm : (100 * (h.Claims.countP (stateIs 3) : Int)).tdiv h.Finds.length = mServed h := by rw [mServed, if_neg e2]
  exact ⟨⟨by omega, e, by omega, by omega⟩, hm⟩
/-- loop.example/g03007/impl.ServedShare -/
noncomputable def c100 : Con := mkCon 100 false (α := THouse) (fun x => (fun (h : THouse) => [encTHouse h]) x) (fun _ => []) (fun x => (fun (h : THouse) => h.Finds.length ≤ 1073741823 ∧ h.Claims.length ≤ 1073741823) x) (fun x => (fun (h : THouse) => (dI (mServed h) : D)) x) (fun x => (fun (h : THouse) => []) x)
@[simp] theorem c100_f : c100.f = 100 := rfl
@[simp] theorem c100_own : c100.own = false := rfl
theorem c100_inj : ∀ u_ v_ : THouse, ((fun x => (fun (h : THouse) => [encTHouse h]) x) u_).map nz = ((fun x => (fun (h : THouse) => [encTHouse h]) x) v_).map nz → u_ = v_ := by
  intro u_ v_ h
  obtain ⟨h_No, h_Finds, h_Secrets, h_Slots, h_Claims, h_Trials, h_Chain, h_Book, h_Now⟩ := u_
  obtain ⟨h_No', h_Finds', h_Secrets', h_Slots', h_Claims', h_Trials', h_Chain', h_Book', h_Now'⟩ := v_
  simp [nz_lit, nz1_lit, nz_agg, nz_sl, nz1_sl, encLTClaim, encLTEntry, encLTFind, encLTHand, encLTSecret, encLTSlot, encLTTrial, encTHouse] at h
  first | (simp [h]; done) | (obtain ⟨⟩ := h; simp_all; done) | simp_all
@[simp] theorem c100_fn (h_No : Int) (h_Finds : List TFind) (h_Secrets : List TSecret) (h_Slots : List TSlot) (h_Claims : List TClaim) (h_Trials : List TTrial) (h_Chain : List THand) (h_Book : List TEntry) (h_Now : Int) : c100.fn [.agg [.lit (.int .i64 h_No), .sl false 8 yTFind (ML encTFind h_Finds), .sl false 3 yTSecret (ML encTSecret h_Secrets), .sl false 3 yTSlot (ML encTSlot h_Slots), .sl false 5 yTClaim (ML encTClaim h_Claims), .sl false 4 yTTrial (ML encTTrial h_Trials), .sl false 5 yTHand (ML encTHand h_Chain), .sl false 4 yTEntry (ML encTEntry h_Book), .lit (.int .i64 h_Now)]] [] = some ((fun (h : THouse) => h.Finds.length ≤ 1073741823 ∧ h.Claims.length ≤ 1073741823) ⟨h_No, h_Finds, h_Secrets, h_Slots, h_Claims, h_Trials, h_Chain, h_Book, h_Now⟩, (fun (h : THouse) => (dI (mServed h) : D)) ⟨h_No, h_Finds, h_Secrets, h_Slots, h_Claims, h_Trials, h_Chain, h_Book, h_Now⟩, (fun (h : THouse) => []) ⟨h_No, h_Finds, h_Secrets, h_Slots, h_Claims, h_Trials, h_Chain, h_Book, h_Now⟩) :=
  mkCon_fn (fun x y h _ => c100_inj x y h) (⟨h_No, h_Finds, h_Secrets, h_Slots, h_Claims, h_Trials, h_Chain, h_Book, h_Now⟩ : THouse) (by simp [nz, nz1, ML_nil, encLTClaim, encLTEntry, encLTFind, encLTHand, encLTSecret, encLTSlot, encLTTrial, encTHouse]) rfl
theorem c100_pc (h : THouse) (hpre : h.Finds.length ≤ 1073741823 ∧ h.Claims.length ≤ 1073741823) : PCo Try.prog 100 [encTHouse h] (Tab.of []) (dI (mServed h)) (Tab.of []) := by
  refine pco_of_run [3] (E := ⟨[c177], []⟩) (m := false) (base := 0) (Env.ok_cons c177_ok Env.ok_nil) G_ok mix 300 6 Try.func100 (by kernel_rfl) rfl (by kernel_rfl) (by kernel_rfl) rfl ?_
  simp [Try.f100]
  have hf := served_fin hpre.2
  exact ⟨hf.1, fun e => ⟨⟨by omega, (hf.2 e).1⟩, (hf.2 e).2⟩⟩
theorem c100_ok : c100.ok Try.prog := mkCon_ok fun h hpre => c100_pc h hpre
/-- loop.example/g03007/spec.ServedShare -/
noncomputable def c98 : Con := mkCon 98 false (α := THouse) (fun x => (fun (h : THouse) => [encTHouse h]) x) (fun _ => []) (fun x => (fun (h : THouse) => h.Finds.length ≤ 1073741823 ∧ h.Claims.length ≤ 1073741823) x) (fun x => (fun (h : THouse) => (dI (mServed h) : D)) x) (fun x => (fun (h : THouse) => []) x)
@[simp] theorem c98_f : c98.f = 98 := rfl
@[simp] theorem c98_own : c98.own = false := rfl
theorem c98_inj : ∀ u_ v_ : THouse, ((fun x => (fun (h : THouse) => [encTHouse h]) x) u_).map nz = ((fun x => (fun (h : THouse) => [encTHouse h]) x) v_).map nz → u_ = v_ := by
  intro u_ v_ h
  obtain ⟨h_No, h_Finds, h_Secrets, h_Slots, h_Claims, h_Trials, h_Chain, h_Book, h_Now⟩ := u_
  obtain ⟨h_No', h_Finds', h_Secrets', h_Slots', h_Claims', h_Trials', h_Chain', h_Book', h_Now'⟩ := v_
  simp [nz_lit, nz1_lit, nz_agg, nz_sl, nz1_sl, encLTClaim, encLTEntry, encLTFind, encLTHand, encLTSecret, encLTSlot, encLTTrial, encTHouse] at h
  first | (simp [h]; done) | (obtain ⟨⟩ := h; simp_all; done) | simp_all
@[simp] theorem c98_fn (h_No : Int) (h_Finds : List TFind) (h_Secrets : List TSecret) (h_Slots : List TSlot) (h_Claims : List TClaim) (h_Trials : List TTrial) (h_Chain : List THand) (h_Book : List TEntry) (h_Now : Int) : c98.fn [.agg [.lit (.int .i64 h_No), .sl false 8 yTFind (ML encTFind h_Finds), .sl false 3 yTSecret (ML encTSecret h_Secrets), .sl false 3 yTSlot (ML encTSlot h_Slots), .sl false 5 yTClaim (ML encTClaim h_Claims), .sl false 4 yTTrial (ML encTTrial h_Trials), .sl false 5 yTHand (ML encTHand h_Chain), .sl false 4 yTEntry (ML encTEntry h_Book), .lit (.int .i64 h_Now)]] [] = some ((fun (h : THouse) => h.Finds.length ≤ 1073741823 ∧ h.Claims.length ≤ 1073741823) ⟨h_No, h_Finds, h_Secrets, h_Slots, h_Claims, h_Trials, h_Chain, h_Book, h_Now⟩, (fun (h : THouse) => (dI (mServed h) : D)) ⟨h_No, h_Finds, h_Secrets, h_Slots, h_Claims, h_Trials, h_Chain, h_Book, h_Now⟩, (fun (h : THouse) => []) ⟨h_No, h_Finds, h_Secrets, h_Slots, h_Claims, h_Trials, h_Chain, h_Book, h_Now⟩) :=
  mkCon_fn (fun x y h _ => c98_inj x y h) (⟨h_No, h_Finds, h_Secrets, h_Slots, h_Claims, h_Trials, h_Chain, h_Book, h_Now⟩ : THouse) (by simp [nz, nz1, ML_nil, encLTClaim, encLTEntry, encLTFind, encLTHand, encLTSecret, encLTSlot, encLTTrial, encTHouse]) rfl
theorem c98_pc (h : THouse) (hpre : h.Finds.length ≤ 1073741823 ∧ h.Claims.length ≤ 1073741823) : PCo Try.prog 98 [encTHouse h] (Tab.of []) (dI (mServed h)) (Tab.of []) := by
  refine pco_of_run [] (E := ⟨[], []⟩) (m := false) (base := 0) Env.ok_nil G_ok mix 300 6 Try.func98 (by kernel_rfl) rfl (by kernel_rfl) (by kernel_rfl) rfl ?_
  simp [Try.f98]
  have hc := List.countP_le_length (p := stateIs 3) (l := h.Claims)
  refine loop_inv (fun p : Nat => p ≤ h.Claims.length) (fun p => [(1, .ptr (0, 1) 0), (3, dI ((h.Claims.take p).countP (stateIs 3))), (4, dI p)]) (fun p => [((0, 1), .box (encTHouse h))]) 2 (fun p => h.Claims.length - p) 0 400 (by simp) (by simp) (by simp) ?_
  intro p hp
  simp
  refine ⟨fun hlt => ?_, fun hge => ?_⟩
  · have hs := countP_at (want := stateIs 3) (d := default) hlt
    have hb := countP_take (want := stateIs 3) (l := h.Claims) (p := p)
    repeat' (first | omega | refine And.intro ?_ ?_ | intro _)
    all_goals (rename_i hw; refine Again.mk (p + 1) (by omega) (by simp [hs, stateIs, hw]) (by first | omega | (simp; omega)))
  · rw [List.take_of_length_le hge]
    exact served_fin hpre.2
theorem c98_ok : c98.ok Try.prog := mkCon_ok fun h hpre => c98_pc h hpre
/-- loop.example/g03007/laws.FnExactServedShare -/
theorem law21 (h : THouse) (wh : wfTHouse h) : PCo Try.prog 21 [encTHouse h] (Tab.of []) (dB true) (Tab.of []) := by
  refine pco_of_run [1000099] (E := ⟨[c97, c98, c99, c100, c101], []⟩) (m := false) (base := 0) (Env.ok_cons c97_ok (Env.ok_cons c98_ok (Env.ok_cons c99_ok (Env.ok_cons c100_ok (Env.ok_cons c101_ok Env.ok_nil))))) G_ok mix 400 6 Try.func21 (by kernel_rfl) rfl (by kernel_rfl) (by kernel_rfl) rfl ?_
  simp (config := {maxSteps := 3000000}) [Try.f21]
  have h1 := wfH_len wh
  refine ⟨h1, fun hs => ?_⟩
  obtain ⟨_, k1, ⟨k2, k3⟩, k4, k5, k6, k7, k8⟩ := szHo_ok hs
  have k9 : ∀ x ∈ h.Secrets, x.Marks.length ≤ 1073741823 := fun x hx => by have := k3 x hx; omega
  repeat' (first | exact k9 | omega | refine And.intro ?_ ?_ | intro _)
theorem law21_pc (D0 : D) (h0 : Sh G 9 124 D0) : PC Try.prog 21 [D0] (dB true) [] := by
  obtain ⟨h, rfl, wh⟩ := sh124 (n := 3) h0
  exact law21 h wh

end Go.Proofs.YtmhbciaolpamaaaR
