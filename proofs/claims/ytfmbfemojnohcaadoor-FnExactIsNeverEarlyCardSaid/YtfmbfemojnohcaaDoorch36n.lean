/- Contracts of the functions that the laws run. -/
import Derived.Test.YtfmbfemojnohcaaDoorch36
import Derived.Test.YtfmbfemojnohcaaDoorch17
import Derived.Test.YtfmbfemojnohcaaDoorEngB
namespace Go.Proofs.YtfmbfemojnohcaaDoor
open Go Go.Eng
set_option linter.unusedSimpArgs false
set_option linter.unusedVariables false
set_option maxRecDepth 10000
set_option maxHeartbeats 1000000
def mFindOf (h : THouse) (n : Int) : TFind := if mFindThing h.Finds n < 0 then default else h.Finds[(mFindThing h.Finds n).toNat]?.getD default
theorem due_zero (now : Int) : mIsDue now default = false := by
  have h : mIsFind default = false := by decide
  simp [mIsDue, h]
/-- (*loop.example/g03007/impl.House).findOf -/
noncomputable def c30 : Con := mkCon 30 false (α := THouse × Int) (fun x => (fun (h : THouse) (n : Int) => ([.el (encTHouse h), dI n] : List D)) x.1 x.2) (fun x => (fun (h : THouse) (n : Int) => ([] : List (Nm × OO))) x.1 x.2) (fun x => (fun (h : THouse) (n : Int) => h.Finds.length ≤ 1073741823) x.1 x.2) (fun x => (fun (h : THouse) (n : Int) => (encTFind (mFindOf h n) : D)) x.1 x.2) (fun x => (fun (h : THouse) (n : Int) => ([] : List (Nm × OO))) x.1 x.2)
@[simp] theorem c30_f : c30.f = 30 := rfl
@[simp] theorem c30_own : c30.own = false := rfl
theorem c30_inj : ∀ u_ v_ : THouse × Int, ((fun x => (fun (h : THouse) (n : Int) => ([.el (encTHouse h), dI n] : List D)) x.1 x.2) u_).map nz = ((fun x => (fun (h : THouse) (n : Int) => ([.el (encTHouse h), dI n] : List D)) x.1 x.2) v_).map nz → (fun x => (fun (h : THouse) (n : Int) => ([] : List (Nm × OO))) x.1 x.2) u_ = (fun x => (fun (h : THouse) (n : Int) => ([] : List (Nm × OO))) x.1 x.2) v_ → u_ = v_ := by
  intro u_ v_ h h2_
  obtain ⟨⟨h_No, h_Finds, h_Secrets, h_Slots, h_Claims, h_Trials, h_Chain, h_Book, h_Now⟩, n⟩ := u_
  obtain ⟨⟨h_No', h_Finds', h_Secrets', h_Slots', h_Claims', h_Trials', h_Chain', h_Book', h_Now'⟩, n'⟩ := v_
  simp [nz_lit, nz1_lit, nz_agg, nz_sl, nz1_sl, nz_sx, nz_el, nz1_el, nz_own, nz1_own, nz_ptr, nz_fn, nz_iface] at h h2_
  first | (simp [h, h2_]; done) | (obtain ⟨h3_, h4_⟩ := List.append_inj h2_ h.1; simp_all; done) | simp_all | grind
@[simp] theorem c30_fn (h_No : Int) (h_Finds : List TFind) (h_Secrets : List TSecret) (h_Slots : List TSlot) (h_Claims : List TClaim) (h_Trials : List TTrial) (h_Chain : List THand) (h_Book : List TEntry) (h_Now : Int) (n : Int) : c30.fn ([.el (.agg [.lit (.int .i64 h_No), .sl false 8 yTFind (ML encTFind h_Finds), .sl false 3 yTSecret (ML encTSecret h_Secrets), .sl false 3 yTSlot (ML encTSlot h_Slots), .sl false 5 yTClaim (ML encTClaim h_Claims), .sl false 4 yTTrial (ML encTTrial h_Trials), .sl false 5 yTHand (ML encTHand h_Chain), .sl false 4 yTEntry (ML encTEntry h_Book), .lit (.int .i64 h_Now)]), dI n]) ([]) = some ((⟨h_No, h_Finds, h_Secrets, h_Slots, h_Claims, h_Trials, h_Chain, h_Book, h_Now⟩ : THouse).Finds.length ≤ 1073741823, encTFind (mFindOf (⟨h_No, h_Finds, h_Secrets, h_Slots, h_Claims, h_Trials, h_Chain, h_Book, h_Now⟩ : THouse) n), []) :=
  mkCon_fn c30_inj ((⟨h_No, h_Finds, h_Secrets, h_Slots, h_Claims, h_Trials, h_Chain, h_Book, h_Now⟩, n) : THouse × Int) rfl rfl
theorem c30_pc (h : THouse) (n : Int) (hpre : h.Finds.length ≤ 1073741823) : PCo Tryd.prog 30 ([.el (encTHouse h), dI n]) (Tab.of ([])) (encTFind (mFindOf h n)) (Tab.of ([])) := by
  refine pco_of_run [] (E := ⟨[c53], [], []⟩) (m := false) (base := 0) (Env.ok_cons c53_ok Env.ok_nil) G_ok mix 300 6 Tryd.func30 (by kernel_rfl) rfl (by kernel_rfl) (by kernel_rfl) rfl ?_
  simp [Tryd.f30]
  have hb := indexBy_bd (want := wantN nFind n) h.Finds 0
  have hd : (default : TFind) = ⟨⟨0, 0, 0, 0, 0⟩, 0, 0, 0⟩ := rfl
  have hm : mFindThing h.Finds n = indexBy (wantN nFind n) 0 h.Finds := rfl
  rw [← hm] at hb
  refine ⟨by omega, fun hn => ?_, fun hn => ⟨by omega, ?_⟩⟩
  · simp [mFindOf, hn, hd]
  · simp [mFindOf, show ¬ mFindThing h.Finds n < 0 by omega]
theorem c30_ok : c30.ok Tryd.prog := mkCon_ok fun ⟨h, n⟩ hpre => c30_pc h n hpre
def mEarlyOk (h : THouse) (x : THand) : Bool := decide (x.Holder ≤ 2) || mServedH h x || mIsDue x.At (mFindOf h x.Thing)
def mNeverEarly (h : THouse) : Bool := h.Chain.all (mEarlyOk h)
/-- loop.example/g03007/impl.IsNeverEarly$1 -/
noncomputable def c27 : Con := mkCon 27 false (α := THand × THouse) (fun x => (fun (x : THand) (h : THouse) => ([encTHand x, .el (encTHouse h)] : List D)) x.1 x.2) (fun x => (fun (x : THand) (h : THouse) => ([] : List (Nm × OO))) x.1 x.2) (fun x => (fun (x : THand) (h : THouse) => h.Claims.length ≤ 1073741823 ∧ h.Finds.length ≤ 1073741823) x.1 x.2) (fun x => (fun (x : THand) (h : THouse) => (dB (mEarlyOk h x) : D)) x.1 x.2) (fun x => (fun (x : THand) (h : THouse) => ([] : List (Nm × OO))) x.1 x.2)
@[simp] theorem c27_f : c27.f = 27 := rfl
@[simp] theorem c27_own : c27.own = false := rfl
theorem c27_inj : ∀ u_ v_ : THand × THouse, ((fun x => (fun (x : THand) (h : THouse) => ([encTHand x, .el (encTHouse h)] : List D)) x.1 x.2) u_).map nz = ((fun x => (fun (x : THand) (h : THouse) => ([encTHand x, .el (encTHouse h)] : List D)) x.1 x.2) v_).map nz → (fun x => (fun (x : THand) (h : THouse) => ([] : List (Nm × OO))) x.1 x.2) u_ = (fun x => (fun (x : THand) (h : THouse) => ([] : List (Nm × OO))) x.1 x.2) v_ → u_ = v_ := by
  intro u_ v_ h h2_
  obtain ⟨⟨x_Thing, x_Holder, x_Who, x_At, x_Seal⟩, ⟨h_No, h_Finds, h_Secrets, h_Slots, h_Claims, h_Trials, h_Chain, h_Book, h_Now⟩⟩ := u_
  obtain ⟨⟨x_Thing', x_Holder', x_Who', x_At', x_Seal'⟩, ⟨h_No', h_Finds', h_Secrets', h_Slots', h_Claims', h_Trials', h_Chain', h_Book', h_Now'⟩⟩ := v_
  simp [nz_lit, nz1_lit, nz_agg, nz_sl, nz1_sl, nz_sx, nz_el, nz1_el, nz_own, nz1_own, nz_ptr, nz_fn, nz_iface] at h h2_
  first | (simp [h, h2_]; done) | (obtain ⟨h3_, h4_⟩ := List.append_inj h2_ h.1; simp_all; done) | simp_all | grind
@[simp] theorem c27_fn (x_Thing : Int) (x_Holder : Int) (x_Who : Int) (x_At : Int) (x_Seal : Int) (h_No : Int) (h_Finds : List TFind) (h_Secrets : List TSecret) (h_Slots : List TSlot) (h_Claims : List TClaim) (h_Trials : List TTrial) (h_Chain : List THand) (h_Book : List TEntry) (h_Now : Int) : c27.fn ([.agg [.lit (.int .i64 x_Thing), .lit (.int .i64 x_Holder), .lit (.int .i64 x_Who), .lit (.int .i64 x_At), .lit (.int .i64 x_Seal)], .el (.agg [.lit (.int .i64 h_No), .sl false 8 yTFind (ML encTFind h_Finds), .sl false 3 yTSecret (ML encTSecret h_Secrets), .sl false 3 yTSlot (ML encTSlot h_Slots), .sl false 5 yTClaim (ML encTClaim h_Claims), .sl false 4 yTTrial (ML encTTrial h_Trials), .sl false 5 yTHand (ML encTHand h_Chain), .sl false 4 yTEntry (ML encTEntry h_Book), .lit (.int .i64 h_Now)])]) ([]) = some ((⟨h_No, h_Finds, h_Secrets, h_Slots, h_Claims, h_Trials, h_Chain, h_Book, h_Now⟩ : THouse).Claims.length ≤ 1073741823 ∧ (⟨h_No, h_Finds, h_Secrets, h_Slots, h_Claims, h_Trials, h_Chain, h_Book, h_Now⟩ : THouse).Finds.length ≤ 1073741823, dB (mEarlyOk (⟨h_No, h_Finds, h_Secrets, h_Slots, h_Claims, h_Trials, h_Chain, h_Book, h_Now⟩ : THouse) (⟨x_Thing, x_Holder, x_Who, x_At, x_Seal⟩ : THand)), []) :=
  mkCon_fn c27_inj ((⟨x_Thing, x_Holder, x_Who, x_At, x_Seal⟩, ⟨h_No, h_Finds, h_Secrets, h_Slots, h_Claims, h_Trials, h_Chain, h_Book, h_Now⟩) : THand × THouse) rfl rfl
theorem c27_pc (x : THand) (h : THouse) (hpre : h.Claims.length ≤ 1073741823 ∧ h.Finds.length ≤ 1073741823) : PCo Tryd.prog 27 ([encTHand x, .el (encTHouse h)]) (Tab.of ([])) (dB (mEarlyOk h x)) (Tab.of ([])) := by
  refine pco_of_run [1] (E := ⟨[c28, c29, c30], [], []⟩) (m := false) (base := 0) (Env.ok_cons c28_ok (Env.ok_cons c29_ok (Env.ok_cons c30_ok Env.ok_nil))) G_ok mix 300 6 Tryd.func27 (by kernel_rfl) rfl (by kernel_rfl) (by kernel_rfl) rfl ?_
  simp [Tryd.f27]
  simp [mEarlyOk]
  first | exact ⟨fun _ => by omega, fun _ _ => hpre.2⟩ | exact ⟨⟨fun _ => by omega, fun _ _ => hpre.2⟩, rfl⟩
theorem c27_ok : c27.ok Tryd.prog := mkCon_ok fun ⟨x, h⟩ hpre => c27_pc x h hpre
/-- loop.example/g03007/impl.countWhere[loop.example/g03007/impl.Hand] -/
noncomputable def c48 : Con := mkCon 48 false (α := (List THand) × THouse) (fun x => (fun (l : List THand) (h : THouse) => ([encLTHand l, .fn (.func 27) [] [.el (encTHouse h)]] : List D)) x.1 x.2) (fun x => (fun (l : List THand) (h : THouse) => ([] : List (Nm × OO))) x.1 x.2) (fun x => (fun (l : List THand) (h : THouse) => l.length ≤ 1073741823 ∧ h.Claims.length ≤ 1073741823 ∧ h.Finds.length ≤ 1073741823) x.1 x.2) (fun x => (fun (l : List THand) (h : THouse) => (dI (l.countP (mEarlyOk h)) : D)) x.1 x.2) (fun x => (fun (l : List THand) (h : THouse) => ([] : List (Nm × OO))) x.1 x.2)
@[simp] theorem c48_f : c48.f = 48 := rfl
@[simp] theorem c48_own : c48.own = false := rfl
theorem c48_inj : ∀ u_ v_ : (List THand) × THouse, ((fun x => (fun (l : List THand) (h : THouse) => ([encLTHand l, .fn (.func 27) [] [.el (encTHouse h)]] : List D)) x.1 x.2) u_).map nz = ((fun x => (fun (l : List THand) (h : THouse) => ([encLTHand l, .fn (.func 27) [] [.el (encTHouse h)]] : List D)) x.1 x.2) v_).map nz → (fun x => (fun (l : List THand) (h : THouse) => ([] : List (Nm × OO))) x.1 x.2) u_ = (fun x => (fun (l : List THand) (h : THouse) => ([] : List (Nm × OO))) x.1 x.2) v_ → u_ = v_ := by
  intro u_ v_ h h2_
  obtain ⟨l, ⟨h_No, h_Finds, h_Secrets, h_Slots, h_Claims, h_Trials, h_Chain, h_Book, h_Now⟩⟩ := u_
  obtain ⟨l', ⟨h_No', h_Finds', h_Secrets', h_Slots', h_Claims', h_Trials', h_Chain', h_Book', h_Now'⟩⟩ := v_
  simp [nz_lit, nz1_lit, nz_agg, nz_sl, nz1_sl, nz_sx, nz_el, nz1_el, nz_own, nz1_own, nz_ptr, nz_fn, nz_iface] at h h2_
  first | (simp [h, h2_]; done) | (obtain ⟨h3_, h4_⟩ := List.append_inj h2_ h.1; simp_all; done) | simp_all | grind
@[simp] theorem c48_fn (l : List THand) (h_No : Int) (h_Finds : List TFind) (h_Secrets : List TSecret) (h_Slots : List TSlot) (h_Claims : List TClaim) (h_Trials : List TTrial) (h_Chain : List THand) (h_Book : List TEntry) (h_Now : Int) : c48.fn ([(.sl false 5 yTHand (ML encTHand l)), .fn (.func 27) [] [.el (.agg [.lit (.int .i64 h_No), .sl false 8 yTFind (ML encTFind h_Finds), .sl false 3 yTSecret (ML encTSecret h_Secrets), .sl false 3 yTSlot (ML encTSlot h_Slots), .sl false 5 yTClaim (ML encTClaim h_Claims), .sl false 4 yTTrial (ML encTTrial h_Trials), .sl false 5 yTHand (ML encTHand h_Chain), .sl false 4 yTEntry (ML encTEntry h_Book), .lit (.int .i64 h_Now)])]]) ([]) = some (l.length ≤ 1073741823 ∧ (⟨h_No, h_Finds, h_Secrets, h_Slots, h_Claims, h_Trials, h_Chain, h_Book, h_Now⟩ : THouse).Claims.length ≤ 1073741823 ∧ (⟨h_No, h_Finds, h_Secrets, h_Slots, h_Claims, h_Trials, h_Chain, h_Book, h_Now⟩ : THouse).Finds.length ≤ 1073741823, dI (l.countP (mEarlyOk (⟨h_No, h_Finds, h_Secrets, h_Slots, h_Claims, h_Trials, h_Chain, h_Book, h_Now⟩ : THouse))), []) :=
  mkCon_fn c48_inj ((l, ⟨h_No, h_Finds, h_Secrets, h_Slots, h_Claims, h_Trials, h_Chain, h_Book, h_Now⟩) : (List THand) × THouse) rfl rfl
theorem c48_pc (l : List THand) (h : THouse) (hpre : l.length ≤ 1073741823 ∧ h.Claims.length ≤ 1073741823 ∧ h.Finds.length ≤ 1073741823) : PCo Tryd.prog 48 ([encLTHand l, .fn (.func 27) [] [.el (encTHouse h)]]) (Tab.of ([])) (dI (l.countP (mEarlyOk h))) (Tab.of ([])) := by
  refine pco_of_run [] (E := ⟨[c27], [], []⟩) (m := false) (base := 0) (Env.ok_cons c27_ok Env.ok_nil) G_ok mix 300 6 Tryd.func48 (by kernel_rfl) rfl (by kernel_rfl) (by kernel_rfl) rfl ?_
  simp [Tryd.f48]
  obtain ⟨hp1, hp2, hp3⟩ := hpre
  refine loop_inv (fun p : Nat => p ≤ l.length) (fun p => [(1, .fn (.func 27) [] [.el (encTHouse h)]), (5, dI ((l.take p).countP (mEarlyOk h))), (8, encLTHand l), (9, dI l.length), (10, dI p)]) (fun _ => []) 1 (fun p => l.length - p) 0 400 (by simp) (by simp) (by simp) ?_
  intro p hp
  simp
  refine ⟨fun hlt => ?_, fun hge => ?_⟩
  · have hs := countP_at (want := mEarlyOk h) (d := default) hlt
    have hb := countP_take (want := mEarlyOk h) (l := l) (p := p)
    repeat' (first | omega | refine And.intro ?_ ?_ | intro _)
    all_goals (rename_i hw; refine Again.mk (p + 1) (by omega) (by simp [hs, hw]) (by first | omega | (simp; omega)))
  · rw [List.take_of_length_le hge]
theorem c48_ok : c48.ok Tryd.prog := mkCon_ok fun ⟨l, h⟩ hpre => c48_pc l h hpre
/-- loop.example/g03007/impl.areAll[loop.example/g03007/impl.Hand] -/
noncomputable def c26 : Con := mkCon 26 false (α := (List THand) × THouse) (fun x => (fun (l : List THand) (h : THouse) => ([encLTHand l, .fn (.func 27) [] [.el (encTHouse h)]] : List D)) x.1 x.2) (fun x => (fun (l : List THand) (h : THouse) => ([] : List (Nm × OO))) x.1 x.2) (fun x => (fun (l : List THand) (h : THouse) => l.length ≤ 1073741823 ∧ h.Claims.length ≤ 1073741823 ∧ h.Finds.length ≤ 1073741823) x.1 x.2) (fun x => (fun (l : List THand) (h : THouse) => (dB (l.all (mEarlyOk h)) : D)) x.1 x.2) (fun x => (fun (l : List THand) (h : THouse) => ([] : List (Nm × OO))) x.1 x.2)
@[simp] theorem c26_f : c26.f = 26 := rfl
@[simp] theorem c26_own : c26.own = false := rfl
theorem c26_inj : ∀ u_ v_ : (List THand) × THouse, ((fun x => (fun (l : List THand) (h : THouse) => ([encLTHand l, .fn (.func 27) [] [.el (encTHouse h)]] : List D)) x.1 x.2) u_).map nz = ((fun x => (fun (l : List THand) (h : THouse) => ([encLTHand l, .fn (.func 27) [] [.el (encTHouse h)]] : List D)) x.1 x.2) v_).map nz → (fun x => (fun (l : List THand) (h : THouse) => ([] : List (Nm × OO))) x.1 x.2) u_ = (fun x => (fun (l : List THand) (h : THouse) => ([] : List (Nm × OO))) x.1 x.2) v_ → u_ = v_ := by
  intro u_ v_ h h2_
  obtain ⟨l, ⟨h_No, h_Finds, h_Secrets, h_Slots, h_Claims, h_Trials, h_Chain, h_Book, h_Now⟩⟩ := u_
  obtain ⟨l', ⟨h_No', h_Finds', h_Secrets', h_Slots', h_Claims', h_Trials', h_Chain', h_Book', h_Now'⟩⟩ := v_
  simp [nz_lit, nz1_lit, nz_agg, nz_sl, nz1_sl, nz_sx, nz_el, nz1_el, nz_own, nz1_own, nz_ptr, nz_fn, nz_iface] at h h2_
  first | (simp [h, h2_]; done) | (obtain ⟨h3_, h4_⟩ := List.append_inj h2_ h.1; simp_all; done) | simp_all | grind
@[simp] theorem c26_fn (l : List THand) (h_No : Int) (h_Finds : List TFind) (h_Secrets : List TSecret) (h_Slots : List TSlot) (h_Claims : List TClaim) (h_Trials : List TTrial) (h_Chain : List THand) (h_Book : List TEntry) (h_Now : Int) : c26.fn ([(.sl false 5 yTHand (ML encTHand l)), .fn (.func 27) [] [.el (.agg [.lit (.int .i64 h_No), .sl false 8 yTFind (ML encTFind h_Finds), .sl false 3 yTSecret (ML encTSecret h_Secrets), .sl false 3 yTSlot (ML encTSlot h_Slots), .sl false 5 yTClaim (ML encTClaim h_Claims), .sl false 4 yTTrial (ML encTTrial h_Trials), .sl false 5 yTHand (ML encTHand h_Chain), .sl false 4 yTEntry (ML encTEntry h_Book), .lit (.int .i64 h_Now)])]]) ([]) = some (l.length ≤ 1073741823 ∧ (⟨h_No, h_Finds, h_Secrets, h_Slots, h_Claims, h_Trials, h_Chain, h_Book, h_Now⟩ : THouse).Claims.length ≤ 1073741823 ∧ (⟨h_No, h_Finds, h_Secrets, h_Slots, h_Claims, h_Trials, h_Chain, h_Book, h_Now⟩ : THouse).Finds.length ≤ 1073741823, dB (l.all (mEarlyOk (⟨h_No, h_Finds, h_Secrets, h_Slots, h_Claims, h_Trials, h_Chain, h_Book, h_Now⟩ : THouse))), []) :=
  mkCon_fn c26_inj ((l, ⟨h_No, h_Finds, h_Secrets, h_Slots, h_Claims, h_Trials, h_Chain, h_Book, h_Now⟩) : (List THand) × THouse) rfl rfl
theorem c26_pc (l : List THand) (h : THouse) (hpre : l.length ≤ 1073741823 ∧ h.Claims.length ≤ 1073741823 ∧ h.Finds.length ≤ 1073741823) : PCo Tryd.prog 26 ([encLTHand l, .fn (.func 27) [] [.el (encTHouse h)]]) (Tab.of ([])) (dB (l.all (mEarlyOk h))) (Tab.of ([])) := by
  refine pco_of_run [] (E := ⟨[c48, c27], [], []⟩) (m := false) (base := 0) (Env.ok_cons c48_ok (Env.ok_cons c27_ok Env.ok_nil)) G_ok mix 300 6 Tryd.func26 (by kernel_rfl) rfl (by kernel_rfl) (by kernel_rfl) rfl ?_
  simp [Tryd.f26]
  rw [← all_count]
  refine ⟨hpre, ?_⟩
  first | rfl | (rw [Bool.eq_iff_iff]; simp; done) | trace_state
theorem c26_ok : c26.ok Tryd.prog := mkCon_ok fun ⟨l, h⟩ hpre => c26_pc l h hpre
/-- loop.example/g03007/impl.IsNeverEarly -/
noncomputable def c7 : Con := mkCon 7 false (α := THouse) (fun x => (fun (h : THouse) => [encTHouse h]) x) (fun _ => []) (fun x => (fun (h : THouse) => smH h) x) (fun x => (fun (h : THouse) => (dB (mNeverEarly h) : D)) x) (fun x => (fun (h : THouse) => []) x)
@[simp] theorem c7_f : c7.f = 7 := rfl
@[simp] theorem c7_own : c7.own = false := rfl
theorem c7_inj : ∀ u_ v_ : THouse, ((fun x => (fun (h : THouse) => [encTHouse h]) x) u_).map nz = ((fun x => (fun (h : THouse) => [encTHouse h]) x) v_).map nz → u_ = v_ := by
  intro u_ v_ h
  obtain ⟨h_No, h_Finds, h_Secrets, h_Slots, h_Claims, h_Trials, h_Chain, h_Book, h_Now⟩ := u_
  obtain ⟨h_No', h_Finds', h_Secrets', h_Slots', h_Claims', h_Trials', h_Chain', h_Book', h_Now'⟩ := v_
  simp [nz_lit, nz1_lit, nz_agg, nz_sl, nz1_sl, encLTClaim, encLTEntry, encLTFind, encLTHand, encLTSecret, encLTSlot, encLTTrial, encTHouse] at h
  first | (simp [h]; done) | (obtain ⟨⟩ := h; simp_all; done) | simp_all
@[simp] theorem c7_fn (h_No : Int) (h_Finds : List TFind) (h_Secrets : List TSecret) (h_Slots : List TSlot) (h_Claims : List TClaim) (h_Trials : List TTrial) (h_Chain : List THand) (h_Book : List TEntry) (h_Now : Int) : c7.fn [.agg [.lit (.int .i64 h_No), .sl false 8 yTFind (ML encTFind h_Finds), .sl false 3 yTSecret (ML encTSecret h_Secrets), .sl false 3 yTSlot (ML encTSlot h_Slots), .sl false 5 yTClaim (ML encTClaim h_Claims), .sl false 4 yTTrial (ML encTTrial h_Trials), .sl false 5 yTHand (ML encTHand h_Chain), .sl false 4 yTEntry (ML encTEntry h_Book), .lit (.int .i64 h_Now)]] [] = some ((fun (h : THouse) => smH h) ⟨h_No, h_Finds, h_Secrets, h_Slots, h_Claims, h_Trials, h_Chain, h_Book, h_Now⟩, (fun (h : THouse) => (dB (mNeverEarly h) : D)) ⟨h_No, h_Finds, h_Secrets, h_Slots, h_Claims, h_Trials, h_Chain, h_Book, h_Now⟩, (fun (h : THouse) => []) ⟨h_No, h_Finds, h_Secrets, h_Slots, h_Claims, h_Trials, h_Chain, h_Book, h_Now⟩) :=
  mkCon_fn (fun x y h _ => c7_inj x y h) (⟨h_No, h_Finds, h_Secrets, h_Slots, h_Claims, h_Trials, h_Chain, h_Book, h_Now⟩ : THouse) (by simp [nz, nz1, ML_nil, encLTClaim, encLTEntry, encLTFind, encLTHand, encLTSecret, encLTSlot, encLTTrial, encTHouse]) rfl
theorem c7_pc (h : THouse) (hpre : smH h) : PCo Tryd.prog 7 [encTHouse h] (Tab.of []) (dB (mNeverEarly h)) (Tab.of []) := by
  refine pco_of_run [] (E := ⟨[c26, c27], [], []⟩) (m := false) (base := 0) (Env.ok_cons c26_ok (Env.ok_cons c27_ok Env.ok_nil)) G_ok mix 300 6 Tryd.func7 (by kernel_rfl) rfl (by kernel_rfl) (by kernel_rfl) rfl ?_
  simp [Tryd.f7]
  simp at hpre
  repeat' (first | omega | rfl | refine And.intro ?_ ?_ | intro _)
theorem c7_ok : c7.ok Tryd.prog := mkCon_ok fun h hpre => c7_pc h hpre
/-- loop.example/g03007/spec.IsNeverEarly -/
noncomputable def c5 : Con := mkCon 5 false (α := THouse) (fun x => (fun (h : THouse) => [encTHouse h]) x) (fun _ => []) (fun x => (fun (h : THouse) => smH h) x) (fun x => (fun (h : THouse) => (dB (mNeverEarly h) : D)) x) (fun x => (fun (h : THouse) => []) x)
@[simp] theorem c5_f : c5.f = 5 := rfl
@[simp] theorem c5_own : c5.own = false := rfl
theorem c5_inj : ∀ u_ v_ : THouse, ((fun x => (fun (h : THouse) => [encTHouse h]) x) u_).map nz = ((fun x => (fun (h : THouse) => [encTHouse h]) x) v_).map nz → u_ = v_ := by
  intro u_ v_ h
  obtain ⟨h_No, h_Finds, h_Secrets, h_Slots, h_Claims, h_Trials, h_Chain, h_Book, h_Now⟩ := u_
  obtain ⟨h_No', h_Finds', h_Secrets', h_Slots', h_Claims', h_Trials', h_Chain', h_Book', h_Now'⟩ := v_
  simp [nz_lit, nz1_lit, nz_agg, nz_sl, nz1_sl, encLTClaim, encLTEntry, encLTFind, encLTHand, encLTSecret, encLTSlot, encLTTrial, encTHouse] at h
  first | (simp [h]; done) | (obtain ⟨⟩ := h; simp_all; done) | simp_all
@[simp] theorem c5_fn (h_No : Int) (h_Finds : List TFind) (h_Secrets : List TSecret) (h_Slots : List TSlot) (h_Claims : List TClaim) (h_Trials : List TTrial) (h_Chain : List THand) (h_Book : List TEntry) (h_Now : Int) : c5.fn [.agg [.lit (.int .i64 h_No), .sl false 8 yTFind (ML encTFind h_Finds), .sl false 3 yTSecret (ML encTSecret h_Secrets), .sl false 3 yTSlot (ML encTSlot h_Slots), .sl false 5 yTClaim (ML encTClaim h_Claims), .sl false 4 yTTrial (ML encTTrial h_Trials), .sl false 5 yTHand (ML encTHand h_Chain), .sl false 4 yTEntry (ML encTEntry h_Book), .lit (.int .i64 h_Now)]] [] = some ((fun (h : THouse) => smH h) ⟨h_No, h_Finds, h_Secrets, h_Slots, h_Claims, h_Trials, h_Chain, h_Book, h_Now⟩, (fun (h : THouse) => (dB (mNeverEarly h) : D)) ⟨h_No, h_Finds, h_Secrets, h_Slots, h_Claims, h_Trials, h_Chain, h_Book, h_Now⟩, (fun (h : THouse) => []) ⟨h_No, h_Finds, h_Secrets, h_Slots, h_Claims, h_Trials, h_Chain, h_Book, h_Now⟩) :=
  mkCon_fn (fun x y h _ => c5_inj x y h) (⟨h_No, h_Finds, h_Secrets, h_Slots, h_Claims, h_Trials, h_Chain, h_Book, h_Now⟩ : THouse) (by simp [nz, nz1, ML_nil, encLTClaim, encLTEntry, encLTFind, encLTHand, encLTSecret, encLTSlot, encLTTrial, encTHouse]) rfl
theorem c5_pc (h : THouse) (hpre : smH h) : PCo Tryd.prog 5 [encTHouse h] (Tab.of []) (dB (mNeverEarly h)) (Tab.of []) := by
  refine pco_of_run [] (E := ⟨[c16, c17, c18], [], []⟩) (m := false) (base := 0) (Env.ok_cons c16_ok (Env.ok_cons c17_ok (Env.ok_cons c18_ok Env.ok_nil))) G_ok mix 300 6 Tryd.func5 (by kernel_rfl) rfl (by kernel_rfl) (by kernel_rfl) rfl ?_
  simp [Tryd.f5]
  simp at hpre
  refine loop_inv (fun p : Nat => p ≤ h.Chain.length ∧ mNeverEarly h = (h.Chain.drop p).all (mEarlyOk h)) (fun p => [(1, .ptr (0, 1) 0), (3, dI p)]) (fun p => [((0, 1), .box (encTHouse h))]) 2 (fun p => h.Chain.length - p) 0 400 (by simp) (by simp [mNeverEarly]) (by simp) ?_
  intro p ⟨hp, hi⟩
  simp
  refine ⟨fun hlt => ?_, fun hge => ?_⟩
  · rw [all_at (d := default) hlt] at hi
    have hb := indexBy_bd (want := wantN nFind (h.Chain[p]?.getD default).Thing) h.Finds 0
    have hfd : mFindThing h.Finds (h.Chain[p]?.getD default).Thing = indexBy (wantN nFind (h.Chain[p]?.getD default).Thing) 0 h.Finds := rfl
    rw [← hfd] at hb
    generalize hx : h.Chain[p]?.getD default = x at *
    have hw : mEarlyOk h x = (decide (x.Holder ≤ 2) || (decide (x.Holder = 3) && mClaimed h x) || mIsDue x.At (mFindOf h x.Thing)) := rfl
    have hz : mFindThing h.Finds x.Thing < 0 → mIsDue x.At (mFindOf h x.Thing) = false := fun hn => by rw [mFindOf, if_pos hn, due_zero]
    have hy : ¬ mFindThing h.Finds x.Thing < 0 → mFindOf h x.Thing = h.Finds[(mFindThing h.Finds x.Thing).toNat]?.getD default := fun hn => by rw [mFindOf, if_neg hn]
    cases hv : mEarlyOk h x with
    | true =>
      rw [hv] at hi hw
      simp only [Bool.true_and] at hi
      repeat' (first | omega | refine And.intro ?_ ?_ | intro _)
      all_goals first | exact Again.mk (p + 1) ⟨by omega, hi⟩ (by simp) (by first | omega | (simp; omega)) | (exfalso; grind) | trace_state
    | false =>
      rw [hv] at hi hw
      simp only [Bool.false_and] at hi
      generalize Again _ _ _ _ _ _ _ = A
      repeat' (first | omega | exact hi | exact hi.symm | refine And.intro ?_ ?_ | intro _)
      all_goals first | (exfalso; grind) | trace_state
  · rw [all_end hge] at hi
    rw [hi]
theorem c5_ok : c5.ok Tryd.prog := mkCon_ok fun h hpre => c5_pc h hpre
/-- loop.example/g03007/laws.FnExactIsNeverEarly -/
theorem law3 (h : THouse) (wh : wfTHouse h) : PCo Tryd.prog 3 [encTHouse h] (Tab.of []) (dB true) (Tab.of []) := by
  refine pco_of_run [1000006] (E := ⟨[c4, c5, c6, c7, c8], [], []⟩) (m := false) (base := 0) (Env.ok_cons c4_ok (Env.ok_cons c5_ok (Env.ok_cons c6_ok (Env.ok_cons c7_ok (Env.ok_cons c8_ok Env.ok_nil))))) G_ok mix 400 6 Tryd.func3 (by kernel_rfl) rfl (by kernel_rfl) (by kernel_rfl) rfl ?_
  simp (config := {maxSteps := 3000000}) [Tryd.f3]
  have h1 := wfH_len wh
  refine ⟨h1, fun hs => ?_⟩
  obtain ⟨_, k1, ⟨k2, k3⟩, k4, k5, k6, k7, k8⟩ := szHo_ok hs
  have k9 : ∀ x ∈ h.Secrets, x.Marks.length ≤ 1073741823 := fun x hx => by have := k3 x hx; omega
  repeat' (first | exact k9 | omega | refine And.intro ?_ ?_ | intro _)
theorem law3_pc (D0 : D) (h0 : Sh G 9 30 D0) : PC Tryd.prog 3 [D0] (dB true) [] := by
  obtain ⟨h, rfl, wh⟩ := sh30 (n := 3) h0
  exact law3 h wh

end Go.Proofs.YtfmbfemojnohcaaDoor
