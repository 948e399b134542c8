/- Contracts of the functions that the laws run. -/
import Derived.Test.YtfmbfemojnohcaaDoorch33a
import Derived.Test.YtfmbfemojnohcaaDoorEngB
namespace Go.Proofs.YtfmbfemojnohcaaDoor
open Go Go.Eng
set_option linter.unusedSimpArgs false
set_option linter.unusedVariables false
set_option maxRecDepth 10000
set_option maxHeartbeats 1000000
theorem wfH_len {h : THouse} (w : wfTHouse h) : smHM h := by
  obtain ⟨_, w1, w2, w3, w4, w5, w6, w7, _⟩ := w
  exact ⟨w1.1, ⟨w2.1, fun x hx => wfS_len (w2.2 x hx)⟩, w3.1, w4.1, w5.1, w6.1, w7.1⟩
def servedBy (x : THand) (y : TClaim) : Bool := decide (y.State = 3) && decide (y.Thing = x.Thing) && decide (y.Who = x.Who)
def mClaimed (h : THouse) (x : THand) : Bool := h.Claims.any (servedBy x)
def mServedH (h : THouse) (x : THand) : Bool := decide (x.Holder = 3) && mClaimed h x
def mFindersH (h : THouse) (x : THand) : Bool := decide (0 ≤ mFindThing h.Finds x.Thing) && decide ((h.Finds[(mFindThing h.Finds x.Thing).toNat]?.getD default).Finder = x.Who)
def mOwnerOk (h : THouse) (x : THand) : Bool := !decide (x.Holder = 3) || mServedH h x || mFindersH h x
def mOwners (h : THouse) : Bool := h.Chain.all (mOwnerOk h)
theorem anyIx {α : Type} {w : α → Bool} : ∀ (l : List α) (i : Int), 0 ≤ i → (0 ≤ indexBy w i l ↔ l.any w = true)
  | [], i, _ => by simp [indexBy]
  | x :: r, i, hi => by
    simp only [indexBy, List.any_cons, Bool.or_eq_true]
    by_cases h : w x = true
    · simp [h, hi]
    · simp only [h, if_false, false_or, Bool.false_eq_true]; exact anyIx r (i + 1) (by omega)
/-- (*loop.example/g03007/impl.House).isServed$1 -/
noncomputable def c50 : Con := mkCon 50 false (α := TClaim × THand) (fun x => (fun (y : TClaim) (x : THand) => ([encTClaim y, .el (encTHand x)] : List D)) x.1 x.2) (fun x => (fun (y : TClaim) (x : THand) => ([] : List (Nm × OO))) x.1 x.2) (fun x => (fun (y : TClaim) (x : THand) => True) x.1 x.2) (fun x => (fun (y : TClaim) (x : THand) => (dB (servedBy x y) : D)) x.1 x.2) (fun x => (fun (y : TClaim) (x : THand) => ([] : List (Nm × OO))) x.1 x.2)
@[simp] theorem c50_f : c50.f = 50 := rfl
@[simp] theorem c50_own : c50.own = false := rfl
theorem c50_inj : ∀ u_ v_ : TClaim × THand, ((fun x => (fun (y : TClaim) (x : THand) => ([encTClaim y, .el (encTHand x)] : List D)) x.1 x.2) u_).map nz = ((fun x => (fun (y : TClaim) (x : THand) => ([encTClaim y, .el (encTHand x)] : List D)) x.1 x.2) v_).map nz → (fun x => (fun (y : TClaim) (x : THand) => ([] : List (Nm × OO))) x.1 x.2) u_ = (fun x => (fun (y : TClaim) (x : THand) => ([] : List (Nm × OO))) x.1 x.2) v_ → u_ = v_ := by
  intro u_ v_ h h2_
  obtain ⟨⟨y_Id, y_Who, y_Thing, y_At, y_State⟩, ⟨x_Thing, x_Holder, x_Who, x_At, x_Seal⟩⟩ := u_
  obtain ⟨⟨y_Id', y_Who', y_Thing', y_At', y_State'⟩, ⟨x_Thing', x_Holder', x_Who', x_At', x_Seal'⟩⟩ := v_
  simp [nz_lit, nz1_lit, nz_agg, nz_sl, nz1_sl, nz_sx, nz_el, nz1_el, nz_own, nz1_own, nz_ptr, nz_fn, nz_iface] at h h2_
  first | (simp [h, h2_]; done) | (obtain ⟨h3_, h4_⟩ := List.append_inj h2_ h.1; simp_all; done) | simp_all | grind
@[simp] theorem c50_fn (y_Id : Int) (y_Who : Int) (y_Thing : Int) (y_At : Int) (y_State : Int) (x_Thing : Int) (x_Holder : Int) (x_Who : Int) (x_At : Int) (x_Seal : Int) : c50.fn ([.agg [.lit (.int .i64 y_Id), .lit (.int .i64 y_Who), .lit (.int .i64 y_Thing), .lit (.int .i64 y_At), .lit (.int .i64 y_State)], .el (.agg [.lit (.int .i64 x_Thing), .lit (.int .i64 x_Holder), .lit (.int .i64 x_Who), .lit (.int .i64 x_At), .lit (.int .i64 x_Seal)])]) ([]) = some (True, dB (servedBy (⟨x_Thing, x_Holder, x_Who, x_At, x_Seal⟩ : THand) (⟨y_Id, y_Who, y_Thing, y_At, y_State⟩ : TClaim)), []) :=
  mkCon_fn c50_inj ((⟨y_Id, y_Who, y_Thing, y_At, y_State⟩, ⟨x_Thing, x_Holder, x_Who, x_At, x_Seal⟩) : TClaim × THand) rfl rfl
theorem c50_pc (y : TClaim) (x : THand) : PCo Tryd.prog 50 ([encTClaim y, .el (encTHand x)]) (Tab.of ([])) (dB (servedBy x y)) (Tab.of ([])) := by
  refine pco_of_run [] (E := ⟨[], [], []⟩) (m := false) (base := 0) Env.ok_nil G_ok mix 300 6 Tryd.func50 (by kernel_rfl) rfl (by kernel_rfl) (by kernel_rfl) rfl ?_
  simp [Tryd.f50]
  simp [servedBy]; first | done | first | rfl | omega | (rw [Bool.eq_iff_iff]; simp; done) | (rw [Bool.eq_iff_iff]; simp; omega) | (rw [Bool.eq_iff_iff]; simp; grind) | grind
theorem c50_ok : c50.ok Tryd.prog := mkCon_ok fun ⟨y, x⟩ hpre => c50_pc y x
/-- slices.IndexFunc[[]loop.example/g03007/impl.Clai -/
noncomputable def c67 : Con := mkCon 67 false (α := (List TClaim) × THand) (fun x => (fun (l : List TClaim) (x : THand) => ([encLTClaim l, .fn (.func 50) [] [.el (encTHand x)]] : List D)) x.1 x.2) (fun x => (fun (l : List TClaim) (x : THand) => ([] : List (Nm × OO))) x.1 x.2) (fun x => (fun (l : List TClaim) (x : THand) => l.length ≤ 1099511627776) x.1 x.2) (fun x => (fun (l : List TClaim) (x : THand) => (dI (indexBy (servedBy x) 0 l) : D)) x.1 x.2) (fun x => (fun (l : List TClaim) (x : THand) => ([] : List (Nm × OO))) x.1 x.2)
@[simp] theorem c67_f : c67.f = 67 := rfl
@[simp] theorem c67_own : c67.own = false := rfl
theorem c67_inj : ∀ u_ v_ : (List TClaim) × THand, ((fun x => (fun (l : List TClaim) (x : THand) => ([encLTClaim l, .fn (.func 50) [] [.el (encTHand x)]] : List D)) x.1 x.2) u_).map nz = ((fun x => (fun (l : List TClaim) (x : THand) => ([encLTClaim l, .fn (.func 50) [] [.el (encTHand x)]] : List D)) x.1 x.2) v_).map nz → (fun x => (fun (l : List TClaim) (x : THand) => ([] : List (Nm × OO))) x.1 x.2) u_ = (fun x => (fun (l : List TClaim) (x : THand) => ([] : List (Nm × OO))) x.1 x.2) v_ → u_ = v_ := by
  intro u_ v_ h h2_
  obtain ⟨l, ⟨x_Thing, x_Holder, x_Who, x_At, x_Seal⟩⟩ := u_
  obtain ⟨l', ⟨x_Thing', x_Holder', x_Who', x_At', x_Seal'⟩⟩ := v_
  simp [nz_lit, nz1_lit, nz_agg, nz_sl, nz1_sl, nz_sx, nz_el, nz1_el, nz_own, nz1_own, nz_ptr, nz_fn, nz_iface] at h h2_
  first | (simp [h, h2_]; done) | (obtain ⟨h3_, h4_⟩ := List.append_inj h2_ h.1; simp_all; done) | simp_all | grind
@[simp] theorem c67_fn (l : List TClaim) (x_Thing : Int) (x_Holder : Int) (x_Who : Int) (x_At : Int) (x_Seal : Int) : c67.fn ([(.sl false 5 yTClaim (ML encTClaim l)), .fn (.func 50) [] [.el (.agg [.lit (.int .i64 x_Thing), .lit (.int .i64 x_Holder), .lit (.int .i64 x_Who), .lit (.int .i64 x_At), .lit (.int .i64 x_Seal)])]]) ([]) = some (l.length ≤ 1099511627776, dI (indexBy (servedBy (⟨x_Thing, x_Holder, x_Who, x_At, x_Seal⟩ : THand)) 0 l), []) :=
  mkCon_fn c67_inj ((l, ⟨x_Thing, x_Holder, x_Who, x_At, x_Seal⟩) : (List TClaim) × THand) rfl rfl
theorem c67_pc (l : List TClaim) (x : THand) (hpre : l.length ≤ 1099511627776) : PCo Tryd.prog 67 ([encLTClaim l, .fn (.func 50) [] [.el (encTHand x)]]) (Tab.of ([])) (dI (indexBy (servedBy x) 0 l)) (Tab.of ([])) := by
  refine pco_of_run [] (E := ⟨[c50], [], []⟩) (m := false) (base := 0) (Env.ok_cons c50_ok Env.ok_nil) G_ok mix 300 6 Tryd.func67 (by kernel_rfl) rfl (by kernel_rfl) (by kernel_rfl) rfl ?_
  simp [Tryd.f67]
  refine loop_inv (fun p : Nat => p ≤ l.length ∧ indexBy (servedBy x) 0 l = indexBy (servedBy x) p (l.drop p)) (fun p => [(0, encLTClaim l), (1, .fn (.func 50) [] [.el (encTHand x)]), (7, dI l.length), (8, dI p)]) (fun _ => []) 1 (fun p => l.length - p) 0 400 (by simp) (by simp) (by simp) ?_
  intro p ⟨hp, hi⟩
  simp
  refine ⟨fun hlt => ?_, fun hge => ?_⟩
  · rw [indexBy_at (d := default) hlt] at hi
    repeat' (first | omega | refine And.intro ?_ ?_ | intro _)
    all_goals first | exact Again.mk (p + 1) ⟨by omega, by rw [hi]; grind⟩ (by simp) (by first | omega | (simp; omega)) | (rw [hi]; grind)
  · rw [hi, indexBy_end hge]
theorem c67_ok : c67.ok Tryd.prog := mkCon_ok fun ⟨l, x⟩ hpre => c67_pc l x hpre
/-- slices.ContainsFunc[[]loop.example/g03007/impl.Clai -/
noncomputable def c49 : Con := mkCon 49 false (α := (List TClaim) × THand) (fun x => (fun (l : List TClaim) (x : THand) => ([encLTClaim l, .fn (.func 50) [] [.el (encTHand x)]] : List D)) x.1 x.2) (fun x => (fun (l : List TClaim) (x : THand) => ([] : List (Nm × OO))) x.1 x.2) (fun x => (fun (l : List TClaim) (x : THand) => l.length ≤ 1099511627776) x.1 x.2) (fun x => (fun (l : List TClaim) (x : THand) => (dB (l.any (servedBy x)) : D)) x.1 x.2) (fun x => (fun (l : List TClaim) (x : THand) => ([] : List (Nm × OO))) x.1 x.2)
@[simp] theorem c49_f : c49.f = 49 := rfl
@[simp] theorem c49_own : c49.own = false := rfl
theorem c49_inj : ∀ u_ v_ : (List TClaim) × THand, ((fun x => (fun (l : List TClaim) (x : THand) => ([encLTClaim l, .fn (.func 50) [] [.el (encTHand x)]] : List D)) x.1 x.2) u_).map nz = ((fun x => (fun (l : List TClaim) (x : THand) => ([encLTClaim l, .fn (.func 50) [] [.el (encTHand x)]] : List D)) x.1 x.2) v_).map nz → (fun x => (fun (l : List TClaim) (x : THand) => ([] : List (Nm × OO))) x.1 x.2) u_ = (fun x => (fun (l : List TClaim) (x : THand) => ([] : List (Nm × OO))) x.1 x.2) v_ → u_ = v_ := by
  intro u_ v_ h h2_
  obtain ⟨l, ⟨x_Thing, x_Holder, x_Who, x_At, x_Seal⟩⟩ := u_
  obtain ⟨l', ⟨x_Thing', x_Holder', x_Who', x_At', x_Seal'⟩⟩ := v_
  simp [nz_lit, nz1_lit, nz_agg, nz_sl, nz1_sl, nz_sx, nz_el, nz1_el, nz_own, nz1_own, nz_ptr, nz_fn, nz_iface] at h h2_
  first | (simp [h, h2_]; done) | (obtain ⟨h3_, h4_⟩ := List.append_inj h2_ h.1; simp_all; done) | simp_all | grind
@[simp] theorem c49_fn (l : List TClaim) (x_Thing : Int) (x_Holder : Int) (x_Who : Int) (x_At : Int) (x_Seal : Int) : c49.fn ([(.sl false 5 yTClaim (ML encTClaim l)), .fn (.func 50) [] [.el (.agg [.lit (.int .i64 x_Thing), .lit (.int .i64 x_Holder), .lit (.int .i64 x_Who), .lit (.int .i64 x_At), .lit (.int .i64 x_Seal)])]]) ([]) = some (l.length ≤ 1099511627776, dB (l.any (servedBy (⟨x_Thing, x_Holder, x_Who, x_At, x_Seal⟩ : THand))), []) :=
  mkCon_fn c49_inj ((l, ⟨x_Thing, x_Holder, x_Who, x_At, x_Seal⟩) : (List TClaim) × THand) rfl rfl
theorem c49_pc (l : List TClaim) (x : THand) (hpre : l.length ≤ 1099511627776) : PCo Tryd.prog 49 ([encLTClaim l, .fn (.func 50) [] [.el (encTHand x)]]) (Tab.of ([])) (dB (l.any (servedBy x))) (Tab.of ([])) := by
  refine pco_of_run [] (E := ⟨[c67, c50], [], []⟩) (m := false) (base := 0) (Env.ok_cons c67_ok (Env.ok_cons c50_ok Env.ok_nil)) G_ok mix 300 6 Tryd.func49 (by kernel_rfl) rfl (by kernel_rfl) (by kernel_rfl) rfl ?_
  simp [Tryd.f49]
  refine ⟨hpre, ?_⟩
  have := anyIx (w := servedBy x) l 0 (by omega)
  first | done | (rw [Bool.eq_iff_iff]; simpa using this) | simpa using this
theorem c49_ok : c49.ok Tryd.prog := mkCon_ok fun ⟨l, x⟩ hpre => c49_pc l x hpre
/-- (*loop.example/g03007/impl.House).isServed -/
noncomputable def c28 : Con := mkCon 28 false (α := THouse × THand) (fun x => (fun (h : THouse) (x : THand) => ([.el (encTHouse h), encTHand x] : List D)) x.1 x.2) (fun x => (fun (h : THouse) (x : THand) => ([] : List (Nm × OO))) x.1 x.2) (fun x => (fun (h : THouse) (x : THand) => h.Claims.length ≤ 1099511627776) x.1 x.2) (fun x => (fun (h : THouse) (x : THand) => (dB (mServedH h x) : D)) x.1 x.2) (fun x => (fun (h : THouse) (x : THand) => ([] : List (Nm × OO))) x.1 x.2)
@[simp] theorem c28_f : c28.f = 28 := rfl
@[simp] theorem c28_own : c28.own = false := rfl
theorem c28_inj : ∀ u_ v_ : THouse × THand, ((fun x => (fun (h : THouse) (x : THand) => ([.el (encTHouse h), encTHand x] : List D)) x.1 x.2) u_).map nz = ((fun x => (fun (h : THouse) (x : THand) => ([.el (encTHouse h), encTHand x] : List D)) x.1 x.2) v_).map nz → (fun x => (fun (h : THouse) (x : THand) => ([] : List (Nm × OO))) x.1 x.2) u_ = (fun x => (fun (h : THouse) (x : THand) => ([] : List (Nm × OO))) x.1 x.2) v_ → u_ = v_ := by
  intro u_ v_ h h2_
  obtain ⟨⟨h_No, h_Finds, h_Secrets, h_Slots, h_Claims, h_Trials, h_Chain, h_Book, h_Now⟩, ⟨x_Thing, x_Holder, x_Who, x_At, x_Seal⟩⟩ := u_
  obtain ⟨⟨h_No', h_Finds', h_Secrets', h_Slots', h_Claims', h_Trials', h_Chain', h_Book', h_Now'⟩, ⟨x_Thing', x_Holder', x_Who', x_At', x_Seal'⟩⟩ := v_
  simp [nz_lit, nz1_lit, nz_agg, nz_sl, nz1_sl, nz_sx, nz_el, nz1_el, nz_own, nz1_own, nz_ptr, nz_fn, nz_iface] at h h2_
  first | (simp [h, h2_]; done) | (obtain ⟨h3_, h4_⟩ := List.append_inj h2_ h.1; simp_all; done) | simp_all | grind
@[simp] theorem c28_fn (h_No : Int) (h_Finds : List TFind) (h_Secrets : List TSecret) (h_Slots : List TSlot) (h_Claims : List TClaim) (h_Trials : List TTrial) (h_Chain : List THand) (h_Book : List TEntry) (h_Now : Int) (x_Thing : Int) (x_Holder : Int) (x_Who : Int) (x_At : Int) (x_Seal : Int) : c28.fn ([.el (.agg [.lit (.int .i64 h_No), .sl false 8 yTFind (ML encTFind h_Finds), .sl false 3 yTSecret (ML encTSecret h_Secrets), .sl false 3 yTSlot (ML encTSlot h_Slots), .sl false 5 yTClaim (ML encTClaim h_Claims), .sl false 4 yTTrial (ML encTTrial h_Trials), .sl false 5 yTHand (ML encTHand h_Chain), .sl false 4 yTEntry (ML encTEntry h_Book), .lit (.int .i64 h_Now)]), .agg [.lit (.int .i64 x_Thing), .lit (.int .i64 x_Holder), .lit (.int .i64 x_Who), .lit (.int .i64 x_At), .lit (.int .i64 x_Seal)]]) ([]) = some ((⟨h_No, h_Finds, h_Secrets, h_Slots, h_Claims, h_Trials, h_Chain, h_Book, h_Now⟩ : THouse).Claims.length ≤ 1099511627776, dB (mServedH (⟨h_No, h_Finds, h_Secrets, h_Slots, h_Claims, h_Trials, h_Chain, h_Book, h_Now⟩ : THouse) (⟨x_Thing, x_Holder, x_Who, x_At, x_Seal⟩ : THand)), []) :=
  mkCon_fn c28_inj ((⟨h_No, h_Finds, h_Secrets, h_Slots, h_Claims, h_Trials, h_Chain, h_Book, h_Now⟩, ⟨x_Thing, x_Holder, x_Who, x_At, x_Seal⟩) : THouse × THand) rfl rfl
theorem c28_pc (h : THouse) (x : THand) (hpre : h.Claims.length ≤ 1099511627776) : PCo Tryd.prog 28 ([.el (encTHouse h), encTHand x]) (Tab.of ([])) (dB (mServedH h x)) (Tab.of ([])) := by
  refine pco_of_run [] (E := ⟨[c49, c50], [], []⟩) (m := false) (base := 0) (Env.ok_cons c49_ok (Env.ok_cons c50_ok Env.ok_nil)) G_ok mix 300 6 Tryd.func28 (by kernel_rfl) rfl (by kernel_rfl) (by kernel_rfl) rfl ?_
  simp [Tryd.f28]
  simp [mServedH, mClaimed]
  refine ⟨fun _ => hpre, ?_⟩
  rw [Bool.eq_iff_iff]; simp
theorem c28_ok : c28.ok Tryd.prog := mkCon_ok fun ⟨h, x⟩ hpre => c28_pc h x hpre
theorem all_count {α : Type} {w : α → Bool} (l : List α) : decide ((l.countP w : Int) = l.length) = l.all w := by
  rw [Bool.eq_iff_iff, decide_eq_true_eq, List.all_eq_true]
  constructor
  · intro h; exact List.countP_eq_length.1 (by omega)
  · intro h; have := List.countP_eq_length.2 h; omega
/-- loop.example/g03007/spec.l36Claimed -/
noncomputable def c17 : Con := mkCon 17 false (α := THouse × THand) (fun x => (fun (h : THouse) (x : THand) => [encTHouse h, encTHand x]) x.1 x.2) (fun _ => []) (fun x => (fun (h : THouse) (x : THand) => h.Claims.length ≤ 1073741823) x.1 x.2) (fun x => (fun (h : THouse) (x : THand) => (dB (mClaimed h x) : D)) x.1 x.2) (fun x => (fun (h : THouse) (x : THand) => []) x.1 x.2)
@[simp] theorem c17_f : c17.f = 17 := rfl
@[simp] theorem c17_own : c17.own = false := rfl
theorem c17_inj : ∀ u_ v_ : THouse × THand, ((fun x => (fun (h : THouse) (x : THand) => [encTHouse h, encTHand x]) x.1 x.2) u_).map nz = ((fun x => (fun (h : THouse) (x : THand) => [encTHouse h, encTHand x]) x.1 x.2) v_).map nz → u_ = v_ := by
  intro u_ v_ h
  obtain ⟨⟨h_No, h_Finds, h_Secrets, h_Slots, h_Claims, h_Trials, h_Chain, h_Book, h_Now⟩, ⟨x_Thing, x_Holder, x_Who, x_At, x_Seal⟩⟩ := u_
  obtain ⟨⟨h_No', h_Finds', h_Secrets', h_Slots', h_Claims', h_Trials', h_Chain', h_Book', h_Now'⟩, ⟨x_Thing', x_Holder', x_Who', x_At', x_Seal'⟩⟩ := v_
  simp [nz_lit, nz1_lit, nz_agg, nz_sl, nz1_sl, encLTClaim, encLTEntry, encLTFind, encLTHand, encLTSecret, encLTSlot, encLTTrial, encTHand, encTHouse] at h
  first | (simp [h]; done) | (obtain ⟨⟩ := h; simp_all; done) | simp_all
@[simp] theorem c17_fn (h_No : Int) (h_Finds : List TFind) (h_Secrets : List TSecret) (h_Slots : List TSlot) (h_Claims : List TClaim) (h_Trials : List TTrial) (h_Chain : List THand) (h_Book : List TEntry) (h_Now : Int) (x_Thing : Int) (x_Holder : Int) (x_Who : Int) (x_At : Int) (x_Seal : Int) : c17.fn [.agg [.lit (.int .i64 h_No), .sl false 8 yTFind (ML encTFind h_Finds), .sl false 3 yTSecret (ML encTSecret h_Secrets), .sl false 3 yTSlot (ML encTSlot h_Slots), .sl false 5 yTClaim (ML encTClaim h_Claims), .sl false 4 yTTrial (ML encTTrial h_Trials), .sl false 5 yTHand (ML encTHand h_Chain), .sl false 4 yTEntry (ML encTEntry h_Book), .lit (.int .i64 h_Now)], .agg [.lit (.int .i64 x_Thing), .lit (.int .i64 x_Holder), .lit (.int .i64 x_Who), .lit (.int .i64 x_At), .lit (.int .i64 x_Seal)]] [] = some ((fun (h : THouse) (x : THand) => h.Claims.length ≤ 1073741823) ⟨h_No, h_Finds, h_Secrets, h_Slots, h_Claims, h_Trials, h_Chain, h_Book, h_Now⟩ ⟨x_Thing, x_Holder, x_Who, x_At, x_Seal⟩, (fun (h : THouse) (x : THand) => (dB (mClaimed h x) : D)) ⟨h_No, h_Finds, h_Secrets, h_Slots, h_Claims, h_Trials, h_Chain, h_Book, h_Now⟩ ⟨x_Thing, x_Holder, x_Who, x_At, x_Seal⟩, (fun (h : THouse) (x : THand) => []) ⟨h_No, h_Finds, h_Secrets, h_Slots, h_Claims, h_Trials, h_Chain, h_Book, h_Now⟩ ⟨x_Thing, x_Holder, x_Who, x_At, x_Seal⟩) :=
  mkCon_fn (fun x y h _ => c17_inj x y h) ((⟨h_No, h_Finds, h_Secrets, h_Slots, h_Claims, h_Trials, h_Chain, h_Book, h_Now⟩, ⟨x_Thing, x_Holder, x_Who, x_At, x_Seal⟩) : THouse × THand) (by simp [nz, nz1, ML_nil, encLTClaim, encLTEntry, encLTFind, encLTHand, encLTSecret, encLTSlot, encLTTrial, encTHand, encTHouse]) rfl
theorem c17_pc (h : THouse) (x : THand) (hpre : h.Claims.length ≤ 1073741823) : PCo Tryd.prog 17 [encTHouse h, encTHand x] (Tab.of []) (dB (mClaimed h x)) (Tab.of []) := by
  refine pco_of_run [] (E := ⟨[], [], []⟩) (m := false) (base := 0) Env.ok_nil G_ok mix 300 6 Tryd.func17 (by kernel_rfl) rfl (by kernel_rfl) (by kernel_rfl) rfl ?_
  simp [Tryd.f17]
  refine loop_inv (fun p : Nat => p ≤ h.Claims.length ∧ mClaimed h x = (h.Claims.drop p).any (servedBy x)) (fun p => [(2, .ptr (0, 1) 0), (3, .ptr (1, 1) 0), (5, dI p)]) (fun p => [((0, 1), .box (encTHouse h)), ((1, 1), .box (encTHand x))]) 2 (fun p => h.Claims.length - p) 0 400 (by simp) (by simp [mClaimed]) (by simp) ?_
  intro p ⟨hp, hi⟩
  simp
  refine ⟨fun hlt => ?_, fun hge => ?_⟩
  · rw [any_at (d := default) hlt] at hi
    have hsb : servedBy x (h.Claims[p]?.getD default) = (decide ((h.Claims[p]?.getD default).State = 3) && decide ((h.Claims[p]?.getD default).Thing = x.Thing) && decide ((h.Claims[p]?.getD default).Who = x.Who)) := rfl
    cases hv : servedBy x (h.Claims[p]?.getD default) with
    | true =>
      rw [hv] at hi hsb
      simp at hi hsb
      simp [hsb, hi]
      try omega
      try trace_state
    | false =>
      rw [hv] at hi hsb
      simp only [Bool.false_or] at hi
      have hno : ¬ ((h.Claims[p]?.getD default).State = 3 ∧ (h.Claims[p]?.getD default).Thing = x.Thing ∧ (h.Claims[p]?.getD default).Who = x.Who) := by
        rintro ⟨e1, e2, e3⟩; rw [e1, e2, e3] at hsb; simp at hsb
      repeat' (first | omega | refine And.intro ?_ ?_ | intro _)
      all_goals first | (exfalso; exact hno ⟨by assumption, by assumption, by assumption⟩) | exact Again.mk (p + 1) ⟨by omega, hi⟩ (by simp) (by first | omega | (simp; omega)) | trace_state
  · rw [any_end hge] at hi
    rw [hi]
theorem c17_ok : c17.ok Tryd.prog := mkCon_ok fun ⟨h, x⟩ hpre => c17_pc h x hpre
end Go.Proofs.YtfmbfemojnohcaaDoor
