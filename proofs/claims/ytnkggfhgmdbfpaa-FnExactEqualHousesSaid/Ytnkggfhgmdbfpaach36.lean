/- Contracts of the functions that the laws run. -/
import Derived.Test.Ytnkggfhgmdbfpaach33a
import Derived.Test.YtnkggfhgmdbfpaaEngB
namespace Go.Proofs.Ytnkggfhgmdbfpaa
open Go Go.Eng
set_option linter.unusedSimpArgs false
set_option linter.unusedVariables false
set_option maxRecDepth 10000
set_option maxHeartbeats 1000000
theorem wfH_len {h : THouse} (w : wfTHouse h) : smHM h := by
  obtain ⟨_, w1, w2, w3, w4, w5, w6, w7, _⟩ := w
  exact ⟨w1.1, ⟨w2.1, fun x hx => wfS_len (w2.2 x hx)⟩, w3.1, w4.1, w5.1, w6.1, w7.1⟩
def servedBy (x : THand) (y : TClaim) : Bool := decide (y.State = 3) && decide (y.Thing = x.Thing) && decide (y.Who = x.Who)
def mClaimed (h : THouse) (x : THand) : Bool := h.Claims.any (servedBy x)
def mServedH (h : THouse) (x : THand) : Bool := decide (x.Holder = 3) && mClaimed h x
def mFindersH (h : THouse) (x : THand) : Bool := decide (0 ≤ mFindThing h.Finds x.Thing) && decide ((h.Finds[(mFindThing h.Finds x.Thing).toNat]?.getD default).Finder = x.Who)
def mOwnerOk (h : THouse) (x : THand) : Bool := !decide (x.Holder = 3) || mServedH h x || mFindersH h x
def mOwners (h : THouse) : Bool := h.Chain.all (mOwnerOk h)
theorem anyIx {α : Type} {w : α → Bool} : ∀ (l : List α) (i : Int), 0 ≤ i → (0 ≤ indexBy w i l ↔ l.any w = true)
  | [], i, _ => by simp [indexBy]
  | x :: r, i, hi => by
    simp only [indexBy, List.any_cons, Bool.or_eq_true]
    by_cases h : w x = true
    · simp [h, hi]
    · simp only [h, if_false, false_or, Bool.false_eq_true]; exact anyIx r (i + 1) (by omega)
/-- (*loop.example/g03007/impl.House).isServed$1 -/
noncomputable def c240 : Con := mkCon 240 false (α := TClaim × THand) (fun x => (fun (y : TClaim) (x : THand) => ([encTClaim y, .el (encTHand x)] : List D)) x.1 x.2) (fun x => (fun (y : TClaim) (x : THand) => ([] : List (Nm × OO))) x.1 x.2) (fun x => (fun (y : TClaim) (x : THand) => True) x.1 x.2) (fun x => (fun (y : TClaim) (x : THand) => (dB (servedBy x y) : D)) x.1 x.2) (fun x => (fun (y : TClaim) (x : THand) => ([] : List (Nm × OO))) x.1 x.2)
@[simp] theorem c240_f : c240.f = 240 := rfl
@[simp] theorem c240_own : c240.own = false := rfl
theorem c240_inj : ∀ u_ v_ : TClaim × THand, ((fun x => (fun (y : TClaim) (x : THand) => ([encTClaim y, .el (encTHand x)] : List D)) x.1 x.2) u_).map nz = ((fun x => (fun (y : TClaim) (x : THand) => ([encTClaim y, .el (encTHand x)] : List D)) x.1 x.2) v_).map nz → (fun x => (fun (y : TClaim) (x : THand) => ([] : List (Nm × OO))) x.1 x.2) u_ = (fun x => (fun (y : TClaim) (x : THand) => ([] : List (Nm × OO))) x.1 x.2) v_ → u_ = v_ := by
  intro u_ v_ h h2_
  obtain ⟨⟨y_Id, y_Who, y_Thing, y_At, y_State⟩, ⟨x_Thing, x_Holder, x_Who, x_At, x_Seal⟩⟩ := u_
  obtain ⟨⟨y_Id', y_Who', y_Thing', y_At', y_State'⟩, ⟨x_Thing', x_Holder', x_Who', x_At', x_Seal'⟩⟩ := v_
  simp [nz_lit, nz1_lit, nz_agg, nz_sl, nz1_sl, nz_sx, nz_el, nz1_el, nz_own, nz1_own, nz_ptr, nz_fn, nz_iface] at h h2_
  first | (simp [h, h2_]; done) | (obtain ⟨h3_, h4_⟩ := List.append_inj h2_ h.1; simp_all; done) | simp_all | grind
@[simp] theorem c240_fn (y_Id : Int) (y_Who : Int) (y_Thing : Int) (y_At : Int) (y_State : Int) (x_Thing : Int) (x_Holder : Int) (x_Who : Int) (x_At : Int) (x_Seal : Int) : c240.fn ([.agg [.lit (.int .i64 y_Id), .lit (.int .i64 y_Who), .lit (.int .i64 y_Thing), .lit (.int .i64 y_At), .lit (.int .i64 y_State)], .el (.agg [.lit (.int .i64 x_Thing), .lit (.int .i64 x_Holder), .lit (.int .i64 x_Who), .lit (.int .i64 x_At), .lit (.int .i64 x_Seal)])]) ([]) = some (True, dB (servedBy (⟨x_Thing, x_Holder, x_Who, x_At, x_Seal⟩ : THand) (⟨y_Id, y_Who, y_Thing, y_At, y_State⟩ : TClaim)), []) :=
  mkCon_fn c240_inj ((⟨y_Id, y_Who, y_Thing, y_At, y_State⟩, ⟨x_Thing, x_Holder, x_Who, x_At, x_Seal⟩) : TClaim × THand) rfl rfl
theorem c240_pc (y : TClaim) (x : THand) : PCo Try.prog 240 ([encTClaim y, .el (encTHand x)]) (Tab.of ([])) (dB (servedBy x y)) (Tab.of ([])) := by
  refine pco_of_run [] (E := ⟨[], []⟩) (m := false) (base := 0) Env.ok_nil G_ok mix 300 6 Try.func240 (by kernel_rfl) rfl (by kernel_rfl) (by kernel_rfl) rfl ?_
  simp [Try.f240]
  simp [servedBy]; first | done | first | rfl | omega | (rw [Bool.eq_iff_iff]; simp; done) | (rw [Bool.eq_iff_iff]; simp; omega) | (rw [Bool.eq_iff_iff]; simp; grind) | grind
theorem c240_ok : c240.ok Try.prog := mkCon_ok fun ⟨y, x⟩ hpre => c240_pc y x
/-- slices.IndexFunc[[]loop.example/g03007/impl.Clai -/
noncomputable def c262 : Con := mkCon 262 false (α := (List TClaim) × THand) (fun x => (fun (l : List TClaim) (x : THand) => ([encLTClaim l, .fn (.func 240) [] [.el (encTHand x)]] : List D)) x.1 x.2) (fun x => (fun (l : List TClaim) (x : THand) => ([] : List (Nm × OO))) x.1 x.2) (fun x => (fun (l : List TClaim) (x : THand) => l.length ≤ 1099511627776) x.1 x.2) (fun x => (fun (l : List TClaim) (x : THand) => (dI (indexBy (servedBy x) 0 l) : D)) x.1 x.2) (fun x => (fun (l : List TClaim) (x : THand) => ([] : List (Nm × OO))) x.1 x.2)
@[simp] theorem c262_f : c262.f = 262 := rfl
@[simp] theorem c262_own : c262.own = false := rfl
theorem c262_inj : ∀ u_ v_ : (List TClaim) × THand, ((fun x => (fun (l : List TClaim) (x : THand) => ([encLTClaim l, .fn (.func 240) [] [.el (encTHand x)]] : List D)) x.1 x.2) u_).map nz = ((fun x => (fun (l : List TClaim) (x : THand) => ([encLTClaim l, .fn (.func 240) [] [.el (encTHand x)]] : List D)) x.1 x.2) v_).map nz → (fun x => (fun (l : List TClaim) (x : THand) => ([] : List (Nm × OO))) x.1 x.2) u_ = (fun x => (fun (l : List TClaim) (x : THand) => ([] : List (Nm × OO))) x.1 x.2) v_ → u_ = v_ := by
  intro u_ v_ h h2_
  obtain ⟨l, ⟨x_Thing, x_Holder, x_Who, x_At, x_Seal⟩⟩ := u_
  obtain ⟨l', ⟨x_Thing', x_Holder', x_Who', x_At', x_Seal'⟩⟩ := v_
  simp [nz_lit, nz1_lit, nz_agg, nz_sl, nz1_sl, nz_sx, nz_el, nz1_el, nz_own, nz1_own, nz_ptr, nz_fn, nz_iface] at h h2_
  first | (simp [h, h2_]; done) | (obtain ⟨h3_, h4_⟩ := List.append_inj h2_ h.1; simp_all; done) | simp_all | grind
@[simp] theorem c262_fn (l : List TClaim) (x_Thing : Int) (x_Holder : Int) (x_Who : Int) (x_At : Int) (x_Seal : Int) : c262.fn ([(.sl false 5 yTClaim (ML encTClaim l)), .fn (.func 240) [] [.el (.agg [.lit (.int .i64 x_Thing), .lit (.int .i64 x_Holder), .lit (.int .i64 x_Who), .lit (.int .i64 x_At), .lit (.int .i64 x_Seal)])]]) ([]) = some (l.length ≤ 1099511627776, dI (indexBy (servedBy (⟨x_Thing, x_Holder, x_Who, x_At, x_Seal⟩ : THand)) 0 l), []) :=
  mkCon_fn c262_inj ((l, ⟨x_Thing, x_Holder, x_Who, x_At, x_Seal⟩) : (List TClaim) × THand) rfl rfl
theorem c262_pc (l : List TClaim) (x : THand) (hpre : l.length ≤ 1099511627776) : PCo Try.prog 262 ([encLTClaim l, .fn (.func 240) [] [.el (encTHand x)]]) (Tab.of ([])) (dI (indexBy (servedBy x) 0 l)) (Tab.of ([])) := by
  refine pco_of_run [] (E := ⟨[c240], []⟩) (m := false) (base := 0) (Env.ok_cons c240_ok Env.ok_nil) G_ok mix 300 6 Try.func262 (by kernel_rfl) rfl (by kernel_rfl) (by kernel_rfl) rfl ?_
  simp [Try.f262]
  refine loop_inv (fun p : Nat => p ≤ l.length ∧ indexBy (servedBy x) 0 l = indexBy (servedBy x) p (l.drop p)) (fun p => [(0, encLTClaim l), (1, .fn (.func 240) [] [.el (encTHand x)]), (7, dI l.length), (8, dI p)]) (fun _ => []) 1 (fun p => l.length - p) 0 400 (by simp) (by simp) (by simp) ?_
  intro p ⟨hp, hi⟩
  simp
  refine ⟨fun hlt => ?_, fun hge => ?_⟩
  · rw [indexBy_at (d := default) hlt] at hi
    repeat' (first | omega | refine And.intro ?_ ?_ | intro _)
    all_goals first | exact Again.mk (p + 1) ⟨by omega, by rw [hi]; grind⟩ (by simp) (by first | omega | (simp; omega)) | (rw [hi]; grind)
  · rw [hi, indexBy_end hge]
theorem c262_ok : c262.ok Try.prog := mkCon_ok fun ⟨l, x⟩ hpre => c262_pc l x hpre
/-- slices.ContainsFunc[[]loop.example/g03007/impl.Clai -/
noncomputable def c239 : Con := mkCon 239 false (α := (List TClaim) × THand) (fun x => (fun (l : List TClaim) (x : THand) => ([encLTClaim l, .fn (.func 240) [] [.el (encTHand x)]] : List D)) x.1 x.2) (fun x => (fun (l : List TClaim) (x : THand) => ([] : List (Nm × OO))) x.1 x.2) (fun x => (fun (l : List TClaim) (x : THand) => l.length ≤ 1099511627776) x.1 x.2) (fun x => (fun (l : List TClaim) (x : THand) => (dB (l.any (servedBy x)) : D)) x.1 x.2) (fun x => (fun (l : List TClaim) (x : THand) => ([] : List (Nm × OO))) x.1 x.2)
@[simp] theorem c239_f : c239.f = 239 := rfl
@[simp] theorem c239_own : c239.own = false := rfl
theorem c239_inj : ∀ u_ v_ : (List TClaim) × THand, ((fun x => (fun (l : List TClaim) (x : THand) => ([encLTClaim l, .fn (.func 240) [] [.el (encTHand x)]] : List D)) x.1 x.2) u_).map nz = ((fun x => (fun (l : List TClaim) (x : THand) => ([encLTClaim l, .fn (.func 240) [] [.el (encTHand x)]] : List D)) x.1 x.2) v_).map nz → (fun x => (fun (l : List TClaim) (x : THand) => ([] : List (Nm × OO))) x.1 x.2) u_ = (fun x => (fun (l : List TClaim) (x : THand) => ([] : List (Nm × OO))) x.1 x.2) v_ → u_ = v_ := by
  intro u_ v_ h h2_
  obtain ⟨l, ⟨x_Thing, x_Holder, x_Who, x_At, x_Seal⟩⟩ := u_
  obtain ⟨l', ⟨x_Thing', x_Holder', x_Who', x_At', x_Seal'⟩⟩ := v_
  simp [nz_lit, nz1_lit, nz_agg, nz_sl, nz1_sl, nz_sx, nz_el, nz1_el, nz_own, nz1_own, nz_ptr, nz_fn, nz_iface] at h h2_
  first | (simp [h, h2_]; done) | (obtain ⟨h3_, h4_⟩ := List.append_inj h2_ h.1; simp_all; done) | simp_all | grind
@[simp] theorem c239_fn (l : List TClaim) (x_Thing : Int) (x_Holder : Int) (x_Who : Int) (x_At : Int) (x_Seal : Int) : c239.fn ([(.sl false 5 yTClaim (ML encTClaim l)), .fn (.func 240) [] [.el (.agg [.lit (.int .i64 x_Thing), .lit (.int .i64 x_Holder), .lit (.int .i64 x_Who), .lit (.int .i64 x_At), .lit (.int .i64 x_Seal)])]]) ([]) = some (l.length ≤ 1099511627776, dB (l.any (servedBy (⟨x_Thing, x_Holder, x_Who, x_At, x_Seal⟩ : THand))), []) :=
  mkCon_fn c239_inj ((l, ⟨x_Thing, x_Holder, x_Who, x_At, x_Seal⟩) : (List TClaim) × THand) rfl rfl
theorem c239_pc (l : List TClaim) (x : THand) (hpre : l.length ≤ 1099511627776) : PCo Try.prog 239 ([encLTClaim l, .fn (.func 240) [] [.el (encTHand x)]]) (Tab.of ([])) (dB (l.any (servedBy x))) (Tab.of ([])) := by
  refine pco_of_run [] (E := ⟨[c262, c240], []⟩) (m := false) (base := 0) (Env.ok_cons c262_ok (Env.ok_cons c240_ok Env.ok_nil)) G_ok mix 300 6 Try.func239 (by kernel_rfl) rfl (by kernel_rfl) (by kernel_rfl) rfl ?_
  simp [Try.f239]
  refine ⟨hpre, ?_⟩
  have := anyIx (w := servedBy x) l 0 (by omega)
  first | done | (rw [Bool.eq_iff_iff]; simpa using this) | simpa using this
theorem c239_ok : c239.ok Try.prog := mkCon_ok fun ⟨l, x⟩ hpre => c239_pc l x hpre
/-- (*loop.example/g03007/impl.House).isServed -/
noncomputable def c183 : Con := mkCon 183 false (α := THouse × THand) (fun x => (fun (h : THouse) (x : THand) => ([.el (encTHouse h), encTHand x] : List D)) x.1 x.2) (fun x => (fun (h : THouse) (x : THand) => ([] : List (Nm × OO))) x.1 x.2) (fun x => (fun (h : THouse) (x : THand) => h.Claims.length ≤ 1099511627776) x.1 x.2) (fun x => (fun (h : THouse) (x : THand) => (dB (mServedH h x) : D)) x.1 x.2) (fun x => (fun (h : THouse) (x : THand) => ([] : List (Nm × OO))) x.1 x.2)
@[simp] theorem c183_f : c183.f = 183 := rfl
@[simp] theorem c183_own : c183.own = false := rfl
theorem c183_inj : ∀ u_ v_ : THouse × THand, ((fun x => (fun (h : THouse) (x : THand) => ([.el (encTHouse h), encTHand x] : List D)) x.1 x.2) u_).map nz = ((fun x => (fun (h : THouse) (x : THand) => ([.el (encTHouse h), encTHand x] : List D)) x.1 x.2) v_).map nz → (fun x => (fun (h : THouse) (x : THand) => ([] : List (Nm × OO))) x.1 x.2) u_ = (fun x => (fun (h : THouse) (x : THand) => ([] : List (Nm × OO))) x.1 x.2) v_ → u_ = v_ := by
  intro u_ v_ h h2_
  obtain ⟨⟨h_No, h_Finds, h_Secrets, h_Slots, h_Claims, h_Trials, h_Chain, h_Book, h_Now⟩, ⟨x_Thing, x_Holder, x_Who, x_At, x_Seal⟩⟩ := u_
  obtain ⟨⟨h_No', h_Finds', h_Secrets', h_Slots', h_Claims', h_Trials', h_Chain', h_Book', h_Now'⟩, ⟨x_Thing', x_Holder', x_Who', x_At', x_Seal'⟩⟩ := v_
  simp [nz_lit, nz1_lit, nz_agg, nz_sl, nz1_sl, nz_sx, nz_el, nz1_el, nz_own, nz1_own, nz_ptr, nz_fn, nz_iface] at h h2_
  first | (simp [h, h2_]; done) | (obtain ⟨h3_, h4_⟩ := List.append_inj h2_ h.1; simp_all; done) | simp_all | grind
@[simp] theorem c183_fn (h_No : Int) (h_Finds : List TFind) (h_Secrets : List TSecret) (h_Slots : List TSlot) (h_Claims : List TClaim) (h_Trials : List TTrial) (h_Chain : List THand) (h_Book : List TEntry) (h_Now : Int) (x_Thing : Int) (x_Holder : Int) (x_Who : Int) (x_At : Int) (x_Seal : Int) : c183.fn ([.el (.agg [.lit (.int .i64 h_No), .sl false 8 yTFind (ML encTFind h_Finds), .sl false 3 yTSecret (ML encTSecret h_Secrets), .sl false 3 yTSlot (ML encTSlot h_Slots), .sl false 5 yTClaim (ML encTClaim h_Claims), .sl false 4 yTTrial (ML encTTrial h_Trials), .sl false 5 yTHand (ML encTHand h_Chain), .sl false 4 yTEntry (ML encTEntry h_Book), .lit (.int .i64 h_Now)]), .agg [.lit (.int .i64 x_Thing), .lit (.int .i64 x_Holder), .lit (.int .i64 x_Who), .lit (.int .i64 x_At), .lit (.int .i64 x_Seal)]]) ([]) = some ((⟨h_No, h_Finds, h_Secrets, h_Slots, h_Claims, h_Trials, h_Chain, h_Book, h_Now⟩ : THouse).Claims.length ≤ 1099511627776, dB (mServedH (⟨h_No, h_Finds, h_Secrets, h_Slots, h_Claims, h_Trials, h_Chain, h_Book, h_Now⟩ : THouse) (⟨x_Thing, x_Holder, x_Who, x_At, x_Seal⟩ : THand)), []) :=
  mkCon_fn c183_inj ((⟨h_No, h_Finds, h_Secrets, h_Slots, h_Claims, h_Trials, h_Chain, h_Book, h_Now⟩, ⟨x_Thing, x_Holder, x_Who, x_At, x_Seal⟩) : THouse × THand) rfl rfl
theorem c183_pc (h : THouse) (x : THand) (hpre : h.Claims.length ≤ 1099511627776) : PCo Try.prog 183 ([.el (encTHouse h), encTHand x]) (Tab.of ([])) (dB (mServedH h x)) (Tab.of ([])) := by
  refine pco_of_run [] (E := ⟨[c239, c240], []⟩) (m := false) (base := 0) (Env.ok_cons c239_ok (Env.ok_cons c240_ok Env.ok_nil)) G_ok mix 300 6 Try.func183 (by kernel_rfl) rfl (by kernel_rfl) (by kernel_rfl) rfl ?_
  simp [Try.f183]
  simp [mServedH, mClaimed]
  refine ⟨fun _ => hpre, ?_⟩
  rw [Bool.eq_iff_iff]; simp
theorem c183_ok : c183.ok Try.prog := mkCon_ok fun ⟨h, x⟩ hpre => c183_pc h x hpre
/-- (*loop.example/g03007/impl.House).isFinders -/
noncomputable def c184 : Con := mkCon 184 false (α := THouse × THand) (fun x => (fun (h : THouse) (x : THand) => ([.el (encTHouse h), encTHand x] : List D)) x.1 x.2) (fun x => (fun (h : THouse) (x : THand) => ([] : List (Nm × OO))) x.1 x.2) (fun x => (fun (h : THouse) (x : THand) => h.Finds.length ≤ 1073741823) x.1 x.2) (fun x => (fun (h : THouse) (x : THand) => (dB (mFindersH h x) : D)) x.1 x.2) (fun x => (fun (h : THouse) (x : THand) => ([] : List (Nm × OO))) x.1 x.2)
@[simp] theorem c184_f : c184.f = 184 := rfl
@[simp] theorem c184_own : c184.own = false := rfl
theorem c184_inj : ∀ u_ v_ : THouse × THand, ((fun x => (fun (h : THouse) (x : THand) => ([.el (encTHouse h), encTHand x] : List D)) x.1 x.2) u_).map nz = ((fun x => (fun (h : THouse) (x : THand) => ([.el (encTHouse h), encTHand x] : List D)) x.1 x.2) v_).map nz → (fun x => (fun (h : THouse) (x : THand) => ([] : List (Nm × OO))) x.1 x.2) u_ = (fun x => (fun (h : THouse) (x : THand) => ([] : List (Nm × OO))) x.1 x.2) v_ → u_ = v_ := by
  intro u_ v_ h h2_
  obtain ⟨⟨h_No, h_Finds, h_Secrets, h_Slots, h_Claims, h_Trials, h_Chain, h_Book, h_Now⟩, ⟨x_Thing, x_Holder, x_Who, x_At, x_Seal⟩⟩ := u_
  obtain ⟨⟨h_No', h_Finds', h_Secrets', h_Slots', h_Claims', h_Trials', h_Chain', h_Book', h_Now'⟩, ⟨x_Thing', x_Holder', x_Who', x_At', x_Seal'⟩⟩ := v_
  simp [nz_lit, nz1_lit, nz_agg, nz_sl, nz1_sl, nz_sx, nz_el, nz1_el, nz_own, nz1_own, nz_ptr, nz_fn, nz_iface] at h h2_
  first | (simp [h, h2_]; done) | (obtain ⟨h3_, h4_⟩ := List.append_inj h2_ h.1; simp_all; done) | simp_all | grind
@[simp] theorem c184_fn (h_No : Int) (h_Finds : List TFind) (h_Secrets : List TSecret) (h_Slots : List TSlot) (h_Claims : List TClaim) (h_Trials : List TTrial) (h_Chain : List THand) (h_Book : List TEntry) (h_Now : Int) (x_Thing : Int) (x_Holder : Int) (x_Who : Int) (x_At : Int) (x_Seal : Int) : c184.fn ([.el (.agg [.lit (.int .i64 h_No), .sl false 8 yTFind (ML encTFind h_Finds), .sl false 3 yTSecret (ML encTSecret h_Secrets), .sl false 3 yTSlot (ML encTSlot h_Slots), .sl false 5 yTClaim (ML encTClaim h_Claims), .sl false 4 yTTrial (ML encTTrial h_Trials), .sl false 5 yTHand (ML encTHand h_Chain), .sl false 4 yTEntry (ML encTEntry h_Book), .lit (.int .i64 h_Now)]), .agg [.lit (.int .i64 x_Thing), .lit (.int .i64 x_Holder), .lit (.int .i64 x_Who), .lit (.int .i64 x_At), .lit (.int .i64 x_Seal)]]) ([]) = some ((⟨h_No, h_Finds, h_Secrets, h_Slots, h_Claims, h_Trials, h_Chain, h_Book, h_Now⟩ : THouse).Finds.length ≤ 1073741823, dB (mFindersH (⟨h_No, h_Finds, h_Secrets, h_Slots, h_Claims, h_Trials, h_Chain, h_Book, h_Now⟩ : THouse) (⟨x_Thing, x_Holder, x_Who, x_At, x_Seal⟩ : THand)), []) :=
  mkCon_fn c184_inj ((⟨h_No, h_Finds, h_Secrets, h_Slots, h_Claims, h_Trials, h_Chain, h_Book, h_Now⟩, ⟨x_Thing, x_Holder, x_Who, x_At, x_Seal⟩) : THouse × THand) rfl rfl
theorem c184_pc (h : THouse) (x : THand) (hpre : h.Finds.length ≤ 1073741823) : PCo Try.prog 184 ([.el (encTHouse h), encTHand x]) (Tab.of ([])) (dB (mFindersH h x)) (Tab.of ([])) := by
  refine pco_of_run [] (E := ⟨[c241], []⟩) (m := false) (base := 0) (Env.ok_cons c241_ok Env.ok_nil) G_ok mix 300 6 Try.func184 (by kernel_rfl) rfl (by kernel_rfl) (by kernel_rfl) rfl ?_
  simp [Try.f184]
  have hb := indexBy_bd (want := wantN nFind x.Thing) h.Finds 0
  simp [mFindersH, mFindThing] at hb ⊢
  refine ⟨by omega, fun h => by omega, ?_⟩
  congr 1
theorem c184_ok : c184.ok Try.prog := mkCon_ok fun ⟨h, x⟩ hpre => c184_pc h x hpre
/-- loop.example/g03007/impl.AreOwners$1 -/
noncomputable def c182 : Con := mkCon 182 false (α := THand × THouse) (fun x => (fun (x : THand) (h : THouse) => ([encTHand x, .el (encTHouse h)] : List D)) x.1 x.2) (fun x => (fun (x : THand) (h : THouse) => ([] : List (Nm × OO))) x.1 x.2) (fun x => (fun (x : THand) (h : THouse) => h.Claims.length ≤ 1073741823 ∧ h.Finds.length ≤ 1073741823) x.1 x.2) (fun x => (fun (x : THand) (h : THouse) => (dB (mOwnerOk h x) : D)) x.1 x.2) (fun x => (fun (x : THand) (h : THouse) => ([] : List (Nm × OO))) x.1 x.2)
@[simp] theorem c182_f : c182.f = 182 := rfl
@[simp] theorem c182_own : c182.own = false := rfl
theorem c182_inj : ∀ u_ v_ : THand × THouse, ((fun x => (fun (x : THand) (h : THouse) => ([encTHand x, .el (encTHouse h)] : List D)) x.1 x.2) u_).map nz = ((fun x => (fun (x : THand) (h : THouse) => ([encTHand x, .el (encTHouse h)] : List D)) x.1 x.2) v_).map nz → (fun x => (fun (x : THand) (h : THouse) => ([] : List (Nm × OO))) x.1 x.2) u_ = (fun x => (fun (x : THand) (h : THouse) => ([] : List (Nm × OO))) x.1 x.2) v_ → u_ = v_ := by
  intro u_ v_ h h2_
  obtain ⟨⟨x_Thing, x_Holder, x_Who, x_At, x_Seal⟩, ⟨h_No, h_Finds, h_Secrets, h_Slots, h_Claims, h_Trials, h_Chain, h_Book, h_Now⟩⟩ := u_
  obtain ⟨⟨x_Thing', x_Holder', x_Who', x_At', x_Seal'⟩, ⟨h_No', h_Finds', h_Secrets', h_Slots', h_Claims', h_Trials', h_Chain', h_Book', h_Now'⟩⟩ := v_
  simp [nz_lit, nz1_lit, nz_agg, nz_sl, nz1_sl, nz_sx, nz_el, nz1_el, nz_own, nz1_own, nz_ptr, nz_fn, nz_iface] at h h2_
  first | (simp [h, h2_]; done) | (obtain ⟨h3_, h4_⟩ := List.append_inj h2_ h.1; simp_all; done) | simp_all | grind
@[simp] theorem c182_fn (x_Thing : Int) (x_Holder : Int) (x_Who : Int) (x_At : Int) (x_Seal : Int) (h_No : Int) (h_Finds : List TFind) (h_Secrets : List TSecret) (h_Slots : List TSlot) (h_Claims : List TClaim) (h_Trials : List TTrial) (h_Chain : List THand) (h_Book : List TEntry) (h_Now : Int) : c182.fn ([.agg [.lit (.int .i64 x_Thing), .lit (.int .i64 x_Holder), .lit (.int .i64 x_Who), .lit (.int .i64 x_At), .lit (.int .i64 x_Seal)], .el (.agg [.lit (.int .i64 h_No), .sl false 8 yTFind (ML encTFind h_Finds), .sl false 3 yTSecret (ML encTSecret h_Secrets), .sl false 3 yTSlot (ML encTSlot h_Slots), .sl false 5 yTClaim (ML encTClaim h_Claims), .sl false 4 yTTrial (ML encTTrial h_Trials), .sl false 5 yTHand (ML encTHand h_Chain), .sl false 4 yTEntry (ML encTEntry h_Book), .lit (.int .i64 h_Now)])]) ([]) = some ((⟨h_No, h_Finds, h_Secrets, h_Slots, h_Claims, h_Trials, h_Chain, h_Book, h_Now⟩ : THouse).Claims.length ≤ 1073741823 ∧ (⟨h_No, h_Finds, h_Secrets, h_Slots, h_Claims, h_Trials, h_Chain, h_Book, h_Now⟩ : THouse).Finds.length ≤ 1073741823, dB (mOwnerOk (⟨h_No, h_Finds, h_Secrets, h_Slots, h_Claims, h_Trials, h_Chain, h_Book, h_Now⟩ : THouse) (⟨x_Thing, x_Holder, x_Who, x_At, x_Seal⟩ : THand)), []) :=
  mkCon_fn c182_inj ((⟨x_Thing, x_Holder, x_Who, x_At, x_Seal⟩, ⟨h_No, h_Finds, h_Secrets, h_Slots, h_Claims, h_Trials, h_Chain, h_Book, h_Now⟩) : THand × THouse) rfl rfl
theorem c182_pc (x : THand) (h : THouse) (hpre : h.Claims.length ≤ 1073741823 ∧ h.Finds.length ≤ 1073741823) : PCo Try.prog 182 ([encTHand x, .el (encTHouse h)]) (Tab.of ([])) (dB (mOwnerOk h x)) (Tab.of ([])) := by
  refine pco_of_run [] (E := ⟨[c183, c184], []⟩) (m := false) (base := 0) (Env.ok_cons c183_ok (Env.ok_cons c184_ok Env.ok_nil)) G_ok mix 300 6 Try.func182 (by kernel_rfl) rfl (by kernel_rfl) (by kernel_rfl) rfl ?_
  simp [Try.f182]
  simp [mOwnerOk]
  have e : (x.Holder != 3) = !decide (x.Holder = 3) := by rw [Bool.eq_iff_iff]; simp
  rw [e]
  refine ⟨⟨fun _ => by omega, fun _ _ => by omega⟩, rfl⟩
theorem c182_ok : c182.ok Try.prog := mkCon_ok fun ⟨x, h⟩ hpre => c182_pc x h hpre
/-- loop.example/g03007/impl.countWhere[loop.example/g03007/impl.Hand] -/
noncomputable def c238 : Con := mkCon 238 false (α := (List THand) × THouse) (fun x => (fun (l : List THand) (h : THouse) => ([encLTHand l, .fn (.func 182) [] [.el (encTHouse h)]] : List D)) x.1 x.2) (fun x => (fun (l : List THand) (h : THouse) => ([] : List (Nm × OO))) x.1 x.2) (fun x => (fun (l : List THand) (h : THouse) => l.length ≤ 1073741823 ∧ h.Claims.length ≤ 1073741823 ∧ h.Finds.length ≤ 1073741823) x.1 x.2) (fun x => (fun (l : List THand) (h : THouse) => (dI (l.countP (mOwnerOk h)) : D)) x.1 x.2) (fun x => (fun (l : List THand) (h : THouse) => ([] : List (Nm × OO))) x.1 x.2)
@[simp] theorem c238_f : c238.f = 238 := rfl
@[simp] theorem c238_own : c238.own = false := rfl
theorem c238_inj : ∀ u_ v_ : (List THand) × THouse, ((fun x => (fun (l : List THand) (h : THouse) => ([encLTHand l, .fn (.func 182) [] [.el (encTHouse h)]] : List D)) x.1 x.2) u_).map nz = ((fun x => (fun (l : List THand) (h : THouse) => ([encLTHand l, .fn (.func 182) [] [.el (encTHouse h)]] : List D)) x.1 x.2) v_).map nz → (fun x => (fun (l : List THand) (h : THouse) => ([] : List (Nm × OO))) x.1 x.2) u_ = (fun x => (fun (l : List THand) (h : THouse) => ([] : List (Nm × OO))) x.1 x.2) v_ → u_ = v_ := by
  intro u_ v_ h h2_
  obtain ⟨l, ⟨h_No, h_Finds, h_Secrets, h_Slots, h_Claims, h_Trials, h_Chain, h_Book, h_Now⟩⟩ := u_
  obtain ⟨l', ⟨h_No', h_Finds', h_Secrets', h_Slots', h_Claims', h_Trials', h_Chain', h_Book', h_Now'⟩⟩ := v_
  simp [nz_lit, nz1_lit, nz_agg, nz_sl, nz1_sl, nz_sx, nz_el, nz1_el, nz_own, nz1_own, nz_ptr, nz_fn, nz_iface] at h h2_
  first | (simp [h, h2_]; done) | (obtain ⟨h3_, h4_⟩ := List.append_inj h2_ h.1; simp_all; done) | simp_all | grind
@[simp] theorem c238_fn (l : List THand) (h_No : Int) (h_Finds : List TFind) (h_Secrets : List TSecret) (h_Slots : List TSlot) (h_Claims : List TClaim) (h_Trials : List TTrial) (h_Chain : List THand) (h_Book : List TEntry) (h_Now : Int) : c238.fn ([(.sl false 5 yTHand (ML encTHand l)), .fn (.func 182) [] [.el (.agg [.lit (.int .i64 h_No), .sl false 8 yTFind (ML encTFind h_Finds), .sl false 3 yTSecret (ML encTSecret h_Secrets), .sl false 3 yTSlot (ML encTSlot h_Slots), .sl false 5 yTClaim (ML encTClaim h_Claims), .sl false 4 yTTrial (ML encTTrial h_Trials), .sl false 5 yTHand (ML encTHand h_Chain), .sl false 4 yTEntry (ML encTEntry h_Book), .lit (.int .i64 h_Now)])]]) ([]) = some (l.length ≤ 1073741823 ∧ (⟨h_No, h_Finds, h_Secrets, h_Slots, h_Claims, h_Trials, h_Chain, h_Book, h_Now⟩ : THouse).Claims.length ≤ 1073741823 ∧ (⟨h_No, h_Finds, h_Secrets, h_Slots, h_Claims, h_Trials, h_Chain, h_Book, h_Now⟩ : THouse).Finds.length ≤ 1073741823, dI (l.countP (mOwnerOk (⟨h_No, h_Finds, h_Secrets, h_Slots, h_Claims, h_Trials, h_Chain, h_Book, h_Now⟩ : THouse))), []) :=
  mkCon_fn c238_inj ((l, ⟨h_No, h_Finds, h_Secrets, h_Slots, h_Claims, h_Trials, h_Chain, h_Book, h_Now⟩) : (List THand) × THouse) rfl rfl
theorem c238_pc (l : List THand) (h : THouse) (hpre : l.length ≤ 1073741823 ∧ h.Claims.length ≤ 1073741823 ∧ h.Finds.length ≤ 1073741823) : PCo Try.prog 238 ([encLTHand l, .fn (.func 182) [] [.el (encTHouse h)]]) (Tab.of ([])) (dI (l.countP (mOwnerOk h))) (Tab.of ([])) := by
  refine pco_of_run [] (E := ⟨[c182], []⟩) (m := false) (base := 0) (Env.ok_cons c182_ok Env.ok_nil) G_ok mix 300 6 Try.func238 (by kernel_rfl) rfl (by kernel_rfl) (by kernel_rfl) rfl ?_
  simp [Try.f238]
  obtain ⟨hp1, hp2, hp3⟩ := hpre
  refine loop_inv (fun p : Nat => p ≤ l.length) (fun p => [(1, .fn (.func 182) [] [.el (encTHouse h)]), (5, dI ((l.take p).countP (mOwnerOk h))), (8, encLTHand l), (9, dI l.length), (10, dI p)]) (fun _ => []) 1 (fun p => l.length - p) 0 400 (by simp) (by simp) (by simp) ?_
  intro p hp
  simp
  refine ⟨fun hlt => ?_, fun hge => ?_⟩
  · have hs := countP_at (want := mOwnerOk h) (d := default) hlt
    have hb := countP_take (want := mOwnerOk h) (l := l) (p := p)
    repeat' (first | omega | refine And.intro ?_ ?_ | intro _)
    all_goals (rename_i hw; refine Again.mk (p + 1) (by omega) (by simp [hs, hw]) (by first | omega | (simp; omega)))
  · rw [List.take_of_length_le hge]
theorem c238_ok : c238.ok Try.prog := mkCon_ok fun ⟨l, h⟩ hpre => c238_pc l h hpre
theorem all_count {α : Type} {w : α → Bool} (l : List α) : decide ((l.countP w : Int) = l.length) = l.all w := by
  rw [Bool.eq_iff_iff, decide_eq_true_eq, List.all_eq_true]
  constructor
  · intro h; exact List.countP_eq_length.1 (by omega)
  · intro h; have := List.countP_eq_length.2 h; omega
/-- loop.example/g03007/impl.areAll[loop.example/g03007/impl.Hand] -/
noncomputable def c181 : Con := mkCon 181 false (α := (List THand) × THouse) (fun x => (fun (l : List THand) (h : THouse) => ([encLTHand l, .fn (.func 182) [] [.el (encTHouse h)]] : List D)) x.1 x.2) (fun x => (fun (l : List THand) (h : THouse) => ([] : List (Nm × OO))) x.1 x.2) (fun x => (fun (l : List THand) (h : THouse) => l.length ≤ 1073741823 ∧ h.Claims.length ≤ 1073741823 ∧ h.Finds.length ≤ 1073741823) x.1 x.2) (fun x => (fun (l : List THand) (h : THouse) => (dB (l.all (mOwnerOk h)) : D)) x.1 x.2) (fun x => (fun (l : List THand) (h : THouse) => ([] : List (Nm × OO))) x.1 x.2)
@[simp] theorem c181_f : c181.f = 181 := rfl
@[simp] theorem c181_own : c181.own = false := rfl
theorem c181_inj : ∀ u_ v_ : (List THand) × THouse, ((fun x => (fun (l : List THand) (h : THouse) => ([encLTHand l, .fn (.func 182) [] [.el (encTHouse h)]] : List D)) x.1 x.2) u_).map nz = ((fun x => (fun (l : List THand) (h : THouse) => ([encLTHand l, .fn (.func 182) [] [.el (encTHouse h)]] : List D)) x.1 x.2) v_).map nz → (fun x => (fun (l : List THand) (h : THouse) => ([] : List (Nm × OO))) x.1 x.2) u_ = (fun x => (fun (l : List THand) (h : THouse) => ([] : List (Nm × OO))) x.1 x.2) v_ → u_ = v_ := by
  intro u_ v_ h h2_
  obtain ⟨l, ⟨h_No, h_Finds, h_Secrets, h_Slots, h_Claims, h_Trials, h_Chain, h_Book, h_Now⟩⟩ := u_
  obtain ⟨l', ⟨h_No', h_Finds', h_Secrets', h_Slots', h_Claims', h_Trials', h_Chain', h_Book', h_Now'⟩⟩ := v_
  simp [nz_lit, nz1_lit, nz_agg, nz_sl, nz1_sl, nz_sx, nz_el, nz1_el, nz_own, nz1_own, nz_ptr, nz_fn, nz_iface] at h h2_
  first | (simp [h, h2_]; done) | (obtain ⟨h3_, h4_⟩ := List.append_inj h2_ h.1; simp_all; done) | simp_all | grind
@[simp] theorem c181_fn (l : List THand) (h_No : Int) (h_Finds : List TFind) (h_Secrets : List TSecret) (h_Slots : List TSlot) (h_Claims : List TClaim) (h_Trials : List TTrial) (h_Chain : List THand) (h_Book : List TEntry) (h_Now : Int) : c181.fn ([(.sl false 5 yTHand (ML encTHand l)), .fn (.func 182) [] [.el (.agg [.lit (.int .i64 h_No), .sl false 8 yTFind (ML encTFind h_Finds), .sl false 3 yTSecret (ML encTSecret h_Secrets), .sl false 3 yTSlot (ML encTSlot h_Slots), .sl false 5 yTClaim (ML encTClaim h_Claims), .sl false 4 yTTrial (ML encTTrial h_Trials), .sl false 5 yTHand (ML encTHand h_Chain), .sl false 4 yTEntry (ML encTEntry h_Book), .lit (.int .i64 h_Now)])]]) ([]) = some (l.length ≤ 1073741823 ∧ (⟨h_No, h_Finds, h_Secrets, h_Slots, h_Claims, h_Trials, h_Chain, h_Book, h_Now⟩ : THouse).Claims.length ≤ 1073741823 ∧ (⟨h_No, h_Finds, h_Secrets, h_Slots, h_Claims, h_Trials, h_Chain, h_Book, h_Now⟩ : THouse).Finds.length ≤ 1073741823, dB (l.all (mOwnerOk (⟨h_No, h_Finds, h_Secrets, h_Slots, h_Claims, h_Trials, h_Chain, h_Book, h_Now⟩ : THouse))), []) :=
  mkCon_fn c181_inj ((l, ⟨h_No, h_Finds, h_Secrets, h_Slots, h_Claims, h_Trials, h_Chain, h_Book, h_Now⟩) : (List THand) × THouse) rfl rfl
theorem c181_pc (l : List THand) (h : THouse) (hpre : l.length ≤ 1073741823 ∧ h.Claims.length ≤ 1073741823 ∧ h.Finds.length ≤ 1073741823) : PCo Try.prog 181 ([encLTHand l, .fn (.func 182) [] [.el (encTHouse h)]]) (Tab.of ([])) (dB (l.all (mOwnerOk h))) (Tab.of ([])) := by
  refine pco_of_run [] (E := ⟨[c238, c182], []⟩) (m := false) (base := 0) (Env.ok_cons c238_ok (Env.ok_cons c182_ok Env.ok_nil)) G_ok mix 300 6 Try.func181 (by kernel_rfl) rfl (by kernel_rfl) (by kernel_rfl) rfl ?_
  simp [Try.f181]
  rw [← all_count]
  refine ⟨hpre, ?_⟩
  first | rfl | (rw [Bool.eq_iff_iff]; simp; done) | trace_state
theorem c181_ok : c181.ok Try.prog := mkCon_ok fun ⟨l, h⟩ hpre => c181_pc l h hpre
/-- loop.example/g03007/impl.AreOwners -/
noncomputable def c98 : Con := mkCon 98 false (α := THouse) (fun x => (fun (h : THouse) => [encTHouse h]) x) (fun _ => []) (fun x => (fun (h : THouse) => smH h) x) (fun x => (fun (h : THouse) => (dB (mOwners h) : D)) x) (fun x => (fun (h : THouse) => []) x)
@[simp] theorem c98_f : c98.f = 98 := rfl
@[simp] theorem c98_own : c98.own = false := rfl
theorem c98_inj : ∀ u_ v_ : THouse, ((fun x => (fun (h : THouse) => [encTHouse h]) x) u_).map nz = ((fun x => (fun (h : THouse) => [encTHouse h]) x) v_).map nz → u_ = v_ := by
  intro u_ v_ h
  obtain ⟨h_No, h_Finds, h_Secrets, h_Slots, h_Claims, h_Trials, h_Chain, h_Book, h_Now⟩ := u_
  obtain ⟨h_No', h_Finds', h_Secrets', h_Slots', h_Claims', h_Trials', h_Chain', h_Book', h_Now'⟩ := v_
  simp [nz_lit, nz1_lit, nz_agg, nz_sl, nz1_sl, encLTClaim, encLTEntry, encLTFind, encLTHand, encLTSecret, encLTSlot, encLTTrial, encTHouse] at h
  first | (simp [h]; done) | (obtain ⟨⟩ := h; simp_all; done) | simp_all
@[simp] theorem c98_fn (h_No : Int) (h_Finds : List TFind) (h_Secrets : List TSecret) (h_Slots : List TSlot) (h_Claims : List TClaim) (h_Trials : List TTrial) (h_Chain : List THand) (h_Book : List TEntry) (h_Now : Int) : c98.fn [.agg [.lit (.int .i64 h_No), .sl false 8 yTFind (ML encTFind h_Finds), .sl false 3 yTSecret (ML encTSecret h_Secrets), .sl false 3 yTSlot (ML encTSlot h_Slots), .sl false 5 yTClaim (ML encTClaim h_Claims), .sl false 4 yTTrial (ML encTTrial h_Trials), .sl false 5 yTHand (ML encTHand h_Chain), .sl false 4 yTEntry (ML encTEntry h_Book), .lit (.int .i64 h_Now)]] [] = some ((fun (h : THouse) => smH h) ⟨h_No, h_Finds, h_Secrets, h_Slots, h_Claims, h_Trials, h_Chain, h_Book, h_Now⟩, (fun (h : THouse) => (dB (mOwners h) : D)) ⟨h_No, h_Finds, h_Secrets, h_Slots, h_Claims, h_Trials, h_Chain, h_Book, h_Now⟩, (fun (h : THouse) => []) ⟨h_No, h_Finds, h_Secrets, h_Slots, h_Claims, h_Trials, h_Chain, h_Book, h_Now⟩) :=
  mkCon_fn (fun x y h _ => c98_inj x y h) (⟨h_No, h_Finds, h_Secrets, h_Slots, h_Claims, h_Trials, h_Chain, h_Book, h_Now⟩ : THouse) (by simp [nz, nz1, ML_nil, encLTClaim, encLTEntry, encLTFind, encLTHand, encLTSecret, encLTSlot, encLTTrial, encTHouse]) rfl
theorem c98_pc (h : THouse) (hpre : smH h) : PCo Try.prog 98 [encTHouse h] (Tab.of []) (dB (mOwners h)) (Tab.of []) := by
  refine pco_of_run [] (E := ⟨[c181, c182], []⟩) (m := false) (base := 0) (Env.ok_cons c181_ok (Env.ok_cons c182_ok Env.ok_nil)) G_ok mix 300 6 Try.func98 (by kernel_rfl) rfl (by kernel_rfl) (by kernel_rfl) rfl ?_
  simp [Try.f98]
  simp at hpre
  repeat' (first | omega | rfl | refine And.intro ?_ ?_ | intro _)
theorem c98_ok : c98.ok Try.prog := mkCon_ok fun h hpre => c98_pc h hpre
/-- loop.example/g03007/spec.l36Claimed -/
noncomputable def c180 : Con := mkCon 180 false (α := THouse × THand) (fun x => (fun (h : THouse) (x : THand) => [encTHouse h, encTHand x]) x.1 x.2) (fun _ => []) (fun x => (fun (h : THouse) (x : THand) => h.Claims.length ≤ 1073741823) x.1 x.2) (fun x => (fun (h : THouse) (x : THand) => (dB (mClaimed h x) : D)) x.1 x.2) (fun x => (fun (h : THouse) (x : THand) => []) x.1 x.2)
@[simp] theorem c180_f : c180.f = 180 := rfl
@[simp] theorem c180_own : c180.own = false := rfl
theorem c180_inj : ∀ u_ v_ : THouse × THand, ((fun x => (fun (h : THouse) (x : THand) => [encTHouse h, encTHand x]) x.1 x.2) u_).map nz = ((fun x => (fun (h : THouse) (x : THand) => [encTHouse h, encTHand x]) x.1 x.2) v_).map nz → u_ = v_ := by
  intro u_ v_ h
  obtain ⟨⟨h_No, h_Finds, h_Secrets, h_Slots, h_Claims, h_Trials, h_Chain, h_Book, h_Now⟩, ⟨x_Thing, x_Holder, x_Who, x_At, x_Seal⟩⟩ := u_
  obtain ⟨⟨h_No', h_Finds', h_Secrets', h_Slots', h_Claims', h_Trials', h_Chain', h_Book', h_Now'⟩, ⟨x_Thing', x_Holder', x_Who', x_At', x_Seal'⟩⟩ := v_
  simp [nz_lit, nz1_lit, nz_agg, nz_sl, nz1_sl, encLTClaim, encLTEntry, encLTFind, encLTHand, encLTSecret, encLTSlot, encLTTrial, encTHand, encTHouse] at h
  first | (simp [h]; done) | (obtain ⟨⟩ := h; simp_all; done) | simp_all
@[simp] theorem c180_fn (h_No : Int) (h_Finds : List TFind) (h_Secrets : List TSecret) (h_Slots : List TSlot) (h_Claims : List TClaim) (h_Trials : List TTrial) (h_Chain : List THand) (h_Book : List TEntry) (h_Now : Int) (x_Thing : Int) (x_Holder : Int) (x_Who : Int) (x_At : Int) (x_Seal : Int) : c180.fn [.agg [.lit (.int .i64 h_No), .sl false 8 yTFind (ML encTFind h_Finds), .sl false 3 yTSecret (ML encTSecret h_Secrets), .sl false 3 yTSlot (ML encTSlot h_Slots), .sl false 5 yTClaim (ML encTClaim h_Claims), .sl false 4 yTTrial (ML encTTrial h_Trials), .sl false 5 yTHand (ML encTHand h_Chain), .sl false 4 yTEntry (ML encTEntry h_Book), .lit (.int .i64 h_Now)], .agg [.lit (.int .i64 x_Thing), .lit (.int .i64 x_Holder), .lit (.int .i64 x_Who), .lit (.int .i64 x_At), .lit (.int .i64 x_Seal)]] [] = some ((fun (h : THouse) (x : THand) => h.Claims.length ≤ 1073741823) ⟨h_No, h_Finds, h_Secrets, h_Slots, h_Claims, h_Trials, h_Chain, h_Book, h_Now⟩ ⟨x_Thing, x_Holder, x_Who, x_At, x_Seal⟩, (fun (h : THouse) (x : THand) => (dB (mClaimed h x) : D)) ⟨h_No, h_Finds, h_Secrets, h_Slots, h_Claims, h_Trials, h_Chain, h_Book, h_Now⟩ ⟨x_Thing, x_Holder, x_Who, x_At, x_Seal⟩, (fun (h : THouse) (x : THand) => []) ⟨h_No, h_Finds, h_Secrets, h_Slots, h_Claims, h_Trials, h_Chain, h_Book, h_Now⟩ ⟨x_Thing, x_Holder, x_Who, x_At, x_Seal⟩) :=
  mkCon_fn (fun x y h _ => c180_inj x y h) ((⟨h_No, h_Finds, h_Secrets, h_Slots, h_Claims, h_Trials, h_Chain, h_Book, h_Now⟩, ⟨x_Thing, x_Holder, x_Who, x_At, x_Seal⟩) : THouse × THand) (by simp [nz, nz1, ML_nil, encLTClaim, encLTEntry, encLTFind, encLTHand, encLTSecret, encLTSlot, encLTTrial, encTHand, encTHouse]) rfl
theorem c180_pc (h : THouse) (x : THand) (hpre : h.Claims.length ≤ 1073741823) : PCo Try.prog 180 [encTHouse h, encTHand x] (Tab.of []) (dB (mClaimed h x)) (Tab.of []) := by
  refine pco_of_run [] (E := ⟨[], []⟩) (m := false) (base := 0) Env.ok_nil G_ok mix 300 6 Try.func180 (by kernel_rfl) rfl (by kernel_rfl) (by kernel_rfl) rfl ?_
  simp [Try.f180]
  refine loop_inv (fun p : Nat => p ≤ h.Claims.length ∧ mClaimed h x = (h.Claims.drop p).any (servedBy x)) (fun p => [(2, .ptr (0, 1) 0), (3, .ptr (1, 1) 0), (5, dI p)]) (fun p => [((0, 1), .box (encTHouse h)), ((1, 1), .box (encTHand x))]) 2 (fun p => h.Claims.length - p) 0 400 (by simp) (by simp [mClaimed]) (by simp) ?_
  intro p ⟨hp, hi⟩
  simp
  refine ⟨fun hlt => ?_, fun hge => ?_⟩
  · rw [any_at (d := default) hlt] at hi
    have hsb : servedBy x (h.Claims[p]?.getD default) = (decide ((h.Claims[p]?.getD default).State = 3) && decide ((h.Claims[p]?.getD default).Thing = x.Thing) && decide ((h.Claims[p]?.getD default).Who = x.Who)) := rfl
    cases hv : servedBy x (h.Claims[p]?.getD default) with
    | true =>
      rw [hv] at hi hsb
      simp at hi hsb
      simp [hsb, hi]
      try omega
      try trace_state
    | false =>
      rw [hv] at hi hsb
      simp only [Bool.false_or] at hi
      have hno : ¬ ((h.Claims[p]?.getD default).State = 3 ∧ (h.Claims[p]?.getD default).Thing = x.Thing ∧ (h.Claims[p]?.getD default).Who = x.Who) := by
        rintro ⟨e1, e2, e3⟩; rw [e1, e2, e3] at hsb; simp at hsb
      repeat' (first | omega | refine And.intro ?_ ?_ | intro _)
      all_goals first | (exfalso; exact hno ⟨by assumption, by assumption, by assumption⟩) | exact Again.mk (p + 1) ⟨by omega, hi⟩ (by simp) (by first | omega | (simp; omega)) | trace_state
  · rw [any_end hge] at hi
    rw [hi]
theorem c180_ok : c180.ok Try.prog := mkCon_ok fun ⟨h, x⟩ hpre => c180_pc h x hpre
/-- loop.example/g03007/spec.AreOwners -/
noncomputable def c97 : Con := mkCon 97 false (α := THouse) (fun x => (fun (h : THouse) => [encTHouse h]) x) (fun _ => []) (fun x => (fun (h : THouse) => smH h) x) (fun x => (fun (h : THouse) => (dB (mOwners h) : D)) x) (fun x => (fun (h : THouse) => []) x)
@[simp] theorem c97_f : c97.f = 97 := rfl
@[simp] theorem c97_own : c97.own = false := rfl
theorem c97_inj : ∀ u_ v_ : THouse, ((fun x => (fun (h : THouse) => [encTHouse h]) x) u_).map nz = ((fun x => (fun (h : THouse) => [encTHouse h]) x) v_).map nz → u_ = v_ := by
  intro u_ v_ h
  obtain ⟨h_No, h_Finds, h_Secrets, h_Slots, h_Claims, h_Trials, h_Chain, h_Book, h_Now⟩ := u_
  obtain ⟨h_No', h_Finds', h_Secrets', h_Slots', h_Claims', h_Trials', h_Chain', h_Book', h_Now'⟩ := v_
  simp [nz_lit, nz1_lit, nz_agg, nz_sl, nz1_sl, encLTClaim, encLTEntry, encLTFind, encLTHand, encLTSecret, encLTSlot, encLTTrial, encTHouse] at h
  first | (simp [h]; done) | (obtain ⟨⟩ := h; simp_all; done) | simp_all
@[simp] theorem c97_fn (h_No : Int) (h_Finds : List TFind) (h_Secrets : List TSecret) (h_Slots : List TSlot) (h_Claims : List TClaim) (h_Trials : List TTrial) (h_Chain : List THand) (h_Book : List TEntry) (h_Now : Int) : c97.fn [.agg [.lit (.int .i64 h_No), .sl false 8 yTFind (ML encTFind h_Finds), .sl false 3 yTSecret (ML encTSecret h_Secrets), .sl false 3 yTSlot (ML encTSlot h_Slots), .sl false 5 yTClaim (ML encTClaim h_Claims), .sl false 4 yTTrial (ML encTTrial h_Trials), .sl false 5 yTHand (ML encTHand h_Chain), .sl false 4 yTEntry (ML encTEntry h_Book), .lit (.int .i64 h_Now)]] [] = some ((fun (h : THouse) => smH h) ⟨h_No, h_Finds, h_Secrets, h_Slots, h_Claims, h_Trials, h_Chain, h_Book, h_Now⟩, (fun (h : THouse) => (dB (mOwners h) : D)) ⟨h_No, h_Finds, h_Secrets, h_Slots, h_Claims, h_Trials, h_Chain, h_Book, h_Now⟩, (fun (h : THouse) => []) ⟨h_No, h_Finds, h_Secrets, h_Slots, h_Claims, h_Trials, h_Chain, h_Book, h_Now⟩) :=
  mkCon_fn (fun x y h _ => c97_inj x y h) (⟨h_No, h_Finds, h_Secrets, h_Slots, h_Claims, h_Trials, h_Chain, h_Book, h_Now⟩ : THouse) (by simp [nz, nz1, ML_nil, encLTClaim, encLTEntry, encLTFind, encLTHand, encLTSecret, encLTSlot, encLTTrial, encTHouse]) rfl
theorem c97_pc (h : THouse) (hpre : smH h) : PCo Try.prog 97 [encTHouse h] (Tab.of []) (dB (mOwners h)) (Tab.of []) := by
  refine pco_of_run [] (E := ⟨[c179, c180], []⟩) (m := false) (base := 0) (Env.ok_cons c179_ok (Env.ok_cons c180_ok Env.ok_nil)) G_ok mix 300 6 Try.func97 (by kernel_rfl) rfl (by kernel_rfl) (by kernel_rfl) rfl ?_
  simp [Try.f97]
  simp at hpre
  refine loop_inv (fun p : Nat => p ≤ h.Chain.length ∧ mOwners h = (h.Chain.drop p).all (mOwnerOk h)) (fun p => [(1, .ptr (0, 1) 0), (3, dI p)]) (fun p => [((0, 1), .box (encTHouse h))]) 2 (fun p => h.Chain.length - p) 0 400 (by simp) (by simp [mOwners]) (by simp) ?_
  intro p ⟨hp, hi⟩
  simp
  refine ⟨fun hlt => ?_, fun hge => ?_⟩
  · rw [all_at (d := default) hlt] at hi
    have hw : mOwnerOk h (h.Chain[p]?.getD default) = (!decide ((h.Chain[p]?.getD default).Holder = 3) || (decide ((h.Chain[p]?.getD default).Holder = 3) && mClaimed h (h.Chain[p]?.getD default)) || (decide (0 ≤ mFindThing h.Finds (h.Chain[p]?.getD default).Thing) && decide ((h.Finds[(mFindThing h.Finds (h.Chain[p]?.getD default).Thing).toNat]?.getD default).Finder = (h.Chain[p]?.getD default).Who))) := rfl
    have hb := indexBy_bd (want := wantN nFind (h.Chain[p]?.getD default).Thing) h.Finds 0
    have hfd : mFindThing h.Finds (h.Chain[p]?.getD default).Thing = indexBy (wantN nFind (h.Chain[p]?.getD default).Thing) 0 h.Finds := rfl
    rw [← hfd] at hb
    cases hv : mOwnerOk h (h.Chain[p]?.getD default) with
    | true =>
      rw [hv] at hi hw
      simp only [Bool.true_and] at hi
      repeat' (first | omega | refine And.intro ?_ ?_ | intro _)
      all_goals first | exact Again.mk (p + 1) ⟨by omega, hi⟩ (by simp) (by first | omega | (simp; omega)) | (exfalso; grind) | trace_state
    | false =>
      rw [hv] at hi hw
      simp only [Bool.false_and] at hi
      generalize Again _ _ _ _ _ _ _ = A
      repeat' (first | omega | exact hi | exact hi.symm | refine And.intro ?_ ?_ | intro _)
      all_goals first | (exfalso; grind) | trace_state
  · rw [all_end hge] at hi
    rw [hi]
theorem c97_ok : c97.ok Try.prog := mkCon_ok fun h hpre => c97_pc h hpre
/-- loop.example/g03007/laws.FnExactAreOwners -/
theorem law21 (h : THouse) (wh : wfTHouse h) : PCo Try.prog 21 [encTHouse h] (Tab.of []) (dB true) (Tab.of []) := by
  refine pco_of_run [1000094] (E := ⟨[c92, c94, c96, c97, c98], []⟩) (m := false) (base := 0) (Env.ok_cons c92_ok (Env.ok_cons c94_ok (Env.ok_cons c96_ok (Env.ok_cons c97_ok (Env.ok_cons c98_ok Env.ok_nil))))) G_ok mix 400 6 Try.func21 (by kernel_rfl) rfl (by kernel_rfl) (by kernel_rfl) rfl ?_
  simp (config := {maxSteps := 3000000}) [Try.f21]
  have h1 := wfH_len wh
  refine ⟨h1, fun hs => ?_⟩
  obtain ⟨_, k1, ⟨k2, k3⟩, k4, k5, k6, k7, k8⟩ := szHo_ok hs
  have k9 : ∀ x ∈ h.Secrets, x.Marks.length ≤ 1073741823 := fun x hx => by have := k3 x hx; omega
  repeat' (first | exact k9 | omega | refine And.intro ?_ ?_ | intro _)
theorem law21_pc (D0 : D) (h0 : Sh G 9 118 D0) : PC Try.prog 21 [D0] (dB true) [] := by
  obtain ⟨h, rfl, wh⟩ := sh118 (n := 3) h0
  exact law21 h wh

end Go.Proofs.Ytnkggfhgmdbfpaa
