/- Contracts of the functions that the laws run. -/
import Derived.Test.Ytadipfpojlceeaach29
import Derived.Test.YtadipfpojlceeaaEngB
namespace Go.Proofs.Ytadipfpojlceeaa
open Go Go.Eng
set_option linter.unusedSimpArgs false
set_option linter.unusedVariables false
set_option maxRecDepth 10000
set_option maxHeartbeats 1000000
theorem upFrom_mem : ∀ {l : List TEntry} {e : Int}, upFrom e l = true → ∀ x ∈ l, mIsEntry x = true
  | [], _, _, _, hx => by simp at hx
  | y :: r, e, h, x, hx => by
    simp only [upFrom, Bool.and_eq_true] at h
    rcases List.mem_cons.1 hx with rfl | hx
    · exact h.1.1
    · exact upFrom_mem h.2 x hx
def sumBy (g : TEntry → Int) (l : List TEntry) : Int := l.foldl (fun n x => n + g x) 0
theorem sumBy_at {g : TEntry → Int} {l : List TEntry} {p : Nat} (h : p < l.length) : sumBy g (l.take (p + 1)) = sumBy g (l.take p) + g (l[p]?.getD default) := by
  simp only [sumBy]; rw [foldl_at (d := default) h]
theorem sumBy_bd {g : TEntry → Int} {l : List TEntry} (hg : ∀ x ∈ l, -10000000 ≤ g x ∧ g x ≤ 10000000) : ∀ (p : Nat), p ≤ l.length → -10000000 * (p : Int) ≤ sumBy g (l.take p) ∧ sumBy g (l.take p) ≤ 10000000 * p
  | 0, _ => by simp [sumBy]
  | p + 1, h => by
    have h1 := sumBy_bd hg p (by omega)
    have h2 := hg _ (getD_mem (d := default) (show p < l.length by omega))
    rw [sumBy_at (by omega)]
    omega
theorem entry_of {x : TEntry} (h : mIsEntry x = true) : ¬ x.From = x.To ∧ 1 ≤ x.Cents ∧ x.Cents ≤ 10000000 := by
  simp [mIsEntry, mIn] at h; omega
def balOf (a : Int) (x : TEntry) : Int := if x.To = a then x.Cents else if x.From = a then -x.Cents else 0
def paidOf (a : Int) (x : TEntry) : Int := if x.From = a then x.Cents else 0
theorem balOf_bd {a : Int} {x : TEntry} (h : mIsEntry x = true) : -10000000 ≤ balOf a x ∧ balOf a x ≤ 10000000 := by
  have := entry_of h
  simp only [balOf]; (repeat' split) <;> omega
theorem paidOf_bd {a : Int} {x : TEntry} (h : mIsEntry x = true) : -10000000 ≤ paidOf a x ∧ paidOf a x ≤ 10000000 := by
  have := entry_of h
  simp only [paidOf]; (repeat' split) <;> omega
def mSumOf (g : TEntry → Int) (l : List TEntry) : Int := if mAreEntries l then sumBy g l else 0
theorem mSumOf_yes {g : TEntry → Int} {l : List TEntry} (h : mAreEntries l = true) : mSumOf g l = sumBy g l := by simp [mSumOf, h]
theorem mSumOf_no {g : TEntry → Int} {l : List TEntry} (h : mAreEntries l = false) : mSumOf g l = 0 := by simp [mSumOf, h]
theorem entries_of {l : List TEntry} (h : mAreEntries l = true) : l.length ≤ 100 ∧ ∀ x ∈ l, mIsEntry x = true := by
  simp only [mAreEntries, Bool.and_eq_true, decide_eq_true_eq] at h
  exact ⟨h.1, upFrom_mem h.2⟩
/-- loop.example/g03007/impl.Balance$1 -/
noncomputable def c153 : Con := mkCon 153 false (α := TEntry × Int) (fun x => (fun (x : TEntry) (a : Int) => ([encTEntry x, .el (dI a)] : List D)) x.1 x.2) (fun x => (fun (x : TEntry) (a : Int) => ([] : List (Nm × OO))) x.1 x.2) (fun x => (fun (x : TEntry) (a : Int) => -10000000 ≤ x.Cents ∧ x.Cents ≤ 10000000) x.1 x.2) (fun x => (fun (x : TEntry) (a : Int) => (dI (balOf a x) : D)) x.1 x.2) (fun x => (fun (x : TEntry) (a : Int) => ([] : List (Nm × OO))) x.1 x.2)
@[simp] theorem c153_f : c153.f = 153 := rfl
@[simp] theorem c153_own : c153.own = false := rfl
theorem c153_inj : ∀ u_ v_ : TEntry × Int, ((fun x => (fun (x : TEntry) (a : Int) => ([encTEntry x, .el (dI a)] : List D)) x.1 x.2) u_).map nz = ((fun x => (fun (x : TEntry) (a : Int) => ([encTEntry x, .el (dI a)] : List D)) x.1 x.2) v_).map nz → (fun x => (fun (x : TEntry) (a : Int) => ([] : List (Nm × OO))) x.1 x.2) u_ = (fun x => (fun (x : TEntry) (a : Int) => ([] : List (Nm × OO))) x.1 x.2) v_ → u_ = v_ := by
  intro u_ v_ h h2_
  obtain ⟨⟨x_From, x_To, x_Cents, x_At⟩, a⟩ := u_
  obtain ⟨⟨x_From', x_To', x_Cents', x_At'⟩, a'⟩ := v_
  simp [nz_lit, nz1_lit, nz_agg, nz_sl, nz1_sl, nz_sx, nz_el, nz1_el, nz_own, nz1_own, nz_ptr, nz_fn, nz_iface] at h h2_
  first | (simp [h, h2_]; done) | simp_all | grind
@[simp] theorem c153_fn (x_From : Int) (x_To : Int) (x_Cents : Int) (x_At : Int) (a : Int) : c153.fn ([.agg [.lit (.int .i64 x_From), .lit (.int .i64 x_To), .lit (.int .i64 x_Cents), .lit (.int .i64 x_At)], .el (dI a)]) ([]) = some (-10000000 ≤ (⟨x_From, x_To, x_Cents, x_At⟩ : TEntry).Cents ∧ (⟨x_From, x_To, x_Cents, x_At⟩ : TEntry).Cents ≤ 10000000, dI (balOf a (⟨x_From, x_To, x_Cents, x_At⟩ : TEntry)), []) :=
  mkCon_fn c153_inj ((⟨x_From, x_To, x_Cents, x_At⟩, a) : TEntry × Int) rfl rfl
theorem c153_pc (x : TEntry) (a : Int) (hpre : -10000000 ≤ x.Cents ∧ x.Cents ≤ 10000000) : PCo Try.prog 153 ([encTEntry x, .el (dI a)]) (Tab.of ([])) (dI (balOf a x)) (Tab.of ([])) := by
  refine pco_of_run [] (E := ⟨[], []⟩) (m := false) (base := 0) Env.ok_nil G_ok mix 300 6 Try.func153 (by kernel_rfl) rfl (by kernel_rfl) (by kernel_rfl) rfl ?_
  simp [Try.f153]
  repeat' (first | omega | refine And.intro ?_ ?_ | intro _)
  all_goals (simp only [balOf]; (repeat' split) <;> omega)
theorem c153_ok : c153.ok Try.prog := mkCon_ok fun ⟨x, a⟩ hpre => c153_pc x a hpre
/-- loop.example/g03007/impl.TotalPaid$1 -/
noncomputable def c154 : Con := mkCon 154 false (α := TEntry × Int) (fun x => (fun (x : TEntry) (a : Int) => ([encTEntry x, .el (dI a)] : List D)) x.1 x.2) (fun x => (fun (x : TEntry) (a : Int) => ([] : List (Nm × OO))) x.1 x.2) (fun x => (fun (x : TEntry) (a : Int) => True) x.1 x.2) (fun x => (fun (x : TEntry) (a : Int) => (dI (paidOf a x) : D)) x.1 x.2) (fun x => (fun (x : TEntry) (a : Int) => ([] : List (Nm × OO))) x.1 x.2)
@[simp] theorem c154_f : c154.f = 154 := rfl
@[simp] theorem c154_own : c154.own = false := rfl
theorem c154_inj : ∀ u_ v_ : TEntry × Int, ((fun x => (fun (x : TEntry) (a : Int) => ([encTEntry x, .el (dI a)] : List D)) x.1 x.2) u_).map nz = ((fun x => (fun (x : TEntry) (a : Int) => ([encTEntry x, .el (dI a)] : List D)) x.1 x.2) v_).map nz → (fun x => (fun (x : TEntry) (a : Int) => ([] : List (Nm × OO))) x.1 x.2) u_ = (fun x => (fun (x : TEntry) (a : Int) => ([] : List (Nm × OO))) x.1 x.2) v_ → u_ = v_ := by
  intro u_ v_ h h2_
  obtain ⟨⟨x_From, x_To, x_Cents, x_At⟩, a⟩ := u_
  obtain ⟨⟨x_From', x_To', x_Cents', x_At'⟩, a'⟩ := v_
  simp [nz_lit, nz1_lit, nz_agg, nz_sl, nz1_sl, nz_sx, nz_el, nz1_el, nz_own, nz1_own, nz_ptr, nz_fn, nz_iface] at h h2_
  first | (simp [h, h2_]; done) | simp_all | grind
@[simp] theorem c154_fn (x_From : Int) (x_To : Int) (x_Cents : Int) (x_At : Int) (a : Int) : c154.fn ([.agg [.lit (.int .i64 x_From), .lit (.int .i64 x_To), .lit (.int .i64 x_Cents), .lit (.int .i64 x_At)], .el (dI a)]) ([]) = some (True, dI (paidOf a (⟨x_From, x_To, x_Cents, x_At⟩ : TEntry)), []) :=
  mkCon_fn c154_inj ((⟨x_From, x_To, x_Cents, x_At⟩, a) : TEntry × Int) rfl rfl
theorem c154_pc (x : TEntry) (a : Int) : PCo Try.prog 154 ([encTEntry x, .el (dI a)]) (Tab.of ([])) (dI (paidOf a x)) (Tab.of ([])) := by
  refine pco_of_run [] (E := ⟨[], []⟩) (m := false) (base := 0) Env.ok_nil G_ok mix 300 6 Try.func154 (by kernel_rfl) rfl (by kernel_rfl) (by kernel_rfl) rfl ?_
  simp [Try.f154]
  repeat' (first | omega | refine And.intro ?_ ?_ | intro _)
  all_goals (simp only [paidOf]; (repeat' split) <;> omega)
theorem c154_ok : c154.ok Try.prog := mkCon_ok fun ⟨x, a⟩ hpre => c154_pc x a
/-- loop.example/g03007/impl.sumOf -/
noncomputable def c152_b : Con := mkCon 152 false (α := (List TEntry) × Int) (fun x => (fun (l : List TEntry) (a : Int) => ([encLTEntry l, .fn (.func 153) [] [.el (dI a)]] : List D)) x.1 x.2) (fun x => (fun (l : List TEntry) (a : Int) => ([] : List (Nm × OO))) x.1 x.2) (fun x => (fun (l : List TEntry) (a : Int) => l.length ≤ 1099511627776) x.1 x.2) (fun x => (fun (l : List TEntry) (a : Int) => (dI (mSumOf (balOf a) l) : D)) x.1 x.2) (fun x => (fun (l : List TEntry) (a : Int) => ([] : List (Nm × OO))) x.1 x.2)
@[simp] theorem c152_b_f : c152_b.f = 152 := rfl
@[simp] theorem c152_b_own : c152_b.own = false := rfl
theorem c152_b_inj : ∀ u_ v_ : (List TEntry) × Int, ((fun x => (fun (l : List TEntry) (a : Int) => ([encLTEntry l, .fn (.func 153) [] [.el (dI a)]] : List D)) x.1 x.2) u_).map nz = ((fun x => (fun (l : List TEntry) (a : Int) => ([encLTEntry l, .fn (.func 153) [] [.el (dI a)]] : List D)) x.1 x.2) v_).map nz → (fun x => (fun (l : List TEntry) (a : Int) => ([] : List (Nm × OO))) x.1 x.2) u_ = (fun x => (fun (l : List TEntry) (a : Int) => ([] : List (Nm × OO))) x.1 x.2) v_ → u_ = v_ := by
  intro u_ v_ h h2_
  obtain ⟨l, a⟩ := u_
  obtain ⟨l', a'⟩ := v_
  simp [nz_lit, nz1_lit, nz_agg, nz_sl, nz1_sl, nz_sx, nz_el, nz1_el, nz_own, nz1_own, nz_ptr, nz_fn, nz_iface] at h h2_
  first | (simp [h, h2_]; done) | simp_all | grind
@[simp] theorem c152_b_fn (l : List TEntry) (a : Int) : c152_b.fn ([(.sl false 4 yTEntry (ML encTEntry l)), .fn (.func 153) [] [.el (dI a)]]) ([]) = some (l.length ≤ 1099511627776, dI (mSumOf (balOf a) l), []) :=
  mkCon_fn c152_b_inj ((l, a) : (List TEntry) × Int) rfl rfl
theorem c152_b_pc (l : List TEntry) (a : Int) (hpre : l.length ≤ 1099511627776) : PCo Try.prog 152 ([encLTEntry l, .fn (.func 153) [] [.el (dI a)]]) (Tab.of ([])) (dI (mSumOf (balOf a) l)) (Tab.of ([])) := by
  refine pco_of_run [] (E := ⟨[c73, c153], []⟩) (m := false) (base := 0) (Env.ok_cons c73_ok (Env.ok_cons c153_ok Env.ok_nil)) G_ok mix 300 6 Try.func152 (by kernel_rfl) rfl (by kernel_rfl) (by kernel_rfl) rfl ?_
  simp [Try.f152]
  refine ⟨hpre, fun h => by rw [mSumOf_no h], fun h => ?_⟩
  have he := entries_of h
  have hg : ∀ x ∈ l, -10000000 ≤ balOf a x ∧ balOf a x ≤ 10000000 := fun x hx => balOf_bd (he.2 x hx)
  rw [mSumOf_yes h]
  refine loop_inv (fun p : Nat => p ≤ l.length) (fun p => [(1, .fn (.func 153) [] [.el (dI a)]), (5, dI (sumBy (balOf a) (l.take p))), (11, encLTEntry l), (12, dI l.length), (13, dI p)]) (fun _ => []) 1 (fun p => l.length - p) 0 400 (by simp) (by simp) (by simp [sumBy]) ?_
  intro p hp
  simp
  refine ⟨fun hlt => ?_, fun hge => ?_⟩
  · have hs := sumBy_at (g := balOf a) hlt
    have hb := sumBy_bd hg p hp
    have hx := entry_of (he.2 _ (getD_mem (d := default) hlt))
    have hy := hg _ (getD_mem (d := default) hlt)
    repeat' (first | omega | refine And.intro ?_ ?_ | intro _)
    all_goals (refine Again.mk (p + 1) (by omega) (by simp [hs]) (by first | omega | (simp; omega)))
  · rw [List.take_of_length_le hge]
theorem c152_b_ok : c152_b.ok Try.prog := mkCon_ok fun ⟨l, a⟩ hpre => c152_b_pc l a hpre
/-- loop.example/g03007/impl.sumOf -/
noncomputable def c152_p : Con := mkCon 152 false (α := (List TEntry) × Int) (fun x => (fun (l : List TEntry) (a : Int) => ([encLTEntry l, .fn (.func 154) [] [.el (dI a)]] : List D)) x.1 x.2) (fun x => (fun (l : List TEntry) (a : Int) => ([] : List (Nm × OO))) x.1 x.2) (fun x => (fun (l : List TEntry) (a : Int) => l.length ≤ 1099511627776) x.1 x.2) (fun x => (fun (l : List TEntry) (a : Int) => (dI (mSumOf (paidOf a) l) : D)) x.1 x.2) (fun x => (fun (l : List TEntry) (a : Int) => ([] : List (Nm × OO))) x.1 x.2)
@[simp] theorem c152_p_f : c152_p.f = 152 := rfl
@[simp] theorem c152_p_own : c152_p.own = false := rfl
theorem c152_p_inj : ∀ u_ v_ : (List TEntry) × Int, ((fun x => (fun (l : List TEntry) (a : Int) => ([encLTEntry l, .fn (.func 154) [] [.el (dI a)]] : List D)) x.1 x.2) u_).map nz = ((fun x => (fun (l : List TEntry) (a : Int) => ([encLTEntry l, .fn (.func 154) [] [.el (dI a)]] : List D)) x.1 x.2) v_).map nz → (fun x => (fun (l : List TEntry) (a : Int) => ([] : List (Nm × OO))) x.1 x.2) u_ = (fun x => (fun (l : List TEntry) (a : Int) => ([] : List (Nm × OO))) x.1 x.2) v_ → u_ = v_ := by
  intro u_ v_ h h2_
  obtain ⟨l, a⟩ := u_
  obtain ⟨l', a'⟩ := v_
  simp [nz_lit, nz1_lit, nz_agg, nz_sl, nz1_sl, nz_sx, nz_el, nz1_el, nz_own, nz1_own, nz_ptr, nz_fn, nz_iface] at h h2_
  first | (simp [h, h2_]; done) | simp_all | grind
@[simp] theorem c152_p_fn (l : List TEntry) (a : Int) : c152_p.fn ([(.sl false 4 yTEntry (ML encTEntry l)), .fn (.func 154) [] [.el (dI a)]]) ([]) = some (l.length ≤ 1099511627776, dI (mSumOf (paidOf a) l), []) :=
  mkCon_fn c152_p_inj ((l, a) : (List TEntry) × Int) rfl rfl
theorem c152_p_pc (l : List TEntry) (a : Int) (hpre : l.length ≤ 1099511627776) : PCo Try.prog 152 ([encLTEntry l, .fn (.func 154) [] [.el (dI a)]]) (Tab.of ([])) (dI (mSumOf (paidOf a) l)) (Tab.of ([])) := by
  refine pco_of_run [] (E := ⟨[c73, c154], []⟩) (m := false) (base := 0) (Env.ok_cons c73_ok (Env.ok_cons c154_ok Env.ok_nil)) G_ok mix 300 6 Try.func152 (by kernel_rfl) rfl (by kernel_rfl) (by kernel_rfl) rfl ?_
  simp [Try.f152]
  refine ⟨hpre, fun h => by rw [mSumOf_no h], fun h => ?_⟩
  have he := entries_of h
  have hg : ∀ x ∈ l, -10000000 ≤ paidOf a x ∧ paidOf a x ≤ 10000000 := fun x hx => paidOf_bd (he.2 x hx)
  rw [mSumOf_yes h]
  refine loop_inv (fun p : Nat => p ≤ l.length) (fun p => [(1, .fn (.func 154) [] [.el (dI a)]), (5, dI (sumBy (paidOf a) (l.take p))), (11, encLTEntry l), (12, dI l.length), (13, dI p)]) (fun _ => []) 1 (fun p => l.length - p) 0 400 (by simp) (by simp) (by simp [sumBy]) ?_
  intro p hp
  simp
  refine ⟨fun hlt => ?_, fun hge => ?_⟩
  · have hs := sumBy_at (g := paidOf a) hlt
    have hb := sumBy_bd hg p hp
    have hy := hg _ (getD_mem (d := default) hlt)
    repeat' (first | omega | refine And.intro ?_ ?_ | intro _)
    all_goals (refine Again.mk (p + 1) (by omega) (by simp [hs]) (by first | omega | (simp; omega)))
  · rw [List.take_of_length_le hge]
theorem c152_p_ok : c152_p.ok Try.prog := mkCon_ok fun ⟨l, a⟩ hpre => c152_p_pc l a hpre
noncomputable def c152 : Con := selCon 152 false [([153], c152_b), ([154], c152_p)]
@[simp] theorem c152_f : c152.f = 152 := rfl
@[simp] theorem c152_own : c152.own = false := rfl
@[simp] theorem c152_fn0 (l : List TEntry) (a : Int) : c152.fn ([(.sl false 4 yTEntry (ML encTEntry l)), .fn (.func 153) [] [.el (dI a)]]) ([]) = some (l.length ≤ 1099511627776, dI (mSumOf (balOf a) l), []) := by
  rw [c152, selCon_fn]
  have h : selK [([153], c152_b), ([154], c152_p)] (keyDs ([(.sl false 4 yTEntry (ML encTEntry l)), .fn (.func 153) [] [.el (dI a)]])) = some c152_b := by simp
  rw [h]
  exact c152_b_fn l a
@[simp] theorem c152_fn1 (l : List TEntry) (a : Int) : c152.fn ([(.sl false 4 yTEntry (ML encTEntry l)), .fn (.func 154) [] [.el (dI a)]]) ([]) = some (l.length ≤ 1099511627776, dI (mSumOf (paidOf a) l), []) := by
  rw [c152, selCon_fn]
  have h : selK [([153], c152_b), ([154], c152_p)] (keyDs ([(.sl false 4 yTEntry (ML encTEntry l)), .fn (.func 154) [] [.el (dI a)]])) = some c152_p := by simp
  rw [h]
  exact c152_p_fn l a
theorem c152_ok : c152.ok Try.prog := selCon_ok fun p hp => by
  simp only [List.mem_cons, List.not_mem_nil, or_false] at hp
  rcases hp with rfl | rfl
  · exact ⟨rfl, c152_b_ok⟩
  · exact ⟨rfl, c152_p_ok⟩
/-- loop.example/g03007/impl.Balance -/
noncomputable def c76 : Con := mkCon 76 false (α := (List TEntry) × Int) (fun x => (fun (l : List TEntry) (a : Int) => [encLTEntry l, dI a]) x.1 x.2) (fun _ => []) (fun x => (fun (l : List TEntry) (a : Int) => l.length ≤ 1099511627776) x.1 x.2) (fun x => (fun (l : List TEntry) (a : Int) => (dI (mSumOf (balOf a) l) : D)) x.1 x.2) (fun x => (fun (l : List TEntry) (a : Int) => []) x.1 x.2)
@[simp] theorem c76_f : c76.f = 76 := rfl
@[simp] theorem c76_own : c76.own = false := rfl
theorem c76_inj : ∀ u_ v_ : (List TEntry) × Int, ((fun x => (fun (l : List TEntry) (a : Int) => [encLTEntry l, dI a]) x.1 x.2) u_).map nz = ((fun x => (fun (l : List TEntry) (a : Int) => [encLTEntry l, dI a]) x.1 x.2) v_).map nz → u_ = v_ := by
  intro u_ v_ h
  obtain ⟨l, a⟩ := u_
  obtain ⟨l', a'⟩ := v_
  simp [nz_lit, nz1_lit, nz_agg, nz_sl, nz1_sl, encLTEntry] at h
  first | (simp [h]; done) | (obtain ⟨⟩ := h; simp_all; done) | simp_all
@[simp] theorem c76_fn (l : List TEntry) (a : Int) : c76.fn [.sl false 4 yTEntry (ML encTEntry l), .lit (.int .i64 a)] [] = some ((fun (l : List TEntry) (a : Int) => l.length ≤ 1099511627776) l a, (fun (l : List TEntry) (a : Int) => (dI (mSumOf (balOf a) l) : D)) l a, (fun (l : List TEntry) (a : Int) => []) l a) :=
  mkCon_fn (fun x y h _ => c76_inj x y h) ((l, a) : (List TEntry) × Int) (by simp [nz, nz1, ML_nil, encLTEntry]) rfl
@[simp] theorem c76_fn1 (s_l : Nat) (z_l : D) (a : Int) : c76.fn [.sl false s_l z_l [], .lit (.int .i64 a)] [] = some ((fun (l : List TEntry) (a : Int) => l.length ≤ 1099511627776) [] a, (fun (l : List TEntry) (a : Int) => (dI (mSumOf (balOf a) l) : D)) [] a, (fun (l : List TEntry) (a : Int) => []) [] a) :=
  mkCon_fn (fun x y h _ => c76_inj x y h) (([], a) : (List TEntry) × Int) (by simp [nz, nz1, ML_nil, encLTEntry]) rfl
theorem c76_pc (l : List TEntry) (a : Int) (hpre : l.length ≤ 1099511627776) : PCo Try.prog 76 [encLTEntry l, dI a] (Tab.of []) (dI (mSumOf (balOf a) l)) (Tab.of []) := by
  refine pco_of_run [] (E := ⟨[c152, c153], []⟩) (m := false) (base := 0) (Env.ok_cons c152_ok (Env.ok_cons c153_ok Env.ok_nil)) G_ok mix 300 6 Try.func76 (by kernel_rfl) rfl (by kernel_rfl) (by kernel_rfl) rfl ?_
  simp [Try.f76]
  exact hpre
theorem c76_ok : c76.ok Try.prog := mkCon_ok fun ⟨l, a⟩ hpre => c76_pc l a hpre
/-- loop.example/g03007/impl.TotalPaid -/
noncomputable def c78 : Con := mkCon 78 false (α := (List TEntry) × Int) (fun x => (fun (l : List TEntry) (a : Int) => [encLTEntry l, dI a]) x.1 x.2) (fun _ => []) (fun x => (fun (l : List TEntry) (a : Int) => l.length ≤ 1099511627776) x.1 x.2) (fun x => (fun (l : List TEntry) (a : Int) => (dI (mSumOf (paidOf a) l) : D)) x.1 x.2) (fun x => (fun (l : List TEntry) (a : Int) => []) x.1 x.2)
@[simp] theorem c78_f : c78.f = 78 := rfl
@[simp] theorem c78_own : c78.own = false := rfl
theorem c78_inj : ∀ u_ v_ : (List TEntry) × Int, ((fun x => (fun (l : List TEntry) (a : Int) => [encLTEntry l, dI a]) x.1 x.2) u_).map nz = ((fun x => (fun (l : List TEntry) (a : Int) => [encLTEntry l, dI a]) x.1 x.2) v_).map nz → u_ = v_ := by
  intro u_ v_ h
  obtain ⟨l, a⟩ := u_
  obtain ⟨l', a'⟩ := v_
  simp [nz_lit, nz1_lit, nz_agg, nz_sl, nz1_sl, encLTEntry] at h
  first | (simp [h]; done) | (obtain ⟨⟩ := h; simp_all; done) | simp_all
@[simp] theorem c78_fn (l : List TEntry) (a : Int) : c78.fn [.sl false 4 yTEntry (ML encTEntry l), .lit (.int .i64 a)] [] = some ((fun (l : List TEntry) (a : Int) => l.length ≤ 1099511627776) l a, (fun (l : List TEntry) (a : Int) => (dI (mSumOf (paidOf a) l) : D)) l a, (fun (l : List TEntry) (a : Int) => []) l a) :=
  mkCon_fn (fun x y h _ => c78_inj x y h) ((l, a) : (List TEntry) × Int) (by simp [nz, nz1, ML_nil, encLTEntry]) rfl
@[simp] theorem c78_fn1 (s_l : Nat) (z_l : D) (a : Int) : c78.fn [.sl false s_l z_l [], .lit (.int .i64 a)] [] = some ((fun (l : List TEntry) (a : Int) => l.length ≤ 1099511627776) [] a, (fun (l : List TEntry) (a : Int) => (dI (mSumOf (paidOf a) l) : D)) [] a, (fun (l : List TEntry) (a : Int) => []) [] a) :=
  mkCon_fn (fun x y h _ => c78_inj x y h) (([], a) : (List TEntry) × Int) (by simp [nz, nz1, ML_nil, encLTEntry]) rfl
theorem c78_pc (l : List TEntry) (a : Int) (hpre : l.length ≤ 1099511627776) : PCo Try.prog 78 [encLTEntry l, dI a] (Tab.of []) (dI (mSumOf (paidOf a) l)) (Tab.of []) := by
  refine pco_of_run [] (E := ⟨[c152, c154], []⟩) (m := false) (base := 0) (Env.ok_cons c152_ok (Env.ok_cons c154_ok Env.ok_nil)) G_ok mix 300 6 Try.func78 (by kernel_rfl) rfl (by kernel_rfl) (by kernel_rfl) rfl ?_
  simp [Try.f78]
  exact hpre
theorem c78_ok : c78.ok Try.prog := mkCon_ok fun ⟨l, a⟩ hpre => c78_pc l a hpre
/-- loop.example/g03007/spec.Balance -/
noncomputable def c75 : Con := mkCon 75 false (α := (List TEntry) × Int) (fun x => (fun (l : List TEntry) (a : Int) => [encLTEntry l, dI a]) x.1 x.2) (fun _ => []) (fun x => (fun (l : List TEntry) (a : Int) => l.length ≤ 1099511627776) x.1 x.2) (fun x => (fun (l : List TEntry) (a : Int) => (dI (mSumOf (balOf a) l) : D)) x.1 x.2) (fun x => (fun (l : List TEntry) (a : Int) => []) x.1 x.2)
@[simp] theorem c75_f : c75.f = 75 := rfl
@[simp] theorem c75_own : c75.own = false := rfl
theorem c75_inj : ∀ u_ v_ : (List TEntry) × Int, ((fun x => (fun (l : List TEntry) (a : Int) => [encLTEntry l, dI a]) x.1 x.2) u_).map nz = ((fun x => (fun (l : List TEntry) (a : Int) => [encLTEntry l, dI a]) x.1 x.2) v_).map nz → u_ = v_ := by
  intro u_ v_ h
  obtain ⟨l, a⟩ := u_
  obtain ⟨l', a'⟩ := v_
  simp [nz_lit, nz1_lit, nz_agg, nz_sl, nz1_sl, encLTEntry] at h
  first | (simp [h]; done) | (obtain ⟨⟩ := h; simp_all; done) | simp_all
@[simp] theorem c75_fn (l : List TEntry) (a : Int) : c75.fn [.sl false 4 yTEntry (ML encTEntry l), .lit (.int .i64 a)] [] = some ((fun (l : List TEntry) (a : Int) => l.length ≤ 1099511627776) l a, (fun (l : List TEntry) (a : Int) => (dI (mSumOf (balOf a) l) : D)) l a, (fun (l : List TEntry) (a : Int) => []) l a) :=
  mkCon_fn (fun x y h _ => c75_inj x y h) ((l, a) : (List TEntry) × Int) (by simp [nz, nz1, ML_nil, encLTEntry]) rfl
@[simp] theorem c75_fn1 (s_l : Nat) (z_l : D) (a : Int) : c75.fn [.sl false s_l z_l [], .lit (.int .i64 a)] [] = some ((fun (l : List TEntry) (a : Int) => l.length ≤ 1099511627776) [] a, (fun (l : List TEntry) (a : Int) => (dI (mSumOf (balOf a) l) : D)) [] a, (fun (l : List TEntry) (a : Int) => []) [] a) :=
  mkCon_fn (fun x y h _ => c75_inj x y h) (([], a) : (List TEntry) × Int) (by simp [nz, nz1, ML_nil, encLTEntry]) rfl
theorem c75_pc (l : List TEntry) (a : Int) (hpre : l.length ≤ 1099511627776) : PCo Try.prog 75 [encLTEntry l, dI a] (Tab.of []) (dI (mSumOf (balOf a) l)) (Tab.of []) := by
  refine pco_of_run [] (E := ⟨[c71], []⟩) (m := false) (base := 0) (Env.ok_cons c71_ok Env.ok_nil) G_ok mix 300 6 Try.func75 (by kernel_rfl) rfl (by kernel_rfl) (by kernel_rfl) rfl ?_
  simp [Try.f75]
  refine loop_inv (fun p : Nat => p ≤ l.length ∧ (mAreEntries l = false → p = 0)) (fun p => [(0, encLTEntry l), (1, dI a), (5, dI (sumBy (balOf a) (l.take p))), (6, dI p)]) (fun _ => []) 1 (fun p => l.length - p) 0 400 (by simp) (by simp) (by simp [sumBy]) ?_
  intro p ⟨hp, h0⟩
  simp
  refine ⟨fun _ => hpre, fun hlt ha => ?_, fun hge => ?_⟩
  · have he := entries_of ha
    have hg : ∀ x ∈ l, -10000000 ≤ balOf a x ∧ balOf a x ≤ 10000000 := fun x hx => balOf_bd (he.2 x hx)
    have hs := sumBy_at (g := balOf a) hlt
    have hb := sumBy_bd hg p hp
    have hx := entry_of (he.2 _ (getD_mem (d := default) hlt))
    have hd : balOf a (l[p]?.getD default) = if (l[p]?.getD default).To = a then (l[p]?.getD default).Cents else if (l[p]?.getD default).From = a then -(l[p]?.getD default).Cents else 0 := rfl
    repeat' (first | omega | refine And.intro ?_ ?_ | intro _)
    all_goals (refine Again.mk (p + 1) ⟨by omega, by simp [ha]⟩ (by simp [hs, hd]; grind) (by first | omega | (simp; omega)))
  · cases ha : mAreEntries l with
    | true => rw [mSumOf_yes ha]; simp [ha] at hge; rw [List.take_of_length_le hge]
    | false => rw [mSumOf_no ha, h0 ha]; rfl
theorem c75_ok : c75.ok Try.prog := mkCon_ok fun ⟨l, a⟩ hpre => c75_pc l a hpre
/-- loop.example/g03007/spec.TotalPaid -/
noncomputable def c77 : Con := mkCon 77 false (α := (List TEntry) × Int) (fun x => (fun (l : List TEntry) (a : Int) => [encLTEntry l, dI a]) x.1 x.2) (fun _ => []) (fun x => (fun (l : List TEntry) (a : Int) => l.length ≤ 1099511627776) x.1 x.2) (fun x => (fun (l : List TEntry) (a : Int) => (dI (mSumOf (paidOf a) l) : D)) x.1 x.2) (fun x => (fun (l : List TEntry) (a : Int) => []) x.1 x.2)
@[simp] theorem c77_f : c77.f = 77 := rfl
@[simp] theorem c77_own : c77.own = false := rfl
theorem c77_inj : ∀ u_ v_ : (List TEntry) × Int, ((fun x => (fun (l : List TEntry) (a : Int) => [encLTEntry l, dI a]) x.1 x.2) u_).map nz = ((fun x => (fun (l : List TEntry) (a : Int) => [encLTEntry l, dI a]) x.1 x.2) v_).map nz → u_ = v_ := by
  intro u_ v_ h
  obtain ⟨l, a⟩ := u_
  obtain ⟨l', a'⟩ := v_
  simp [nz_lit, nz1_lit, nz_agg, nz_sl, nz1_sl, encLTEntry] at h
  first | (simp [h]; done) | (obtain ⟨⟩ := h; simp_all; done) | simp_all
@[simp] theorem c77_fn (l : List TEntry) (a : Int) : c77.fn [.sl false 4 yTEntry (ML encTEntry l), .lit (.int .i64 a)] [] = some ((fun (l : List TEntry) (a : Int) => l.length ≤ 1099511627776) l a, (fun (l : List TEntry) (a : Int) => (dI (mSumOf (paidOf a) l) : D)) l a, (fun (l : List TEntry) (a : Int) => []) l a) :=
  mkCon_fn (fun x y h _ => c77_inj x y h) ((l, a) : (List TEntry) × Int) (by simp [nz, nz1, ML_nil, encLTEntry]) rfl
@[simp] theorem c77_fn1 (s_l : Nat) (z_l : D) (a : Int) : c77.fn [.sl false s_l z_l [], .lit (.int .i64 a)] [] = some ((fun (l : List TEntry) (a : Int) => l.length ≤ 1099511627776) [] a, (fun (l : List TEntry) (a : Int) => (dI (mSumOf (paidOf a) l) : D)) [] a, (fun (l : List TEntry) (a : Int) => []) [] a) :=
  mkCon_fn (fun x y h _ => c77_inj x y h) (([], a) : (List TEntry) × Int) (by simp [nz, nz1, ML_nil, encLTEntry]) rfl
theorem c77_pc (l : List TEntry) (a : Int) (hpre : l.length ≤ 1099511627776) : PCo Try.prog 77 [encLTEntry l, dI a] (Tab.of []) (dI (mSumOf (paidOf a) l)) (Tab.of []) := by
  refine pco_of_run [] (E := ⟨[c71], []⟩) (m := false) (base := 0) (Env.ok_cons c71_ok Env.ok_nil) G_ok mix 300 6 Try.func77 (by kernel_rfl) rfl (by kernel_rfl) (by kernel_rfl) rfl ?_
  simp [Try.f77]
  refine loop_inv (fun p : Nat => p ≤ l.length ∧ (mAreEntries l = false → p = 0)) (fun p => [(0, encLTEntry l), (1, dI a), (5, dI (sumBy (paidOf a) (l.take p))), (6, dI p)]) (fun _ => []) 1 (fun p => l.length - p) 0 400 (by simp) (by simp) (by simp [sumBy]) ?_
  intro p ⟨hp, h0⟩
  simp
  refine ⟨fun _ => hpre, fun hlt ha => ?_, fun hge => ?_⟩
  · have he := entries_of ha
    have hg : ∀ x ∈ l, -10000000 ≤ paidOf a x ∧ paidOf a x ≤ 10000000 := fun x hx => paidOf_bd (he.2 x hx)
    have hs := sumBy_at (g := paidOf a) hlt
    have hb := sumBy_bd hg p hp
    have hx := entry_of (he.2 _ (getD_mem (d := default) hlt))
    have hd : paidOf a (l[p]?.getD default) = if (l[p]?.getD default).From = a then (l[p]?.getD default).Cents else 0 := rfl
    repeat' (first | omega | refine And.intro ?_ ?_ | intro _)
    all_goals (refine Again.mk (p + 1) ⟨by omega, by simp [ha]⟩ (by simp [hs, hd]; grind) (by first | omega | (simp; omega)))
  · cases ha : mAreEntries l with
    | true => rw [mSumOf_yes ha]; simp [ha] at hge; rw [List.take_of_length_le hge]
    | false => rw [mSumOf_no ha, h0 ha]; rfl
theorem c77_ok : c77.ok Try.prog := mkCon_ok fun ⟨l, a⟩ hpre => c77_pc l a hpre
/-- loop.example/g03007/laws.FnExactBalance -/
theorem law17 (l : List TEntry) (wl : wfLTEntry l) (a : Int) (wa : inR .i64 a) : PCo Try.prog 17 [encLTEntry l, dI a] (Tab.of []) (dB true) (Tab.of []) := by
  refine pco_of_run [] (E := ⟨[c70, c72, c74, c75, c76], []⟩) (m := false) (base := 0) (Env.ok_cons c70_ok (Env.ok_cons c72_ok (Env.ok_cons c74_ok (Env.ok_cons c75_ok (Env.ok_cons c76_ok Env.ok_nil))))) G_ok mix 400 6 Try.func17 (by kernel_rfl) rfl (by kernel_rfl) (by kernel_rfl) rfl ?_
  simp [Try.f17]
  have h_l : l.length ≤ maxLen := wl.1
  repeat' (first | omega | assumption | refine And.intro ?_ ?_ | intro _)
  all_goals first | omega | grind | (split at * <;> omega)
theorem law17_pc (D0 : D) (h0 : Sh G 9 73 D0) (D1 : D) (h1 : Sh G 9 3 D1) : PC Try.prog 17 [D0, D1] (dB true) [] := by
  obtain ⟨l, rfl, wl⟩ := sh73 (n := 6) h0
  obtain ⟨a, rfl, wa⟩ := sh3 (n := 8) h1
  exact law17 l wl a wa
/-- loop.example/g03007/laws.FnExactTotalPaid -/
theorem law18 (l : List TEntry) (wl : wfLTEntry l) (a : Int) (wa : inR .i64 a) : PCo Try.prog 18 [encLTEntry l, dI a] (Tab.of []) (dB true) (Tab.of []) := by
  refine pco_of_run [] (E := ⟨[c70, c72, c74, c77, c78], []⟩) (m := false) (base := 0) (Env.ok_cons c70_ok (Env.ok_cons c72_ok (Env.ok_cons c74_ok (Env.ok_cons c77_ok (Env.ok_cons c78_ok Env.ok_nil))))) G_ok mix 400 6 Try.func18 (by kernel_rfl) rfl (by kernel_rfl) (by kernel_rfl) rfl ?_
  simp [Try.f18]
  have h_l : l.length ≤ maxLen := wl.1
  repeat' (first | omega | assumption | refine And.intro ?_ ?_ | intro _)
  all_goals first | omega | grind | (split at * <;> omega)
theorem law18_pc (D0 : D) (h0 : Sh G 9 73 D0) (D1 : D) (h1 : Sh G 9 3 D1) : PC Try.prog 18 [D0, D1] (dB true) [] := by
  obtain ⟨l, rfl, wl⟩ := sh73 (n := 6) h0
  obtain ⟨a, rfl, wa⟩ := sh3 (n := 8) h1
  exact law18 l wl a wa

end Go.Proofs.Ytadipfpojlceeaa
