/- Contracts of the functions that the laws run. -/
import Derived.Test.Ytdbhfkbfajljpaach29x
import Derived.Test.YtdbhfkbfajljpaaEngB
namespace Go.Proofs.Ytdbhfkbfajljpaa
open Go Go.Eng
set_option linter.unusedSimpArgs false
set_option linter.unusedVariables false
set_option maxRecDepth 10000
set_option maxHeartbeats 1000000
theorem upFrom_mem : ∀ {l : List TEntry} {e : Int}, upFrom e l = true → ∀ x ∈ l, mIsEntry x = true
  | [], _, _, _, hx => by simp at hx
  | y :: r, e, h, x, hx => by
    simp only [upFrom, Bool.and_eq_true] at h
    rcases List.mem_cons.1 hx with rfl | hx
    · exact h.1.1
    · exact upFrom_mem h.2 x hx
def sumBy (g : TEntry → Int) (l : List TEntry) : Int := l.foldl (fun n x => n + g x) 0
theorem sumBy_at {g : TEntry → Int} {l : List TEntry} {p : Nat} (h : p < l.length) : sumBy g (l.take (p + 1)) = sumBy g (l.take p) + g (l[p]?.getD default) := by
  simp only [sumBy]; rw [foldl_at (d := default) h]
theorem sumBy_bd {g : TEntry → Int} {l : List TEntry} (hg : ∀ x ∈ l, -10000000 ≤ g x ∧ g x ≤ 10000000) : ∀ (p : Nat), p ≤ l.length → -10000000 * (p : Int) ≤ sumBy g (l.take p) ∧ sumBy g (l.take p) ≤ 10000000 * p
  | 0, _ => by simp [sumBy]
  | p + 1, h => by
    have h1 := sumBy_bd hg p (by omega)
    have h2 := hg _ (getD_mem (d := default) (show p < l.length by omega))
    rw [sumBy_at (by omega)]
    omega
theorem entry_of {x : TEntry} (h : mIsEntry x = true) : ¬ x.From = x.To ∧ 1 ≤ x.Cents ∧ x.Cents ≤ 10000000 := by
  simp [mIsEntry, mIn] at h; omega
def balOf (a : Int) (x : TEntry) : Int := if x.To = a then x.Cents else if x.From = a then -x.Cents else 0
def paidOf (a : Int) (x : TEntry) : Int := if x.From = a then x.Cents else 0
theorem balOf_bd {a : Int} {x : TEntry} (h : mIsEntry x = true) : -10000000 ≤ balOf a x ∧ balOf a x ≤ 10000000 := by
  have := entry_of h
  simp only [balOf]; (repeat' split) <;> omega
theorem paidOf_bd {a : Int} {x : TEntry} (h : mIsEntry x = true) : -10000000 ≤ paidOf a x ∧ paidOf a x ≤ 10000000 := by
  have := entry_of h
  simp only [paidOf]; (repeat' split) <;> omega
def mSumOf (g : TEntry → Int) (l : List TEntry) : Int := if mAreEntries l then sumBy g l else 0
theorem mSumOf_yes {g : TEntry → Int} {l : List TEntry} (h : mAreEntries l = true) : mSumOf g l = sumBy g l := by simp [mSumOf, h]
theorem mSumOf_no {g : TEntry → Int} {l : List TEntry} (h : mAreEntries l = false) : mSumOf g l = 0 := by simp [mSumOf, h]
theorem entries_of {l : List TEntry} (h : mAreEntries l = true) : l.length ≤ 100 ∧ ∀ x ∈ l, mIsEntry x = true := by
  simp only [mAreEntries, Bool.and_eq_true, decide_eq_true_eq] at h
  exact ⟨h.1, upFrom_mem h.2⟩
/-- loop.example/g03007/impl.Balance$1 -/
noncomputable def c48 : Con := mkCon 48 false (α := TEntry × Int) (fun x => (fun (x : TEntry) (a : Int) => ([encTEntry x, .el (dI a)] : List D)) x.1 x.2) (fun x => (fun (x : TEntry) (a : Int) => ([] : List (Nm × OO))) x.1 x.2) (fun x => (fun (x : TEntry) (a : Int) => -10000000 ≤ x.Cents ∧ x.Cents ≤ 10000000) x.1 x.2) (fun x => (fun (x : TEntry) (a : Int) => (dI (balOf a x) : D)) x.1 x.2) (fun x => (fun (x : TEntry) (a : Int) => ([] : List (Nm × OO))) x.1 x.2)
@[simp] theorem c48_f : c48.f = 48 := rfl
@[simp] theorem c48_own : c48.own = false := rfl
theorem c48_inj : ∀ u_ v_ : TEntry × Int, ((fun x => (fun (x : TEntry) (a : Int) => ([encTEntry x, .el (dI a)] : List D)) x.1 x.2) u_).map nz = ((fun x => (fun (x : TEntry) (a : Int) => ([encTEntry x, .el (dI a)] : List D)) x.1 x.2) v_).map nz → (fun x => (fun (x : TEntry) (a : Int) => ([] : List (Nm × OO))) x.1 x.2) u_ = (fun x => (fun (x : TEntry) (a : Int) => ([] : List (Nm × OO))) x.1 x.2) v_ → u_ = v_ := by
  intro u_ v_ h h2_
  obtain ⟨⟨x_From, x_To, x_Cents, x_At⟩, a⟩ := u_
  obtain ⟨⟨x_From', x_To', x_Cents', x_At'⟩, a'⟩ := v_
  simp [nz_lit, nz1_lit, nz_agg, nz_sl, nz1_sl, nz_sx, nz_el, nz1_el, nz_own, nz1_own, nz_ptr, nz_fn, nz_iface] at h h2_
  first | (simp [h, h2_]; done) | (obtain ⟨h3_, h4_⟩ := List.append_inj h2_ h.1; simp_all; done) | simp_all | grind
@[simp] theorem c48_fn (x_From : Int) (x_To : Int) (x_Cents : Int) (x_At : Int) (a : Int) : c48.fn ([.agg [.lit (.int .i64 x_From), .lit (.int .i64 x_To), .lit (.int .i64 x_Cents), .lit (.int .i64 x_At)], .el (dI a)]) ([]) = some (-10000000 ≤ (⟨x_From, x_To, x_Cents, x_At⟩ : TEntry).Cents ∧ (⟨x_From, x_To, x_Cents, x_At⟩ : TEntry).Cents ≤ 10000000, dI (balOf a (⟨x_From, x_To, x_Cents, x_At⟩ : TEntry)), []) :=
  mkCon_fn c48_inj ((⟨x_From, x_To, x_Cents, x_At⟩, a) : TEntry × Int) rfl rfl
theorem c48_pc (x : TEntry) (a : Int) (hpre : -10000000 ≤ x.Cents ∧ x.Cents ≤ 10000000) : PCo Try.prog 48 ([encTEntry x, .el (dI a)]) (Tab.of ([])) (dI (balOf a x)) (Tab.of ([])) := by
  refine pco_of_run [] (E := ⟨[], [], []⟩) (m := false) (base := 0) Env.ok_nil G_ok mix 300 6 Try.func48 (by kernel_rfl) rfl (by kernel_rfl) (by kernel_rfl) rfl ?_
  simp [Try.f48]
  repeat' (first | omega | refine And.intro ?_ ?_ | intro _)
  all_goals (simp only [balOf]; (repeat' split) <;> omega)
theorem c48_ok : c48.ok Try.prog := mkCon_ok fun ⟨x, a⟩ hpre => c48_pc x a hpre
/-- loop.example/g03007/impl.TotalPaid$1 -/
noncomputable def c50 : Con := mkCon 50 false (α := TEntry × Int) (fun x => (fun (x : TEntry) (a : Int) => ([encTEntry x, .el (dI a)] : List D)) x.1 x.2) (fun x => (fun (x : TEntry) (a : Int) => ([] : List (Nm × OO))) x.1 x.2) (fun x => (fun (x : TEntry) (a : Int) => True) x.1 x.2) (fun x => (fun (x : TEntry) (a : Int) => (dI (paidOf a x) : D)) x.1 x.2) (fun x => (fun (x : TEntry) (a : Int) => ([] : List (Nm × OO))) x.1 x.2)
@[simp] theorem c50_f : c50.f = 50 := rfl
@[simp] theorem c50_own : c50.own = false := rfl
theorem c50_inj : ∀ u_ v_ : TEntry × Int, ((fun x => (fun (x : TEntry) (a : Int) => ([encTEntry x, .el (dI a)] : List D)) x.1 x.2) u_).map nz = ((fun x => (fun (x : TEntry) (a : Int) => ([encTEntry x, .el (dI a)] : List D)) x.1 x.2) v_).map nz → (fun x => (fun (x : TEntry) (a : Int) => ([] : List (Nm × OO))) x.1 x.2) u_ = (fun x => (fun (x : TEntry) (a : Int) => ([] : List (Nm × OO))) x.1 x.2) v_ → u_ = v_ := by
  intro u_ v_ h h2_
  obtain ⟨⟨x_From, x_To, x_Cents, x_At⟩, a⟩ := u_
  obtain ⟨⟨x_From', x_To', x_Cents', x_At'⟩, a'⟩ := v_
  simp [nz_lit, nz1_lit, nz_agg, nz_sl, nz1_sl, nz_sx, nz_el, nz1_el, nz_own, nz1_own, nz_ptr, nz_fn, nz_iface] at h h2_
  first | (simp [h, h2_]; done) | (obtain ⟨h3_, h4_⟩ := List.append_inj h2_ h.1; simp_all; done) | simp_all | grind
@[simp] theorem c50_fn (x_From : Int) (x_To : Int) (x_Cents : Int) (x_At : Int) (a : Int) : c50.fn ([.agg [.lit (.int .i64 x_From), .lit (.int .i64 x_To), .lit (.int .i64 x_Cents), .lit (.int .i64 x_At)], .el (dI a)]) ([]) = some (True, dI (paidOf a (⟨x_From, x_To, x_Cents, x_At⟩ : TEntry)), []) :=
  mkCon_fn c50_inj ((⟨x_From, x_To, x_Cents, x_At⟩, a) : TEntry × Int) rfl rfl
theorem c50_pc (x : TEntry) (a : Int) : PCo Try.prog 50 ([encTEntry x, .el (dI a)]) (Tab.of ([])) (dI (paidOf a x)) (Tab.of ([])) := by
  refine pco_of_run [] (E := ⟨[], [], []⟩) (m := false) (base := 0) Env.ok_nil G_ok mix 300 6 Try.func50 (by kernel_rfl) rfl (by kernel_rfl) (by kernel_rfl) rfl ?_
  simp [Try.f50]
  repeat' (first | omega | refine And.intro ?_ ?_ | intro _)
  all_goals (simp only [paidOf]; (repeat' split) <;> omega)
theorem c50_ok : c50.ok Try.prog := mkCon_ok fun ⟨x, a⟩ hpre => c50_pc x a
/-- loop.example/g03007/impl.sumOf -/
noncomputable def c47_b : Con := mkCon 47 false (α := (List TEntry) × Int) (fun x => (fun (l : List TEntry) (a : Int) => ([encLTEntry l, .fn (.func 48) [] [.el (dI a)]] : List D)) x.1 x.2) (fun x => (fun (l : List TEntry) (a : Int) => ([] : List (Nm × OO))) x.1 x.2) (fun x => (fun (l : List TEntry) (a : Int) => l.length ≤ 1099511627776) x.1 x.2) (fun x => (fun (l : List TEntry) (a : Int) => (dI (mSumOf (balOf a) l) : D)) x.1 x.2) (fun x => (fun (l : List TEntry) (a : Int) => ([] : List (Nm × OO))) x.1 x.2)
@[simp] theorem c47_b_f : c47_b.f = 47 := rfl
@[simp] theorem c47_b_own : c47_b.own = false := rfl
theorem c47_b_inj : ∀ u_ v_ : (List TEntry) × Int, ((fun x => (fun (l : List TEntry) (a : Int) => ([encLTEntry l, .fn (.func 48) [] [.el (dI a)]] : List D)) x.1 x.2) u_).map nz = ((fun x => (fun (l : List TEntry) (a : Int) => ([encLTEntry l, .fn (.func 48) [] [.el (dI a)]] : List D)) x.1 x.2) v_).map nz → (fun x => (fun (l : List TEntry) (a : Int) => ([] : List (Nm × OO))) x.1 x.2) u_ = (fun x => (fun (l : List TEntry) (a : Int) => ([] : List (Nm × OO))) x.1 x.2) v_ → u_ = v_ := by
  intro u_ v_ h h2_
  obtain ⟨l, a⟩ := u_
  obtain ⟨l', a'⟩ := v_
  simp [nz_lit, nz1_lit, nz_agg, nz_sl, nz1_sl, nz_sx, nz_el, nz1_el, nz_own, nz1_own, nz_ptr, nz_fn, nz_iface] at h h2_
  first | (simp [h, h2_]; done) | (obtain ⟨h3_, h4_⟩ := List.append_inj h2_ h.1; simp_all; done) | simp_all | grind
@[simp] theorem c47_b_fn (l : List TEntry) (a : Int) : c47_b.fn ([(.sl false 4 yTEntry (ML encTEntry l)), .fn (.func 48) [] [.el (dI a)]]) ([]) = some (l.length ≤ 1099511627776, dI (mSumOf (balOf a) l), []) :=
  mkCon_fn c47_b_inj ((l, a) : (List TEntry) × Int) rfl rfl
theorem c47_b_pc (l : List TEntry) (a : Int) (hpre : l.length ≤ 1099511627776) : PCo Try.prog 47 ([encLTEntry l, .fn (.func 48) [] [.el (dI a)]]) (Tab.of ([])) (dI (mSumOf (balOf a) l)) (Tab.of ([])) := by
  refine pco_of_run [] (E := ⟨[c25, c48], [], []⟩) (m := false) (base := 0) (Env.ok_cons c25_ok (Env.ok_cons c48_ok Env.ok_nil)) G_ok mix 300 6 Try.func47 (by kernel_rfl) rfl (by kernel_rfl) (by kernel_rfl) rfl ?_
  simp [Try.f47]
  refine ⟨hpre, fun h => by rw [mSumOf_no h], fun h => ?_⟩
  have he := entries_of h
  have hg : ∀ x ∈ l, -10000000 ≤ balOf a x ∧ balOf a x ≤ 10000000 := fun x hx => balOf_bd (he.2 x hx)
  rw [mSumOf_yes h]
  refine loop_inv (fun p : Nat => p ≤ l.length) (fun p => [(1, .fn (.func 48) [] [.el (dI a)]), (5, dI (sumBy (balOf a) (l.take p))), (11, encLTEntry l), (12, dI l.length), (13, dI p)]) (fun _ => []) 1 (fun p => l.length - p) 0 400 (by simp) (by simp) (by simp [sumBy]) ?_
  intro p hp
  simp
  refine ⟨fun hlt => ?_, fun hge => ?_⟩
  · have hs := sumBy_at (g := balOf a) hlt
    have hb := sumBy_bd hg p hp
    have hx := entry_of (he.2 _ (getD_mem (d := default) hlt))
    have hy := hg _ (getD_mem (d := default) hlt)
    repeat' (first | omega | refine And.intro ?_ ?_ | intro _)
    all_goals (refine Again.mk (p + 1) (by omega) (by simp [hs]) (by first | omega | (simp; omega)))
  · rw [List.take_of_length_le hge]
theorem c47_b_ok : c47_b.ok Try.prog := mkCon_ok fun ⟨l, a⟩ hpre => c47_b_pc l a hpre
/-- loop.example/g03007/impl.sumOf -/
noncomputable def c47_p : Con := mkCon 47 false (α := (List TEntry) × Int) (fun x => (fun (l : List TEntry) (a : Int) => ([encLTEntry l, .fn (.func 50) [] [.el (dI a)]] : List D)) x.1 x.2) (fun x => (fun (l : List TEntry) (a : Int) => ([] : List (Nm × OO))) x.1 x.2) (fun x => (fun (l : List TEntry) (a : Int) => l.length ≤ 1099511627776) x.1 x.2) (fun x => (fun (l : List TEntry) (a : Int) => (dI (mSumOf (paidOf a) l) : D)) x.1 x.2) (fun x => (fun (l : List TEntry) (a : Int) => ([] : List (Nm × OO))) x.1 x.2)
@[simp] theorem c47_p_f : c47_p.f = 47 := rfl
@[simp] theorem c47_p_own : c47_p.own = false := rfl
theorem c47_p_inj : ∀ u_ v_ : (List TEntry) × Int, ((fun x => (fun (l : List TEntry) (a : Int) => ([encLTEntry l, .fn (.func 50) [] [.el (dI a)]] : List D)) x.1 x.2) u_).map nz = ((fun x => (fun (l : List TEntry) (a : Int) => ([encLTEntry l, .fn (.func 50) [] [.el (dI a)]] : List D)) x.1 x.2) v_).map nz → (fun x => (fun (l : List TEntry) (a : Int) => ([] : List (Nm × OO))) x.1 x.2) u_ = (fun x => (fun (l : List TEntry) (a : Int) => ([] : List (Nm × OO))) x.1 x.2) v_ → u_ = v_ := by
  intro u_ v_ h h2_
  obtain ⟨l, a⟩ := u_
  obtain ⟨l', a'⟩ := v_
  simp [nz_lit, nz1_lit, nz_agg, nz_sl, nz1_sl, nz_sx, nz_el, nz1_el, nz_own, nz1_own, nz_ptr, nz_fn, nz_iface] at h h2_
  first | (simp [h, h2_]; done) | (obtain ⟨h3_, h4_⟩ := List.append_inj h2_ h.1; simp_all; done) | simp_all | grind
@[simp] theorem c47_p_fn (l : List TEntry) (a : Int) : c47_p.fn ([(.sl false 4 yTEntry (ML encTEntry l)), .fn (.func 50) [] [.el (dI a)]]) ([]) = some (l.length ≤ 1099511627776, dI (mSumOf (paidOf a) l), []) :=
  mkCon_fn c47_p_inj ((l, a) : (List TEntry) × Int) rfl rfl
theorem c47_p_pc (l : List TEntry) (a : Int) (hpre : l.length ≤ 1099511627776) : PCo Try.prog 47 ([encLTEntry l, .fn (.func 50) [] [.el (dI a)]]) (Tab.of ([])) (dI (mSumOf (paidOf a) l)) (Tab.of ([])) := by
  refine pco_of_run [] (E := ⟨[c25, c50], [], []⟩) (m := false) (base := 0) (Env.ok_cons c25_ok (Env.ok_cons c50_ok Env.ok_nil)) G_ok mix 300 6 Try.func47 (by kernel_rfl) rfl (by kernel_rfl) (by kernel_rfl) rfl ?_
  simp [Try.f47]
  refine ⟨hpre, fun h => by rw [mSumOf_no h], fun h => ?_⟩
  have he := entries_of h
  have hg : ∀ x ∈ l, -10000000 ≤ paidOf a x ∧ paidOf a x ≤ 10000000 := fun x hx => paidOf_bd (he.2 x hx)
  rw [mSumOf_yes h]
  refine loop_inv (fun p : Nat => p ≤ l.length) (fun p => [(1, .fn (.func 50) [] [.el (dI a)]), (5, dI (sumBy (paidOf a) (l.take p))), (11, encLTEntry l), (12, dI l.length), (13, dI p)]) (fun _ => []) 1 (fun p => l.length - p) 0 400 (by simp) (by simp) (by simp [sumBy]) ?_
  intro p hp
  simp
  refine ⟨fun hlt => ?_, fun hge => ?_⟩
  · have hs := sumBy_at (g := paidOf a) hlt
    have hb := sumBy_bd hg p hp
    have hy := hg _ (getD_mem (d := default) hlt)
    repeat' (first | omega | refine And.intro ?_ ?_ | intro _)
    all_goals (refine Again.mk (p + 1) (by omega) (by simp [hs]) (by first | omega | (simp; omega)))
  · rw [List.take_of_length_le hge]
theorem c47_p_ok : c47_p.ok Try.prog := mkCon_ok fun ⟨l, a⟩ hpre => c47_p_pc l a hpre
noncomputable def c47 : Con := selCon 47 false [([48], c47_b), ([50], c47_p)]
@[simp] theorem c47_f : c47.f = 47 := rfl
@[simp] theorem c47_own : c47.own = false := rfl
@[simp] theorem c47_fn0 (l : List TEntry) (a : Int) : c47.fn ([(.sl false 4 yTEntry (ML encTEntry l)), .fn (.func 48) [] [.el (dI a)]]) ([]) = some (l.length ≤ 1099511627776, dI (mSumOf (balOf a) l), []) := by
  rw [c47, selCon_fn]
  have h : selK [([48], c47_b), ([50], c47_p)] (keyDs ([(.sl false 4 yTEntry (ML encTEntry l)), .fn (.func 48) [] [.el (dI a)]])) = some c47_b := by simp
  rw [h]
  exact c47_b_fn l a
@[simp] theorem c47_fn1 (l : List TEntry) (a : Int) : c47.fn ([(.sl false 4 yTEntry (ML encTEntry l)), .fn (.func 50) [] [.el (dI a)]]) ([]) = some (l.length ≤ 1099511627776, dI (mSumOf (paidOf a) l), []) := by
  rw [c47, selCon_fn]
  have h : selK [([48], c47_b), ([50], c47_p)] (keyDs ([(.sl false 4 yTEntry (ML encTEntry l)), .fn (.func 50) [] [.el (dI a)]])) = some c47_p := by simp
  rw [h]
  exact c47_p_fn l a
theorem c47_ok : c47.ok Try.prog := selCon_ok fun p hp => by
  simp only [List.mem_cons, List.not_mem_nil, or_false] at hp
  rcases hp with rfl | rfl
  · exact ⟨rfl, c47_b_ok⟩
  · exact ⟨rfl, c47_p_ok⟩
/-- loop.example/g03007/impl.Balance -/
noncomputable def c23 : Con := mkCon 23 false (α := (List TEntry) × Int) (fun x => (fun (l : List TEntry) (a : Int) => [encLTEntry l, dI a]) x.1 x.2) (fun _ => []) (fun x => (fun (l : List TEntry) (a : Int) => l.length ≤ 1099511627776) x.1 x.2) (fun x => (fun (l : List TEntry) (a : Int) => (dI (mSumOf (balOf a) l) : D)) x.1 x.2) (fun x => (fun (l : List TEntry) (a : Int) => []) x.1 x.2)
@[simp] theorem c23_f : c23.f = 23 := rfl
@[simp] theorem c23_own : c23.own = false := rfl
theorem c23_inj : ∀ u_ v_ : (List TEntry) × Int, ((fun x => (fun (l : List TEntry) (a : Int) => [encLTEntry l, dI a]) x.1 x.2) u_).map nz = ((fun x => (fun (l : List TEntry) (a : Int) => [encLTEntry l, dI a]) x.1 x.2) v_).map nz → u_ = v_ := by
  intro u_ v_ h
  obtain ⟨l, a⟩ := u_
  obtain ⟨l', a'⟩ := v_
  simp [nz_lit, nz1_lit, nz_agg, nz_sl, nz1_sl, encLTEntry] at h
  first | (simp [h]; done) | (obtain ⟨⟩ := h; simp_all; done) | simp_all
@[simp] theorem c23_fn (l : List TEntry) (a : Int) : c23.fn [.sl false 4 yTEntry (ML encTEntry l), .lit (.int .i64 a)] [] = some ((fun (l : List TEntry) (a : Int) => l.length ≤ 1099511627776) l a, (fun (l : List TEntry) (a : Int) => (dI (mSumOf (balOf a) l) : D)) l a, (fun (l : List TEntry) (a : Int) => []) l a) :=
  mkCon_fn (fun x y h _ => c23_inj x y h) ((l, a) : (List TEntry) × Int) (by simp [nz, nz1, ML_nil, encLTEntry]) rfl
@[simp] theorem c23_fn1 (s_l : Nat) (z_l : D) (a : Int) : c23.fn [.sl false s_l z_l [], .lit (.int .i64 a)] [] = some ((fun (l : List TEntry) (a : Int) => l.length ≤ 1099511627776) [] a, (fun (l : List TEntry) (a : Int) => (dI (mSumOf (balOf a) l) : D)) [] a, (fun (l : List TEntry) (a : Int) => []) [] a) :=
  mkCon_fn (fun x y h _ => c23_inj x y h) (([], a) : (List TEntry) × Int) (by simp [nz, nz1, ML_nil, encLTEntry]) rfl
theorem c23_pc (l : List TEntry) (a : Int) (hpre : l.length ≤ 1099511627776) : PCo Try.prog 23 [encLTEntry l, dI a] (Tab.of []) (dI (mSumOf (balOf a) l)) (Tab.of []) := by
  refine pco_of_run [] (E := ⟨[c47, c48], [], []⟩) (m := false) (base := 0) (Env.ok_cons c47_ok (Env.ok_cons c48_ok Env.ok_nil)) G_ok mix 300 6 Try.func23 (by kernel_rfl) rfl (by kernel_rfl) (by kernel_rfl) rfl ?_
  simp [Try.f23]
  exact hpre
theorem c23_ok : c23.ok Try.prog := mkCon_ok fun ⟨l, a⟩ hpre => c23_pc l a hpre
/-- loop.example/g03007/impl.TotalPaid -/
noncomputable def c26 : Con := mkCon 26 false (α := (List TEntry) × Int) (fun x => (fun (l : List TEntry) (a : Int) => [encLTEntry l, dI a]) x.1 x.2) (fun _ => []) (fun x => (fun (l : List TEntry) (a : Int) => l.length ≤ 1099511627776) x.1 x.2) (fun x => (fun (l : List TEntry) (a : Int) => (dI (mSumOf (paidOf a) l) : D)) x.1 x.2) (fun x => (fun (l : List TEntry) (a : Int) => []) x.1 x.2)
@[simp] theorem c26_f : c26.f = 26 := rfl
@[simp] theorem c26_own : c26.own = false := rfl
theorem c26_inj : ∀ u_ v_ : (List TEntry) × Int, ((fun x => (fun (l : List TEntry) (a : Int) => [encLTEntry l, dI a]) x.1 x.2) u_).map nz = ((fun x => (fun (l : List TEntry) (a : Int) => [encLTEntry l, dI a]) x.1 x.2) v_).map nz → u_ = v_ := by
  intro u_ v_ h
  obtain ⟨l, a⟩ := u_
  obtain ⟨l', a'⟩ := v_
  simp [nz_lit, nz1_lit, nz_agg, nz_sl, nz1_sl, encLTEntry] at h
  first | (simp [h]; done) | (obtain ⟨⟩ := h; simp_all; done) | simp_all
@[simp] theorem c26_fn (l : List TEntry) (a : Int) : c26.fn [.sl false 4 yTEntry (ML encTEntry l), .lit (.int .i64 a)] [] = some ((fun (l : List TEntry) (a : Int) => l.length ≤ 1099511627776) l a, (fun (l : List TEntry) (a : Int) => (dI (mSumOf (paidOf a) l) : D)) l a, (fun (l : List TEntry) (a : Int) => []) l a) :=
  mkCon_fn (fun x y h _ => c26_inj x y h) ((l, a) : (List TEntry) × Int) (by simp [nz, nz1, ML_nil, encLTEntry]) rfl
@[simp] theorem c26_fn1 (s_l : Nat) (z_l : D) (a : Int) : c26.fn [.sl false s_l z_l [], .lit (.int .i64 a)] [] = some ((fun (l : List TEntry) (a : Int) => l.length ≤ 1099511627776) [] a, (fun (l : List TEntry) (a : Int) => (dI (mSumOf (paidOf a) l) : D)) [] a, (fun (l : List TEntry) (a : Int) => []) [] a) :=
  mkCon_fn (fun x y h _ => c26_inj x y h) (([], a) : (List TEntry) × Int) (by simp [nz, nz1, ML_nil, encLTEntry]) rfl
theorem c26_pc (l : List TEntry) (a : Int) (hpre : l.length ≤ 1099511627776) : PCo Try.prog 26 [encLTEntry l, dI a] (Tab.of []) (dI (mSumOf (paidOf a) l)) (Tab.of []) := by
  refine pco_of_run [] (E := ⟨[c47, c50], [], []⟩) (m := false) (base := 0) (Env.ok_cons c47_ok (Env.ok_cons c50_ok Env.ok_nil)) G_ok mix 300 6 Try.func26 (by kernel_rfl) rfl (by kernel_rfl) (by kernel_rfl) rfl ?_
  simp [Try.f26]
  exact hpre
theorem c26_ok : c26.ok Try.prog := mkCon_ok fun ⟨l, a⟩ hpre => c26_pc l a hpre
end Go.Proofs.Ytdbhfkbfajljpaa
