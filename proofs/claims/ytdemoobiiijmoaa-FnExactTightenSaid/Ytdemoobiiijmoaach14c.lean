/- Contracts of the functions that the laws run. -/
import Derived.Test.Ytdemoobiiijmoaach14b
import Derived.Test.YtdemoobiiijmoaaEngB
namespace Go.Proofs.Ytdemoobiiijmoaa
open Go Go.Eng
set_option linter.unusedSimpArgs false
set_option linter.unusedVariables false
set_option maxRecDepth 10000
set_option maxHeartbeats 1000000
def mIsSlot (s : TSlot) : Bool := mIn s.Id 1 99 && mIn s.Size 1 50 && mIn s.Thing 0 999
@[simp] def nSlot (s : TSlot) : Int := s.Id
/-- loop.example/g03007/impl.isSlot -/
noncomputable def c57 : Con := mkCon 57 false (α := TSlot) (fun x => (fun (s : TSlot) => [encTSlot s]) x) (fun _ => []) (fun x => (fun (s : TSlot) => True) x) (fun x => (fun (s : TSlot) => (dB (mIsSlot s) : D)) x) (fun x => (fun (s : TSlot) => []) x)
@[simp] theorem c57_f : c57.f = 57 := rfl
@[simp] theorem c57_own : c57.own = false := rfl
theorem c57_inj : ∀ u_ v_ : TSlot, ((fun x => (fun (s : TSlot) => [encTSlot s]) x) u_).map nz = ((fun x => (fun (s : TSlot) => [encTSlot s]) x) v_).map nz → u_ = v_ := by
  intro u_ v_ h
  obtain ⟨s_Id, s_Size, s_Thing⟩ := u_
  obtain ⟨s_Id', s_Size', s_Thing'⟩ := v_
  simp [nz_lit, nz1_lit, nz_agg, nz_sl, nz1_sl, encTSlot] at h
  first | (simp [h]; done) | (obtain ⟨⟩ := h; simp_all; done) | simp_all
@[simp] theorem c57_fn (s_Id : Int) (s_Size : Int) (s_Thing : Int) : c57.fn [.agg [.lit (.int .i64 s_Id), .lit (.int .i64 s_Size), .lit (.int .i64 s_Thing)]] [] = some ((fun (s : TSlot) => True) ⟨s_Id, s_Size, s_Thing⟩, (fun (s : TSlot) => (dB (mIsSlot s) : D)) ⟨s_Id, s_Size, s_Thing⟩, (fun (s : TSlot) => []) ⟨s_Id, s_Size, s_Thing⟩) :=
  mkCon_fn (fun x y h _ => c57_inj x y h) (⟨s_Id, s_Size, s_Thing⟩ : TSlot) (by simp [nz, nz1, ML_nil, encTSlot]) rfl
theorem c57_pc (s : TSlot) : PCo Try.prog 57 [encTSlot s] (Tab.of []) (dB (mIsSlot s)) (Tab.of []) := by
  obtain ⟨s_Id, s_Size, s_Thing⟩ := s
  refine pco_of_run [] (E := ⟨[c72], [], []⟩) (m := false) (base := 0) (Env.ok_cons c72_ok Env.ok_nil) G_ok mix 300 6 Try.func57 (by kernel_rfl) rfl (by kernel_rfl) (by kernel_rfl) rfl ?_
  simp [Try.f57]
  simp [mIsSlot]
theorem c57_ok : c57.ok Try.prog := mkCon_ok fun s hpre => c57_pc s
/-- loop.example/g03007/impl.slotsInOrder -/
noncomputable def c55 : Con := mkCon 55 false (α := (List TSlot)) (fun x => (fun (l : List TSlot) => [encLTSlot l]) x) (fun _ => []) (fun x => (fun (l : List TSlot) => True) x) (fun x => (fun (l : List TSlot) => (.agg [.sl false 3 yTSlot (ML encTSlot l), .fn (.func 71) [] []] : D)) x) (fun x => (fun (l : List TSlot) => []) x)
@[simp] theorem c55_f : c55.f = 55 := rfl
@[simp] theorem c55_own : c55.own = false := rfl
theorem c55_inj : ∀ u_ v_ : (List TSlot), ((fun x => (fun (l : List TSlot) => [encLTSlot l]) x) u_).map nz = ((fun x => (fun (l : List TSlot) => [encLTSlot l]) x) v_).map nz → u_ = v_ := by
  intro u_ v_ h
  obtain l := u_
  obtain l' := v_
  simp [nz_lit, nz1_lit, nz_agg, nz_sl, nz1_sl, encLTSlot] at h
  first | (simp [h]; done) | (obtain ⟨⟩ := h; simp_all; done) | simp_all
@[simp] theorem c55_fn (l : List TSlot) : c55.fn [.sl false 3 yTSlot (ML encTSlot l)] [] = some ((fun (l : List TSlot) => True) l, (fun (l : List TSlot) => (.agg [.sl false 3 yTSlot (ML encTSlot l), .fn (.func 71) [] []] : D)) l, (fun (l : List TSlot) => []) l) :=
  mkCon_fn (fun x y h _ => c55_inj x y h) (l : (List TSlot)) (by simp [nz, nz1, ML_nil, encLTSlot]) rfl
@[simp] theorem c55_fn1 (s_l : Nat) (z_l : D) : c55.fn [.sl false s_l z_l []] [] = some ((fun (l : List TSlot) => True) [], (fun (l : List TSlot) => (.agg [.sl false 3 yTSlot (ML encTSlot l), .fn (.func 71) [] []] : D)) [], (fun (l : List TSlot) => []) []) :=
  mkCon_fn (fun x y h _ => c55_inj x y h) ([] : (List TSlot)) (by simp [nz, nz1, ML_nil, encLTSlot]) rfl
theorem c55_pc (l : List TSlot) : PCo Try.prog 55 [encLTSlot l] (Tab.of []) (.agg [.sl false 3 yTSlot (ML encTSlot l), .fn (.func 71) [] []]) (Tab.of []) := by
  refine pco_of_run [] (E := ⟨[], [], []⟩) (m := false) (base := 0) Env.ok_nil G_ok mix 300 6 Try.func55 (by kernel_rfl) rfl (by kernel_rfl) (by kernel_rfl) rfl ?_
  simp [Try.f55]
  all_goals first | omega | (rw [Bool.eq_iff_iff]; simp; omega) | grind
theorem c55_ok : c55.ok Try.prog := mkCon_ok fun l hpre => c55_pc l
/-- loop.example/g03007/impl.slotsInOrder$1 -/
noncomputable def c71 : Con := mkCon 71 false (α := TSlot) (fun x => (fun (x : TSlot) => [encTSlot x]) x) (fun _ => []) (fun x => (fun (x : TSlot) => True) x) (fun x => (fun (x : TSlot) => (dI (nSlot x) : D)) x) (fun x => (fun (x : TSlot) => []) x)
@[simp] theorem c71_f : c71.f = 71 := rfl
@[simp] theorem c71_own : c71.own = false := rfl
theorem c71_inj : ∀ u_ v_ : TSlot, ((fun x => (fun (x : TSlot) => [encTSlot x]) x) u_).map nz = ((fun x => (fun (x : TSlot) => [encTSlot x]) x) v_).map nz → u_ = v_ := by
  intro u_ v_ h
  obtain ⟨x_Id, x_Size, x_Thing⟩ := u_
  obtain ⟨x_Id', x_Size', x_Thing'⟩ := v_
  simp [nz_lit, nz1_lit, nz_agg, nz_sl, nz1_sl, encTSlot] at h
  first | (simp [h]; done) | (obtain ⟨⟩ := h; simp_all; done) | simp_all
@[simp] theorem c71_fn (x_Id : Int) (x_Size : Int) (x_Thing : Int) : c71.fn [.agg [.lit (.int .i64 x_Id), .lit (.int .i64 x_Size), .lit (.int .i64 x_Thing)]] [] = some ((fun (x : TSlot) => True) ⟨x_Id, x_Size, x_Thing⟩, (fun (x : TSlot) => (dI (nSlot x) : D)) ⟨x_Id, x_Size, x_Thing⟩, (fun (x : TSlot) => []) ⟨x_Id, x_Size, x_Thing⟩) :=
  mkCon_fn (fun x y h _ => c71_inj x y h) (⟨x_Id, x_Size, x_Thing⟩ : TSlot) (by simp [nz, nz1, ML_nil, encTSlot]) rfl
theorem c71_pc (x : TSlot) : PCo Try.prog 71 [encTSlot x] (Tab.of []) (dI (nSlot x)) (Tab.of []) := by
  obtain ⟨x_Id, x_Size, x_Thing⟩ := x
  refine pco_of_run [] (E := ⟨[], [], []⟩) (m := false) (base := 0) Env.ok_nil G_ok mix 300 6 Try.func71 (by kernel_rfl) rfl (by kernel_rfl) (by kernel_rfl) rfl ?_
  simp [Try.f71]
  all_goals first | omega | (rw [Bool.eq_iff_iff]; simp; omega) | grind
theorem c71_ok : c71.ok Try.prog := mkCon_ok fun x hpre => c71_pc x
/-- (loop.example/g03007/impl.sortedList[loop.example/g03007/impl.Slot]).isValid -/
noncomputable def c56 : Con := mkCon 56 false (α := (List TSlot) × Int) (fun x => (fun (l : List TSlot) (lim : Int) => ([.agg [.sl false 3 yTSlot (ML encTSlot l), .fn (.func 71) [] []], dI lim, .fn (.func 57) [] []] : List D)) x.1 x.2) (fun x => (fun (l : List TSlot) (lim : Int) => ([] : List (Nm × OO))) x.1 x.2) (fun x => (fun (l : List TSlot) (lim : Int) => l.length ≤ 1099511627776) x.1 x.2) (fun x => (fun (l : List TSlot) (lim : Int) => (dB (decide (l.length ≤ lim) && ascBy mIsSlot nSlot none l) : D)) x.1 x.2) (fun x => (fun (l : List TSlot) (lim : Int) => ([] : List (Nm × OO))) x.1 x.2)
@[simp] theorem c56_f : c56.f = 56 := rfl
@[simp] theorem c56_own : c56.own = false := rfl
theorem c56_inj : ∀ u_ v_ : (List TSlot) × Int, ((fun x => (fun (l : List TSlot) (lim : Int) => ([.agg [.sl false 3 yTSlot (ML encTSlot l), .fn (.func 71) [] []], dI lim, .fn (.func 57) [] []] : List D)) x.1 x.2) u_).map nz = ((fun x => (fun (l : List TSlot) (lim : Int) => ([.agg [.sl false 3 yTSlot (ML encTSlot l), .fn (.func 71) [] []], dI lim, .fn (.func 57) [] []] : List D)) x.1 x.2) v_).map nz → (fun x => (fun (l : List TSlot) (lim : Int) => ([] : List (Nm × OO))) x.1 x.2) u_ = (fun x => (fun (l : List TSlot) (lim : Int) => ([] : List (Nm × OO))) x.1 x.2) v_ → u_ = v_ := by
  intro u_ v_ h h2_
  obtain ⟨l, lim⟩ := u_
  obtain ⟨l', lim'⟩ := v_
  simp [nz_lit, nz1_lit, nz_agg, nz_sl, nz1_sl, nz_sx, nz_el, nz1_el, nz_own, nz1_own, nz_ptr, nz_fn, nz_iface] at h h2_
  first | (simp [h, h2_]; done) | (obtain ⟨h3_, h4_⟩ := List.append_inj h2_ h.1; simp_all; done) | simp_all | grind
@[simp] theorem c56_fn (l : List TSlot) (lim : Int) : c56.fn ([.agg [.sl false 3 yTSlot (ML encTSlot l), .fn (.func 71) [] []], dI lim, .fn (.func 57) [] []]) ([]) = some (l.length ≤ 1099511627776, dB (decide (l.length ≤ lim) && ascBy mIsSlot nSlot none l), []) :=
  mkCon_fn c56_inj ((l, lim) : (List TSlot) × Int) rfl rfl
theorem c56_pc (l : List TSlot) (lim : Int) (hpre : l.length ≤ 1099511627776) : PCo Try.prog 56 ([.agg [.sl false 3 yTSlot (ML encTSlot l), .fn (.func 71) [] []], dI lim, .fn (.func 57) [] []]) (Tab.of ([])) (dB (decide (l.length ≤ lim) && ascBy mIsSlot nSlot none l)) (Tab.of ([])) := by
  refine pco_of_run [6] (E := ⟨[c71, c57], [], []⟩) (m := false) (base := 0) (Env.ok_cons c71_ok (Env.ok_cons c57_ok Env.ok_nil)) G_ok mix 300 6 Try.func56 (by kernel_rfl) rfl (by kernel_rfl) (by kernel_rfl) rfl ?_
  simp [Try.f56]
  refine ⟨fun h h2 => by omega, fun hlim => ?_⟩
  refine loop_inv (fun p : Nat => p ≤ l.length ∧ ascBy mIsSlot nSlot none l = ascBy mIsSlot nSlot (prevO nSlot l p) (l.drop p)) (fun p => [(2, .fn (.func 57) [] []), (3, .ptr (0, 1) 0), (6, dB false), (15, .sl false 3 yTSlot (ML encTSlot l)), (16, dI l.length), (17, dI p)]) (fun _ => [((0, 1), .box (.agg [.sl false 3 yTSlot (ML encTSlot l), .fn (.func 71) [] []]))]) 2 (fun p => l.length - p) 0 400 (by simp) (by simp) (by simp) ?_
  intro p ⟨hp, hi⟩
  simp
  refine ⟨fun hlt => ?_, fun hge => ?_⟩
  · rw [ascBy_at hlt] at hi; simp only [nSlot, wantN] at hi
    repeat' (first | omega | refine And.intro ?_ ?_ | intro _)
    all_goals first | exact Again.mk (p + 1) ⟨by omega, by rw [hi]; grind⟩ (by simp) (by first | omega | (simp; omega)) | (rw [hi]; grind)
  · rw [hi, ascBy_end hge]; simp; omega
theorem c56_ok : c56.ok Try.prog := mkCon_ok fun ⟨l, lim⟩ hpre => c56_pc l lim hpre
def twoB : List TSlot → Bool
  | [] => false
  | x :: r => r.any (wantT x.Thing) || twoB r
theorem indexBy_any {α : Type} {w : α → Bool} : ∀ (l : List α) (i : Int), 0 ≤ i → (0 ≤ indexBy w i l ↔ l.any w = true)
  | [], i, _ => by simp [indexBy]
  | x :: r, i, hi => by
    simp only [indexBy, List.any_cons, Bool.or_eq_true]
    by_cases h : w x = true
    · simp [h, hi]
    · simp only [h, if_false, false_or, Bool.false_eq_true]; exact indexBy_any r (i + 1) (by omega)
theorem twoB_at {l : List TSlot} {p : Nat} (h : p < l.length) : twoB (l.drop p) = ((l.drop (p + 1)).any (wantT (l[p]?.getD default).Thing) || twoB (l.drop (p + 1))) := by
  rw [drop_at (d := default) h, twoB]
theorem twoB_end {l : List TSlot} {p : Nat} (h : l.length ≤ p) : twoB (l.drop p) = false := by
  rw [List.drop_eq_nil_of_le h, twoB]
/-- loop.example/g03007/impl.isAnyInTwo -/
noncomputable def c58 : Con := mkCon 58 false (α := (List TSlot)) (fun x => (fun (l : List TSlot) => [encLTSlot l]) x) (fun _ => []) (fun x => (fun (l : List TSlot) => l.length ≤ 1099511627776) x) (fun x => (fun (l : List TSlot) => (dB (twoB l) : D)) x) (fun x => (fun (l : List TSlot) => []) x)
@[simp] theorem c58_f : c58.f = 58 := rfl
@[simp] theorem c58_own : c58.own = false := rfl
theorem c58_inj : ∀ u_ v_ : (List TSlot), ((fun x => (fun (l : List TSlot) => [encLTSlot l]) x) u_).map nz = ((fun x => (fun (l : List TSlot) => [encLTSlot l]) x) v_).map nz → u_ = v_ := by
  intro u_ v_ h
  obtain l := u_
  obtain l' := v_
  simp [nz_lit, nz1_lit, nz_agg, nz_sl, nz1_sl, encLTSlot] at h
  first | (simp [h]; done) | (obtain ⟨⟩ := h; simp_all; done) | simp_all
@[simp] theorem c58_fn (l : List TSlot) : c58.fn [.sl false 3 yTSlot (ML encTSlot l)] [] = some ((fun (l : List TSlot) => l.length ≤ 1099511627776) l, (fun (l : List TSlot) => (dB (twoB l) : D)) l, (fun (l : List TSlot) => []) l) :=
  mkCon_fn (fun x y h _ => c58_inj x y h) (l : (List TSlot)) (by simp [nz, nz1, ML_nil, encLTSlot]) rfl
@[simp] theorem c58_fn1 (s_l : Nat) (z_l : D) : c58.fn [.sl false s_l z_l []] [] = some ((fun (l : List TSlot) => l.length ≤ 1099511627776) [], (fun (l : List TSlot) => (dB (twoB l) : D)) [], (fun (l : List TSlot) => []) []) :=
  mkCon_fn (fun x y h _ => c58_inj x y h) ([] : (List TSlot)) (by simp [nz, nz1, ML_nil, encLTSlot]) rfl
theorem c58_pc (l : List TSlot) (hpre : l.length ≤ 1099511627776) : PCo Try.prog 58 [encLTSlot l] (Tab.of []) (dB (twoB l)) (Tab.of []) := by
  refine pco_of_run [] (E := ⟨[c40, c40], [], []⟩) (m := false) (base := 0) (Env.ok_cons c40_ok (Env.ok_cons c40_ok Env.ok_nil)) G_ok mix 300 6 Try.func58 (by kernel_rfl) rfl (by kernel_rfl) (by kernel_rfl) rfl ?_
  simp [Try.f58]
  refine loop_inv (fun p : Nat => p ≤ l.length ∧ twoB l = twoB (l.drop p)) (fun p => [(0, encLTSlot l), (5, encLTSlot l), (6, dI l.length), (7, dI p)]) (fun _ => []) 1 (fun p => l.length - p) 0 400 (by simp) (by simp) (by simp) ?_
  intro p ⟨hp, hi⟩
  simp
  refine ⟨fun hlt => ?_, fun hge => ?_⟩
  · rw [twoB_at hlt] at hi
    have ha := indexBy_any (w := wantT (l[p]?.getD default).Thing) (l.drop (p + 1)) 0 (by omega)
    repeat' (first | omega | refine And.intro ?_ ?_ | intro _)
    all_goals first | exact Again.mk (p + 1) ⟨by omega, by rw [hi]; grind⟩ (by simp) (by first | omega | (simp; omega)) | (rw [hi]; grind)
  · rw [hi, twoB_end hge]
theorem c58_ok : c58.ok Try.prog := mkCon_ok fun l hpre => c58_pc l hpre
def mAreSlots (l : List TSlot) : Bool := decide (l.length ≤ 30) && ascBy mIsSlot nSlot none l && !twoB l
/-- loop.example/g03007/impl.AreSlots -/
noncomputable def c38 : Con := mkCon 38 false (α := (List TSlot)) (fun x => (fun (l : List TSlot) => [encLTSlot l]) x) (fun _ => []) (fun x => (fun (l : List TSlot) => l.length ≤ 1099511627776) x) (fun x => (fun (l : List TSlot) => (dB (mAreSlots l) : D)) x) (fun x => (fun (l : List TSlot) => []) x)
@[simp] theorem c38_f : c38.f = 38 := rfl
@[simp] theorem c38_own : c38.own = false := rfl
theorem c38_inj : ∀ u_ v_ : (List TSlot), ((fun x => (fun (l : List TSlot) => [encLTSlot l]) x) u_).map nz = ((fun x => (fun (l : List TSlot) => [encLTSlot l]) x) v_).map nz → u_ = v_ := by
  intro u_ v_ h
  obtain l := u_
  obtain l' := v_
  simp [nz_lit, nz1_lit, nz_agg, nz_sl, nz1_sl, encLTSlot] at h
  first | (simp [h]; done) | (obtain ⟨⟩ := h; simp_all; done) | simp_all
@[simp] theorem c38_fn (l : List TSlot) : c38.fn [.sl false 3 yTSlot (ML encTSlot l)] [] = some ((fun (l : List TSlot) => l.length ≤ 1099511627776) l, (fun (l : List TSlot) => (dB (mAreSlots l) : D)) l, (fun (l : List TSlot) => []) l) :=
  mkCon_fn (fun x y h _ => c38_inj x y h) (l : (List TSlot)) (by simp [nz, nz1, ML_nil, encLTSlot]) rfl
@[simp] theorem c38_fn1 (s_l : Nat) (z_l : D) : c38.fn [.sl false s_l z_l []] [] = some ((fun (l : List TSlot) => l.length ≤ 1099511627776) [], (fun (l : List TSlot) => (dB (mAreSlots l) : D)) [], (fun (l : List TSlot) => []) []) :=
  mkCon_fn (fun x y h _ => c38_inj x y h) ([] : (List TSlot)) (by simp [nz, nz1, ML_nil, encLTSlot]) rfl
theorem c38_pc (l : List TSlot) (hpre : l.length ≤ 1099511627776) : PCo Try.prog 38 [encLTSlot l] (Tab.of []) (dB (mAreSlots l)) (Tab.of []) := by
  refine pco_of_run [] (E := ⟨[c55, c56, c57, c58, c57], [], []⟩) (m := false) (base := 0) (Env.ok_cons c55_ok (Env.ok_cons c56_ok (Env.ok_cons c57_ok (Env.ok_cons c58_ok (Env.ok_cons c57_ok Env.ok_nil))))) G_ok mix 300 6 Try.func38 (by kernel_rfl) rfl (by kernel_rfl) (by kernel_rfl) rfl ?_
  simp [Try.f38]
  have h : ((l.length : Int) ≤ 30) ↔ l.length ≤ 30 := by omega
  simp [mAreSlots, h, hpre]
theorem c38_ok : c38.ok Try.prog := mkCon_ok fun l hpre => c38_pc l hpre
theorem wantT_symm (a b : TSlot) : wantT a.Thing b = wantT b.Thing a := by
  rw [Bool.eq_iff_iff]; simp [wantT]; omega
theorem twoB_snoc (x : TSlot) : ∀ (l : List TSlot), twoB (l ++ [x]) = (twoB l || l.any (wantT x.Thing))
  | [] => rfl
  | y :: r => by
    simp only [List.cons_append, twoB, List.any_append, List.any_cons, List.any_nil, Bool.or_false, twoB_snoc x r, wantT_symm y x]
    cases r.any (wantT y.Thing) <;> cases wantT x.Thing y <;> cases twoB r <;> cases r.any (wantT x.Thing) <;> rfl
theorem twoB_app (b : List TSlot) : ∀ (a : List TSlot), twoB a = true → twoB (a ++ b) = true
  | [], h => by simp [twoB] at h
  | x :: a, h => by
    simp only [twoB, Bool.or_eq_true] at h
    simp only [List.cons_append, twoB, List.any_append, Bool.or_eq_true]
    rcases h with h | h
    · exact .inl (.inl h)
    · exact .inr (twoB_app b a h)
theorem twoB_take {l : List TSlot} {p : Nat} (h : twoB (l.take p) = true) : twoB l = true := by
  have := twoB_app (l.drop p) _ h
  rwa [List.take_append_drop] at this
theorem twoB_take_at {l : List TSlot} {p : Nat} (h : p < l.length) : twoB (l.take (p + 1)) = (twoB (l.take p) || (l.take p).any (wantT (l[p]?.getD default).Thing)) := by
  rw [take_at (d := default) h, twoB_snoc]
def anyT (t : Int) (l : List TSlot) : Bool := l.any (wantT t)
theorem anyT_mono {t : Int} {l : List TSlot} {a b : Nat} (h : a ≤ b) (ha : anyT t (l.take a) = true) : anyT t (l.take b) = true := by
  simp only [anyT, List.any_eq_true] at ha ⊢
  obtain ⟨x, hx, hw⟩ := ha
  refine ⟨x, ?_, hw⟩
  have e : l.take a = (l.take b).take a := by rw [List.take_take, Nat.min_eq_left h]
  rw [e] at hx
  exact List.mem_of_mem_take hx
theorem anyT_at {t : Int} {l : List TSlot} {k : Nat} (h : k < l.length) : anyT t (l.take (k + 1)) = (anyT t (l.take k) || wantT t (l[k]?.getD default)) := by
  rw [take_at (d := default) h]; simp [anyT]
theorem any_take_at {α : Type} {w : α → Bool} {l : List α} {k : Nat} {d : α} (h : k < l.length) : (l.take (k + 1)).any w = ((l.take k).any w || w (l[k]?.getD d)) := by
  rw [take_at (d := d) h]; simp
/-- loop.example/g03007/spec.AreSlots -/
noncomputable def c34 : Con := mkCon 34 false (α := (List TSlot)) (fun x => (fun (l : List TSlot) => [encLTSlot l]) x) (fun _ => []) (fun x => (fun (l : List TSlot) => l.length ≤ 1099511627776) x) (fun x => (fun (l : List TSlot) => (dB (mAreSlots l) : D)) x) (fun x => (fun (l : List TSlot) => []) x)
@[simp] theorem c34_f : c34.f = 34 := rfl
@[simp] theorem c34_own : c34.own = false := rfl
theorem c34_inj : ∀ u_ v_ : (List TSlot), ((fun x => (fun (l : List TSlot) => [encLTSlot l]) x) u_).map nz = ((fun x => (fun (l : List TSlot) => [encLTSlot l]) x) v_).map nz → u_ = v_ := by
  intro u_ v_ h
  obtain l := u_
  obtain l' := v_
  simp [nz_lit, nz1_lit, nz_agg, nz_sl, nz1_sl, encLTSlot] at h
  first | (simp [h]; done) | (obtain ⟨⟩ := h; simp_all; done) | simp_all
@[simp] theorem c34_fn (l : List TSlot) : c34.fn [.sl false 3 yTSlot (ML encTSlot l)] [] = some ((fun (l : List TSlot) => l.length ≤ 1099511627776) l, (fun (l : List TSlot) => (dB (mAreSlots l) : D)) l, (fun (l : List TSlot) => []) l) :=
  mkCon_fn (fun x y h _ => c34_inj x y h) (l : (List TSlot)) (by simp [nz, nz1, ML_nil, encLTSlot]) rfl
@[simp] theorem c34_fn1 (s_l : Nat) (z_l : D) : c34.fn [.sl false s_l z_l []] [] = some ((fun (l : List TSlot) => l.length ≤ 1099511627776) [], (fun (l : List TSlot) => (dB (mAreSlots l) : D)) [], (fun (l : List TSlot) => []) []) :=
  mkCon_fn (fun x y h _ => c34_inj x y h) ([] : (List TSlot)) (by simp [nz, nz1, ML_nil, encLTSlot]) rfl
theorem c34_pc (l : List TSlot) (hpre : l.length ≤ 1099511627776) : PCo Try.prog 34 [encLTSlot l] (Tab.of []) (dB (mAreSlots l)) (Tab.of []) := by
  refine pco_of_run [] (E := ⟨[c54], [], []⟩) (m := false) (base := 0) (Env.ok_cons c54_ok Env.ok_nil) G_ok mix 300 6 Try.func34 (by kernel_rfl) rfl (by kernel_rfl) (by kernel_rfl) rfl ?_
  simp [Try.f34]
  refine loop_inv (fun p : Nat => p ≤ l.length ∧ ascBy mIsSlot nSlot none l = ascBy mIsSlot nSlot (prevO nSlot l p) (l.drop p) ∧ twoB (l.take p) = false) (fun p => [(0, encLTSlot l), (3, dI p)]) (fun _ => []) 1 (fun p => l.length - p) 0 400 (by simp) (by simp [twoB]) (by simp) ?_
  intro p ⟨hp, hi, ht⟩
  simp
  refine ⟨fun hlt => ?_, fun hge => ?_⟩
  · rw [ascBy_at hlt] at hi; simp only [nSlot, mIsSlot] at hi
    have hs := twoB_take_at hlt
    refine ⟨by repeat' (first | omega | refine And.intro ?_ ?_ | intro _), fun h => by rw [mAreSlots, hi]; grind, fun h1 h2 h3 h4 => ?_⟩
    refine loop_inv (fun k : Nat => k ≤ p ∧ anyT (l[p]?.getD default).Thing (l.take k) = false) (fun k => [(0, encLTSlot l), (3, dI p), (4, dI k)]) (fun _ => []) 1 (fun k => p - k) 0 400 (by simp) (by simp [anyT]) (by simp) ?_
    intro k ⟨hk, hk2⟩
    simp
    refine ⟨fun hkp => ?_, fun hkp => ?_⟩
    · have hkl : k < l.length := by omega
      have hks := anyT_at (t := (l[p]?.getD default).Thing) hkl
      refine ⟨by repeat' (first | omega | refine And.intro ?_ ?_ | intro _), fun ha hb => ?_, fun ha => ⟨by omega, ?_⟩⟩
      · have h5 : wantT (l[p]?.getD default).Thing (l[k]?.getD default) = true := by simp [wantT, ha, hb]
        have h6 : anyT (l[p]?.getD default).Thing (l.take p) = true := anyT_mono (show k + 1 ≤ p by omega) (by rw [hks, h5]; simp)
        have h7 : twoB (l.take (p + 1)) = true := by rw [hs]; simp only [anyT] at h6; rw [h6]; simp
        rw [mAreSlots, twoB_take h7]; simp
      · have h5 : wantT (l[p]?.getD default).Thing (l[k]?.getD default) = false := by simp only [wantT]; grind
        exact Again.mk (k + 1) ⟨by omega, by rw [hks, hk2, h5]; rfl⟩ (by simp) (by first | omega | (simp; omega))
    · have hkp2 : k = p := by omega
      subst hkp2
      simp only [anyT] at hk2
      refine ⟨by omega, Again.mk (k + 1) ⟨by omega, by rw [hi]; grind, by rw [hs, ht, hk2]; rfl⟩ (by simp) (by first | omega | (simp; omega))⟩
  · rw [mAreSlots, hi, ascBy_end hge, List.take_of_length_le hge] at *; simp [ht]; omega
theorem c34_ok : c34.ok Try.prog := mkCon_ok fun l hpre => c34_pc l hpre
end Go.Proofs.Ytdemoobiiijmoaa
