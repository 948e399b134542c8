/- Contracts of the functions that the laws run. -/
import Derived.Test.Ytkccphdoolpmaaach14b
import Derived.Test.YtkccphdoolpmaaaEngB
namespace Go.Proofs.Ytkccphdoolpmaaa
open Go Go.Eng
set_option linter.unusedSimpArgs false
set_option linter.unusedVariables false
set_option maxRecDepth 10000
set_option maxHeartbeats 1000000
def mIsSlot (s : TSlot) : Bool := mIn s.Id 1 99 && mIn s.Size 1 50 && mIn s.Thing 0 999
@[simp] def nSlot (s : TSlot) : Int := s.Id
/-- loop.example/g03007/impl.isSlot -/
noncomputable def c148 : Con := mkCon 148 false (α := TSlot) (fun x => (fun (s : TSlot) => [encTSlot s]) x) (fun _ => []) (fun x => (fun (s : TSlot) => True) x) (fun x => (fun (s : TSlot) => (dB (mIsSlot s) : D)) x) (fun x => (fun (s : TSlot) => []) x)
@[simp] theorem c148_f : c148.f = 148 := rfl
@[simp] theorem c148_own : c148.own = false := rfl
theorem c148_inj : ∀ u_ v_ : TSlot, ((fun x => (fun (s : TSlot) => [encTSlot s]) x) u_).map nz = ((fun x => (fun (s : TSlot) => [encTSlot s]) x) v_).map nz → u_ = v_ := by
  intro u_ v_ h
  obtain ⟨s_Id, s_Size, s_Thing⟩ := u_
  obtain ⟨s_Id', s_Size', s_Thing'⟩ := v_
  simp [nz_lit, nz1_lit, nz_agg, nz_sl, nz1_sl, encTSlot] at h
  first | (simp [h]; done) | (obtain ⟨⟩ := h; simp_all; done) | simp_all
@[simp] theorem c148_fn (s_Id : Int) (s_Size : Int) (s_Thing : Int) : c148.fn [.agg [.lit (.int .i64 s_Id), .lit (.int .i64 s_Size), .lit (.int .i64 s_Thing)]] [] = some ((fun (s : TSlot) => True) ⟨s_Id, s_Size, s_Thing⟩, (fun (s : TSlot) => (dB (mIsSlot s) : D)) ⟨s_Id, s_Size, s_Thing⟩, (fun (s : TSlot) => []) ⟨s_Id, s_Size, s_Thing⟩) :=
  mkCon_fn (fun x y h _ => c148_inj x y h) (⟨s_Id, s_Size, s_Thing⟩ : TSlot) (by simp [nz, nz1, ML_nil, encTSlot]) rfl
theorem c148_pc (s : TSlot) : PCo Try.prog 148 [encTSlot s] (Tab.of []) (dB (mIsSlot s)) (Tab.of []) := by
  obtain ⟨s_Id, s_Size, s_Thing⟩ := s
  refine pco_of_run [] (E := ⟨[c117], []⟩) (m := false) (base := 0) (Env.ok_cons c117_ok Env.ok_nil) G_ok mix 300 6 Try.func148 (by kernel_rfl) rfl (by kernel_rfl) (by kernel_rfl) rfl ?_
  simp [Try.f148]
  simp [mIsSlot]
theorem c148_ok : c148.ok Try.prog := mkCon_ok fun s hpre => c148_pc s
/-- loop.example/g03007/impl.slotsInOrder -/
noncomputable def c146 : Con := mkCon 146 false (α := (List TSlot)) (fun x => (fun (l : List TSlot) => [encLTSlot l]) x) (fun _ => []) (fun x => (fun (l : List TSlot) => True) x) (fun x => (fun (l : List TSlot) => (.agg [.sl false 3 yTSlot (ML encTSlot l), .fn (.func 156) [] []] : D)) x) (fun x => (fun (l : List TSlot) => []) x)
@[simp] theorem c146_f : c146.f = 146 := rfl
@[simp] theorem c146_own : c146.own = false := rfl
theorem c146_inj : ∀ u_ v_ : (List TSlot), ((fun x => (fun (l : List TSlot) => [encLTSlot l]) x) u_).map nz = ((fun x => (fun (l : List TSlot) => [encLTSlot l]) x) v_).map nz → u_ = v_ := by
  intro u_ v_ h
  obtain l := u_
  obtain l' := v_
  simp [nz_lit, nz1_lit, nz_agg, nz_sl, nz1_sl, encLTSlot] at h
  first | (simp [h]; done) | (obtain ⟨⟩ := h; simp_all; done) | simp_all
@[simp] theorem c146_fn (l : List TSlot) : c146.fn [.sl false 3 yTSlot (ML encTSlot l)] [] = some ((fun (l : List TSlot) => True) l, (fun (l : List TSlot) => (.agg [.sl false 3 yTSlot (ML encTSlot l), .fn (.func 156) [] []] : D)) l, (fun (l : List TSlot) => []) l) :=
  mkCon_fn (fun x y h _ => c146_inj x y h) (l : (List TSlot)) (by simp [nz, nz1, ML_nil, encLTSlot]) rfl
@[simp] theorem c146_fn1 (s_l : Nat) (z_l : D) : c146.fn [.sl false s_l z_l []] [] = some ((fun (l : List TSlot) => True) [], (fun (l : List TSlot) => (.agg [.sl false 3 yTSlot (ML encTSlot l), .fn (.func 156) [] []] : D)) [], (fun (l : List TSlot) => []) []) :=
  mkCon_fn (fun x y h _ => c146_inj x y h) ([] : (List TSlot)) (by simp [nz, nz1, ML_nil, encLTSlot]) rfl
theorem c146_pc (l : List TSlot) : PCo Try.prog 146 [encLTSlot l] (Tab.of []) (.agg [.sl false 3 yTSlot (ML encTSlot l), .fn (.func 156) [] []]) (Tab.of []) := by
  refine pco_of_run [] (E := ⟨[], []⟩) (m := false) (base := 0) Env.ok_nil G_ok mix 300 6 Try.func146 (by kernel_rfl) rfl (by kernel_rfl) (by kernel_rfl) rfl ?_
  simp [Try.f146]
  all_goals first | omega | (rw [Bool.eq_iff_iff]; simp; omega) | grind
theorem c146_ok : c146.ok Try.prog := mkCon_ok fun l hpre => c146_pc l
/-- loop.example/g03007/impl.slotsInOrder$1 -/
noncomputable def c156 : Con := mkCon 156 false (α := TSlot) (fun x => (fun (x : TSlot) => [encTSlot x]) x) (fun _ => []) (fun x => (fun (x : TSlot) => True) x) (fun x => (fun (x : TSlot) => (dI (nSlot x) : D)) x) (fun x => (fun (x : TSlot) => []) x)
@[simp] theorem c156_f : c156.f = 156 := rfl
@[simp] theorem c156_own : c156.own = false := rfl
theorem c156_inj : ∀ u_ v_ : TSlot, ((fun x => (fun (x : TSlot) => [encTSlot x]) x) u_).map nz = ((fun x => (fun (x : TSlot) => [encTSlot x]) x) v_).map nz → u_ = v_ := by
  intro u_ v_ h
  obtain ⟨x_Id, x_Size, x_Thing⟩ := u_
  obtain ⟨x_Id', x_Size', x_Thing'⟩ := v_
  simp [nz_lit, nz1_lit, nz_agg, nz_sl, nz1_sl, encTSlot] at h
  first | (simp [h]; done) | (obtain ⟨⟩ := h; simp_all; done) | simp_all
@[simp] theorem c156_fn (x_Id : Int) (x_Size : Int) (x_Thing : Int) : c156.fn [.agg [.lit (.int .i64 x_Id), .lit (.int .i64 x_Size), .lit (.int .i64 x_Thing)]] [] = some ((fun (x : TSlot) => True) ⟨x_Id, x_Size, x_Thing⟩, (fun (x : TSlot) => (dI (nSlot x) : D)) ⟨x_Id, x_Size, x_Thing⟩, (fun (x : TSlot) => []) ⟨x_Id, x_Size, x_Thing⟩) :=
  mkCon_fn (fun x y h _ => c156_inj x y h) (⟨x_Id, x_Size, x_Thing⟩ : TSlot) (by simp [nz, nz1, ML_nil, encTSlot]) rfl
theorem c156_pc (x : TSlot) : PCo Try.prog 156 [encTSlot x] (Tab.of []) (dI (nSlot x)) (Tab.of []) := by
  obtain ⟨x_Id, x_Size, x_Thing⟩ := x
  refine pco_of_run [] (E := ⟨[], []⟩) (m := false) (base := 0) Env.ok_nil G_ok mix 300 6 Try.func156 (by kernel_rfl) rfl (by kernel_rfl) (by kernel_rfl) rfl ?_
  simp [Try.f156]
  all_goals first | omega | (rw [Bool.eq_iff_iff]; simp; omega) | grind
theorem c156_ok : c156.ok Try.prog := mkCon_ok fun x hpre => c156_pc x
/-- (loop.example/g03007/impl.sortedList[loop.example/g03007/impl.Slot]).isValid -/
noncomputable def c147 : Con := mkCon 147 false (α := (List TSlot) × Int) (fun x => (fun (l : List TSlot) (lim : Int) => ([.agg [.sl false 3 yTSlot (ML encTSlot l), .fn (.func 156) [] []], dI lim, .fn (.func 148) [] []] : List D)) x.1 x.2) (fun x => (fun (l : List TSlot) (lim : Int) => ([] : List (Nm × OO))) x.1 x.2) (fun x => (fun (l : List TSlot) (lim : Int) => l.length ≤ 1099511627776) x.1 x.2) (fun x => (fun (l : List TSlot) (lim : Int) => (dB (decide (l.length ≤ lim) && ascBy mIsSlot nSlot none l) : D)) x.1 x.2) (fun x => (fun (l : List TSlot) (lim : Int) => ([] : List (Nm × OO))) x.1 x.2)
@[simp] theorem c147_f : c147.f = 147 := rfl
@[simp] theorem c147_own : c147.own = false := rfl
theorem c147_inj : ∀ u_ v_ : (List TSlot) × Int, ((fun x => (fun (l : List TSlot) (lim : Int) => ([.agg [.sl false 3 yTSlot (ML encTSlot l), .fn (.func 156) [] []], dI lim, .fn (.func 148) [] []] : List D)) x.1 x.2) u_).map nz = ((fun x => (fun (l : List TSlot) (lim : Int) => ([.agg [.sl false 3 yTSlot (ML encTSlot l), .fn (.func 156) [] []], dI lim, .fn (.func 148) [] []] : List D)) x.1 x.2) v_).map nz → (fun x => (fun (l : List TSlot) (lim : Int) => ([] : List (Nm × OO))) x.1 x.2) u_ = (fun x => (fun (l : List TSlot) (lim : Int) => ([] : List (Nm × OO))) x.1 x.2) v_ → u_ = v_ := by
  intro u_ v_ h h2_
  obtain ⟨l, lim⟩ := u_
  obtain ⟨l', lim'⟩ := v_
  simp [nz_lit, nz1_lit, nz_agg, nz_sl, nz1_sl, nz_sx, nz_el, nz1_el, nz_own, nz1_own, nz_ptr, nz_fn, nz_iface] at h h2_
  first | (simp [h, h2_]; done) | simp_all | grind
@[simp] theorem c147_fn (l : List TSlot) (lim : Int) : c147.fn ([.agg [.sl false 3 yTSlot (ML encTSlot l), .fn (.func 156) [] []], dI lim, .fn (.func 148) [] []]) ([]) = some (l.length ≤ 1099511627776, dB (decide (l.length ≤ lim) && ascBy mIsSlot nSlot none l), []) :=
  mkCon_fn c147_inj ((l, lim) : (List TSlot) × Int) rfl rfl
theorem c147_pc (l : List TSlot) (lim : Int) (hpre : l.length ≤ 1099511627776) : PCo Try.prog 147 ([.agg [.sl false 3 yTSlot (ML encTSlot l), .fn (.func 156) [] []], dI lim, .fn (.func 148) [] []]) (Tab.of ([])) (dB (decide (l.length ≤ lim) && ascBy mIsSlot nSlot none l)) (Tab.of ([])) := by
  refine pco_of_run [6] (E := ⟨[c156, c148], []⟩) (m := false) (base := 0) (Env.ok_cons c156_ok (Env.ok_cons c148_ok Env.ok_nil)) G_ok mix 300 6 Try.func147 (by kernel_rfl) rfl (by kernel_rfl) (by kernel_rfl) rfl ?_
  simp [Try.f147]
  refine ⟨fun h h2 => by omega, fun hlim => ?_⟩
  refine loop_inv (fun p : Nat => p ≤ l.length ∧ ascBy mIsSlot nSlot none l = ascBy mIsSlot nSlot (prevO nSlot l p) (l.drop p)) (fun p => [(2, .fn (.func 148) [] []), (3, .ptr (0, 1) 0), (6, dB false), (15, .sl false 3 yTSlot (ML encTSlot l)), (16, dI l.length), (17, dI p)]) (fun _ => [((0, 1), .box (.agg [.sl false 3 yTSlot (ML encTSlot l), .fn (.func 156) [] []]))]) 2 (fun p => l.length - p) 0 400 (by simp) (by simp) (by simp) ?_
  intro p ⟨hp, hi⟩
  simp
  refine ⟨fun hlt => ?_, fun hge => ?_⟩
  · rw [ascBy_at hlt] at hi; simp only [nSlot, wantN] at hi
    repeat' (first | omega | refine And.intro ?_ ?_ | intro _)
    all_goals first | exact Again.mk (p + 1) ⟨by omega, by rw [hi]; grind⟩ (by simp) (by first | omega | (simp; omega)) | (rw [hi]; grind)
  · rw [hi, ascBy_end hge]; simp; omega
theorem c147_ok : c147.ok Try.prog := mkCon_ok fun ⟨l, lim⟩ hpre => c147_pc l lim hpre
def twoB : List TSlot → Bool
  | [] => false
  | x :: r => r.any (wantT x.Thing) || twoB r
theorem indexBy_any {α : Type} {w : α → Bool} : ∀ (l : List α) (i : Int), 0 ≤ i → (0 ≤ indexBy w i l ↔ l.any w = true)
  | [], i, _ => by simp [indexBy]
  | x :: r, i, hi => by
    simp only [indexBy, List.any_cons, Bool.or_eq_true]
    by_cases h : w x = true
    · simp [h, hi]
    · simp only [h, if_false, false_or, Bool.false_eq_true]; exact indexBy_any r (i + 1) (by omega)
theorem twoB_at {l : List TSlot} {p : Nat} (h : p < l.length) : twoB (l.drop p) = ((l.drop (p + 1)).any (wantT (l[p]?.getD default).Thing) || twoB (l.drop (p + 1))) := by
  rw [drop_at (d := default) h, twoB]
theorem twoB_end {l : List TSlot} {p : Nat} (h : l.length ≤ p) : twoB (l.drop p) = false := by
  rw [List.drop_eq_nil_of_le h, twoB]
/-- loop.example/g03007/impl.isAnyInTwo -/
noncomputable def c149 : Con := mkCon 149 false (α := (List TSlot)) (fun x => (fun (l : List TSlot) => [encLTSlot l]) x) (fun _ => []) (fun x => (fun (l : List TSlot) => l.length ≤ 1099511627776) x) (fun x => (fun (l : List TSlot) => (dB (twoB l) : D)) x) (fun x => (fun (l : List TSlot) => []) x)
@[simp] theorem c149_f : c149.f = 149 := rfl
@[simp] theorem c149_own : c149.own = false := rfl
theorem c149_inj : ∀ u_ v_ : (List TSlot), ((fun x => (fun (l : List TSlot) => [encLTSlot l]) x) u_).map nz = ((fun x => (fun (l : List TSlot) => [encLTSlot l]) x) v_).map nz → u_ = v_ := by
  intro u_ v_ h
  obtain l := u_
  obtain l' := v_
  simp [nz_lit, nz1_lit, nz_agg, nz_sl, nz1_sl, encLTSlot] at h
  first | (simp [h]; done) | (obtain ⟨⟩ := h; simp_all; done) | simp_all
@[simp] theorem c149_fn (l : List TSlot) : c149.fn [.sl false 3 yTSlot (ML encTSlot l)] [] = some ((fun (l : List TSlot) => l.length ≤ 1099511627776) l, (fun (l : List TSlot) => (dB (twoB l) : D)) l, (fun (l : List TSlot) => []) l) :=
  mkCon_fn (fun x y h _ => c149_inj x y h) (l : (List TSlot)) (by simp [nz, nz1, ML_nil, encLTSlot]) rfl
@[simp] theorem c149_fn1 (s_l : Nat) (z_l : D) : c149.fn [.sl false s_l z_l []] [] = some ((fun (l : List TSlot) => l.length ≤ 1099511627776) [], (fun (l : List TSlot) => (dB (twoB l) : D)) [], (fun (l : List TSlot) => []) []) :=
  mkCon_fn (fun x y h _ => c149_inj x y h) ([] : (List TSlot)) (by simp [nz, nz1, ML_nil, encLTSlot]) rfl
theorem c149_pc (l : List TSlot) (hpre : l.length ≤ 1099511627776) : PCo Try.prog 149 [encLTSlot l] (Tab.of []) (dB (twoB l)) (Tab.of []) := by
  refine pco_of_run [] (E := ⟨[c108, c108], []⟩) (m := false) (base := 0) (Env.ok_cons c108_ok (Env.ok_cons c108_ok Env.ok_nil)) G_ok mix 300 6 Try.func149 (by kernel_rfl) rfl (by kernel_rfl) (by kernel_rfl) rfl ?_
  simp [Try.f149]
  refine loop_inv (fun p : Nat => p ≤ l.length ∧ twoB l = twoB (l.drop p)) (fun p => [(0, encLTSlot l), (5, encLTSlot l), (6, dI l.length), (7, dI p)]) (fun _ => []) 1 (fun p => l.length - p) 0 400 (by simp) (by simp) (by simp) ?_
  intro p ⟨hp, hi⟩
  simp
  refine ⟨fun hlt => ?_, fun hge => ?_⟩
  · rw [twoB_at hlt] at hi
    have ha := indexBy_any (w := wantT (l[p]?.getD default).Thing) (l.drop (p + 1)) 0 (by omega)
    repeat' (first | omega | refine And.intro ?_ ?_ | intro _)
    all_goals first | exact Again.mk (p + 1) ⟨by omega, by rw [hi]; grind⟩ (by simp) (by first | omega | (simp; omega)) | (rw [hi]; grind)
  · rw [hi, twoB_end hge]
theorem c149_ok : c149.ok Try.prog := mkCon_ok fun l hpre => c149_pc l hpre
def mAreSlots (l : List TSlot) : Bool := decide (l.length ≤ 30) && ascBy mIsSlot nSlot none l && !twoB l
/-- loop.example/g03007/impl.AreSlots -/
noncomputable def c109 : Con := mkCon 109 false (α := (List TSlot)) (fun x => (fun (l : List TSlot) => [encLTSlot l]) x) (fun _ => []) (fun x => (fun (l : List TSlot) => l.length ≤ 1099511627776) x) (fun x => (fun (l : List TSlot) => (dB (mAreSlots l) : D)) x) (fun x => (fun (l : List TSlot) => []) x)
@[simp] theorem c109_f : c109.f = 109 := rfl
@[simp] theorem c109_own : c109.own = false := rfl
theorem c109_inj : ∀ u_ v_ : (List TSlot), ((fun x => (fun (l : List TSlot) => [encLTSlot l]) x) u_).map nz = ((fun x => (fun (l : List TSlot) => [encLTSlot l]) x) v_).map nz → u_ = v_ := by
  intro u_ v_ h
  obtain l := u_
  obtain l' := v_
  simp [nz_lit, nz1_lit, nz_agg, nz_sl, nz1_sl, encLTSlot] at h
  first | (simp [h]; done) | (obtain ⟨⟩ := h; simp_all; done) | simp_all
@[simp] theorem c109_fn (l : List TSlot) : c109.fn [.sl false 3 yTSlot (ML encTSlot l)] [] = some ((fun (l : List TSlot) => l.length ≤ 1099511627776) l, (fun (l : List TSlot) => (dB (mAreSlots l) : D)) l, (fun (l : List TSlot) => []) l) :=
  mkCon_fn (fun x y h _ => c109_inj x y h) (l : (List TSlot)) (by simp [nz, nz1, ML_nil, encLTSlot]) rfl
@[simp] theorem c109_fn1 (s_l : Nat) (z_l : D) : c109.fn [.sl false s_l z_l []] [] = some ((fun (l : List TSlot) => l.length ≤ 1099511627776) [], (fun (l : List TSlot) => (dB (mAreSlots l) : D)) [], (fun (l : List TSlot) => []) []) :=
  mkCon_fn (fun x y h _ => c109_inj x y h) ([] : (List TSlot)) (by simp [nz, nz1, ML_nil, encLTSlot]) rfl
theorem c109_pc (l : List TSlot) (hpre : l.length ≤ 1099511627776) : PCo Try.prog 109 [encLTSlot l] (Tab.of []) (dB (mAreSlots l)) (Tab.of []) := by
  refine pco_of_run [] (E := ⟨[c146, c147, c148, c149, c148], []⟩) (m := false) (base := 0) (Env.ok_cons c146_ok (Env.ok_cons c147_ok (Env.ok_cons c148_ok (Env.ok_cons c149_ok (Env.ok_cons c148_ok Env.ok_nil))))) G_ok mix 300 6 Try.func109 (by kernel_rfl) rfl (by kernel_rfl) (by kernel_rfl) rfl ?_
  simp [Try.f109]
  have h : ((l.length : Int) ≤ 30) ↔ l.length ≤ 30 := by omega
  simp [mAreSlots, h, hpre]
theorem c109_ok : c109.ok Try.prog := mkCon_ok fun l hpre => c109_pc l hpre
theorem wantT_symm (a b : TSlot) : wantT a.Thing b = wantT b.Thing a := by
  rw [Bool.eq_iff_iff]; simp [wantT]; omega
theorem twoB_snoc (x : TSlot) : ∀ (l : List TSlot), twoB (l ++ [x]) = (twoB l || l.any (wantT x.Thing))
  | [] => rfl
  | y :: r => by
    simp only [List.cons_append, twoB, List.any_append, List.any_cons, List.any_nil, Bool.or_false, twoB_snoc x r, wantT_symm y x]
    cases r.any (wantT y.Thing) <;> cases wantT x.Thing y <;> cases twoB r <;> cases r.any (wantT x.Thing) <;> rfl
theorem twoB_app (b : List TSlot) : ∀ (a : List TSlot), twoB a = true → twoB (a ++ b) = true
  | [], h => by simp [twoB] at h
  | x :: a, h => by
    simp only [twoB, Bool.or_eq_true] at h
    simp only [List.cons_append, twoB, List.any_append, Bool.or_eq_true]
    rcases h with h | h
    · exact .inl (.inl h)
    · exact .inr (twoB_app b a h)
theorem twoB_take {l : List TSlot} {p : Nat} (h : twoB (l.take p) = true) : twoB l = true := by
  have := twoB_app (l.drop p) _ h
  rwa [List.take_append_drop] at this
theorem twoB_take_at {l : List TSlot} {p : Nat} (h : p < l.length) : twoB (l.take (p + 1)) = (twoB (l.take p) || (l.take p).any (wantT (l[p]?.getD default).Thing)) := by
  rw [take_at (d := default) h, twoB_snoc]
def anyT (t : Int) (l : List TSlot) : Bool := l.any (wantT t)
theorem anyT_mono {t : Int} {l : List TSlot} {a b : Nat} (h : a ≤ b) (ha : anyT t (l.take a) = true) : anyT t (l.take b) = true := by
  simp only [anyT, List.any_eq_true] at ha ⊢
  obtain ⟨x, hx, hw⟩ := ha
  refine ⟨x, ?_, hw⟩
  have e : l.take a = (l.take b).take a := by rw [List.take_take, Nat.min_eq_left h]
  rw [e] at hx
  exact List.mem_of_mem_take hx
theorem anyT_at {t : Int} {l : List TSlot} {k : Nat} (h : k < l.length) : anyT t (l.take (k + 1)) = (anyT t (l.take k) || wantT t (l[k]?.getD default)) := by
  rw [take_at (d := default) h]; simp [anyT]
theorem any_take_at {α : Type} {w : α → Bool} {l : List α} {k : Nat} {d : α} (h : k < l.length) : (l.take (k + 1)).any w = ((l.take k).any w || w (l[k]?.getD d)) := by
  rw [take_at (d := d) h]; simp
/-- loop.example/g03007/spec.AreSlots -/
noncomputable def c105 : Con := mkCon 105 false (α := (List TSlot)) (fun x => (fun (l : List TSlot) => [encLTSlot l]) x) (fun _ => []) (fun x => (fun (l : List TSlot) => l.length ≤ 1099511627776) x) (fun x => (fun (l : List TSlot) => (dB (mAreSlots l) : D)) x) (fun x => (fun (l : List TSlot) => []) x)
@[simp] theorem c105_f : c105.f = 105 := rfl
@[simp] theorem c105_own : c105.own = false := rfl
theorem c105_inj : ∀ u_ v_ : (List TSlot), ((fun x => (fun (l : List TSlot) => [encLTSlot l]) x) u_).map nz = ((fun x => (fun (l : List TSlot) => [encLTSlot l]) x) v_).map nz → u_ = v_ := by
  intro u_ v_ h
  obtain l := u_
  obtain l' := v_
  simp [nz_lit, nz1_lit, nz_agg, nz_sl, nz1_sl, encLTSlot] at h
  first | (simp [h]; done) | (obtain ⟨⟩ := h; simp_all; done) | simp_all
@[simp] theorem c105_fn (l : List TSlot) : c105.fn [.sl false 3 yTSlot (ML encTSlot l)] [] = some ((fun (l : List TSlot) => l.length ≤ 1099511627776) l, (fun (l : List TSlot) => (dB (mAreSlots l) : D)) l, (fun (l : List TSlot) => []) l) :=
  mkCon_fn (fun x y h _ => c105_inj x y h) (l : (List TSlot)) (by simp [nz, nz1, ML_nil, encLTSlot]) rfl
@[simp] theorem c105_fn1 (s_l : Nat) (z_l : D) : c105.fn [.sl false s_l z_l []] [] = some ((fun (l : List TSlot) => l.length ≤ 1099511627776) [], (fun (l : List TSlot) => (dB (mAreSlots l) : D)) [], (fun (l : List TSlot) => []) []) :=
  mkCon_fn (fun x y h _ => c105_inj x y h) ([] : (List TSlot)) (by simp [nz, nz1, ML_nil, encLTSlot]) rfl
theorem c105_pc (l : List TSlot) (hpre : l.length ≤ 1099511627776) : PCo Try.prog 105 [encLTSlot l] (Tab.of []) (dB (mAreSlots l)) (Tab.of []) := by
  refine pco_of_run [] (E := ⟨[c116], []⟩) (m := false) (base := 0) (Env.ok_cons c116_ok Env.ok_nil) G_ok mix 300 6 Try.func105 (by kernel_rfl) rfl (by kernel_rfl) (by kernel_rfl) rfl ?_
  simp [Try.f105]
  refine loop_inv (fun p : Nat => p ≤ l.length ∧ ascBy mIsSlot nSlot none l = ascBy mIsSlot nSlot (prevO nSlot l p) (l.drop p) ∧ twoB (l.take p) = false) (fun p => [(0, encLTSlot l), (3, dI p)]) (fun _ => []) 1 (fun p => l.length - p) 0 400 (by simp) (by simp [twoB]) (by simp) ?_
  intro p ⟨hp, hi, ht⟩
  simp
  refine ⟨fun hlt => ?_, fun hge => ?_⟩
  · rw [ascBy_at hlt] at hi; simp only [nSlot, mIsSlot] at hi
    have hs := twoB_take_at hlt
    refine ⟨by repeat' (first | omega | refine And.intro ?_ ?_ | intro _), fun h => by rw [mAreSlots, hi]; grind, fun h1 h2 h3 h4 => ?_⟩
    refine loop_inv (fun k : Nat => k ≤ p ∧ anyT (l[p]?.getD default).Thing (l.take k) = false) (fun k => [(0, encLTSlot l), (3, dI p), (4, dI k)]) (fun _ => []) 1 (fun k => p - k) 0 400 (by simp) (by simp [anyT]) (by simp) ?_
    intro k ⟨hk, hk2⟩
    simp
    refine ⟨fun hkp => ?_, fun hkp => ?_⟩
    · have hkl : k < l.length := by omega
      have hks := anyT_at (t := (l[p]?.getD default).Thing) hkl
      refine ⟨by repeat' (first | omega | refine And.intro ?_ ?_ | intro _), fun ha hb => ?_, fun ha => ⟨by omega, ?_⟩⟩
      · have h5 : wantT (l[p]?.getD default).Thing (l[k]?.getD default) = true := by simp [wantT, ha, hb]
        have h6 : anyT (l[p]?.getD default).Thing (l.take p) = true := anyT_mono (show k + 1 ≤ p by omega) (by rw [hks, h5]; simp)
        have h7 : twoB (l.take (p + 1)) = true := by rw [hs]; simp only [anyT] at h6; rw [h6]; simp
        rw [mAreSlots, twoB_take h7]; simp
      · have h5 : wantT (l[p]?.getD default).Thing (l[k]?.getD default) = false := by simp only [wantT]; grind
        exact Again.mk (k + 1) ⟨by omega, by rw [hks, hk2, h5]; rfl⟩ (by simp) (by first | omega | (simp; omega))
    · have hkp2 : k = p := by omega
      subst hkp2
      simp only [anyT] at hk2
      refine ⟨by omega, Again.mk (k + 1) ⟨by omega, by rw [hi]; grind, by rw [hs, ht, hk2]; rfl⟩ (by simp) (by first | omega | (simp; omega))⟩
  · rw [mAreSlots, hi, ascBy_end hge, List.take_of_length_le hge] at *; simp [ht]; omega
theorem c105_ok : c105.ok Try.prog := mkCon_ok fun l hpre => c105_pc l hpre
end Go.Proofs.Ytkccphdoolpmaaa
