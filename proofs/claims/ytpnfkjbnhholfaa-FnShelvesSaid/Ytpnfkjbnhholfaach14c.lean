/- Contracts of the functions that the laws run. -/
import Derived.Test.Ytpnfkjbnhholfaach14b
import Derived.Test.YtpnfkjbnhholfaaEngB
namespace Go.Proofs.Ytpnfkjbnhholfaa
open Go Go.Eng
set_option linter.unusedSimpArgs false
set_option linter.unusedVariables false
set_option maxRecDepth 10000
set_option maxHeartbeats 1000000
def mIsSlot (s : TSlot) : Bool := mIn s.Id 1 99 && mIn s.Size 1 50 && mIn s.Thing 0 999
@[simp] def nSlot (s : TSlot) : Int := s.Id
/-- loop.example/g03007/impl.isSlot -/
noncomputable def c117 : Con := mkCon 117 false (α := TSlot) (fun x => (fun (s : TSlot) => [encTSlot s]) x) (fun _ => []) (fun x => (fun (s : TSlot) => True) x) (fun x => (fun (s : TSlot) => (dB (mIsSlot s) : D)) x) (fun x => (fun (s : TSlot) => []) x)
@[simp] theorem c117_f : c117.f = 117 := rfl
@[simp] theorem c117_own : c117.own = false := rfl
theorem c117_inj : ∀ u_ v_ : TSlot, ((fun x => (fun (s : TSlot) => [encTSlot s]) x) u_).map nz = ((fun x => (fun (s : TSlot) => [encTSlot s]) x) v_).map nz → u_ = v_ := by
  intro u_ v_ h
  obtain ⟨s_Id, s_Size, s_Thing⟩ := u_
  obtain ⟨s_Id', s_Size', s_Thing'⟩ := v_
  simp [nz_lit, nz1_lit, nz_agg, nz_sl, nz1_sl, encTSlot] at h
  first | (simp [h]; done) | (obtain ⟨⟩ := h; simp_all; done) | simp_all
@[simp] theorem c117_fn (s_Id : Int) (s_Size : Int) (s_Thing : Int) : c117.fn [.agg [.lit (.int .i64 s_Id), .lit (.int .i64 s_Size), .lit (.int .i64 s_Thing)]] [] = some ((fun (s : TSlot) => True) ⟨s_Id, s_Size, s_Thing⟩, (fun (s : TSlot) => (dB (mIsSlot s) : D)) ⟨s_Id, s_Size, s_Thing⟩, (fun (s : TSlot) => []) ⟨s_Id, s_Size, s_Thing⟩) :=
  mkCon_fn (fun x y h _ => c117_inj x y h) (⟨s_Id, s_Size, s_Thing⟩ : TSlot) (by simp [nz, nz1, ML_nil, encTSlot]) rfl
theorem c117_pc (s : TSlot) : PCo Try.prog 117 [encTSlot s] (Tab.of []) (dB (mIsSlot s)) (Tab.of []) := by
  obtain ⟨s_Id, s_Size, s_Thing⟩ := s
  refine pco_of_run [] (E := ⟨[c84], [], []⟩) (m := false) (base := 0) (Env.ok_cons c84_ok Env.ok_nil) G_ok mix 300 6 Try.func117 (by kernel_rfl) rfl (by kernel_rfl) (by kernel_rfl) rfl ?_
  simp [Try.f117]
  simp [mIsSlot]
theorem c117_ok : c117.ok Try.prog := mkCon_ok fun s hpre => c117_pc s
/-- loop.example/g03007/impl.slotsInOrder -/
noncomputable def c115 : Con := mkCon 115 false (α := (List TSlot)) (fun x => (fun (l : List TSlot) => [encLTSlot l]) x) (fun _ => []) (fun x => (fun (l : List TSlot) => True) x) (fun x => (fun (l : List TSlot) => (.agg [.sl false 3 yTSlot (ML encTSlot l), .fn (.func 175) [] []] : D)) x) (fun x => (fun (l : List TSlot) => []) x)
@[simp] theorem c115_f : c115.f = 115 := rfl
@[simp] theorem c115_own : c115.own = false := rfl
theorem c115_inj : ∀ u_ v_ : (List TSlot), ((fun x => (fun (l : List TSlot) => [encLTSlot l]) x) u_).map nz = ((fun x => (fun (l : List TSlot) => [encLTSlot l]) x) v_).map nz → u_ = v_ := by
  intro u_ v_ h
  obtain l := u_
  obtain l' := v_
  simp [nz_lit, nz1_lit, nz_agg, nz_sl, nz1_sl, encLTSlot] at h
  first | (simp [h]; done) | (obtain ⟨⟩ := h; simp_all; done) | simp_all
@[simp] theorem c115_fn (l : List TSlot) : c115.fn [.sl false 3 yTSlot (ML encTSlot l)] [] = some ((fun (l : List TSlot) => True) l, (fun (l : List TSlot) => (.agg [.sl false 3 yTSlot (ML encTSlot l), .fn (.func 175) [] []] : D)) l, (fun (l : List TSlot) => []) l) :=
  mkCon_fn (fun x y h _ => c115_inj x y h) (l : (List TSlot)) (by simp [nz, nz1, ML_nil, encLTSlot]) rfl
@[simp] theorem c115_fn1 (s_l : Nat) (z_l : D) : c115.fn [.sl false s_l z_l []] [] = some ((fun (l : List TSlot) => True) [], (fun (l : List TSlot) => (.agg [.sl false 3 yTSlot (ML encTSlot l), .fn (.func 175) [] []] : D)) [], (fun (l : List TSlot) => []) []) :=
  mkCon_fn (fun x y h _ => c115_inj x y h) ([] : (List TSlot)) (by simp [nz, nz1, ML_nil, encLTSlot]) rfl
theorem c115_pc (l : List TSlot) : PCo Try.prog 115 [encLTSlot l] (Tab.of []) (.agg [.sl false 3 yTSlot (ML encTSlot l), .fn (.func 175) [] []]) (Tab.of []) := by
  refine pco_of_run [] (E := ⟨[], [], []⟩) (m := false) (base := 0) Env.ok_nil G_ok mix 300 6 Try.func115 (by kernel_rfl) rfl (by kernel_rfl) (by kernel_rfl) rfl ?_
  simp [Try.f115]
  all_goals first | omega | (rw [Bool.eq_iff_iff]; simp; omega) | grind
theorem c115_ok : c115.ok Try.prog := mkCon_ok fun l hpre => c115_pc l
/-- loop.example/g03007/impl.slotsInOrder$1 -/
noncomputable def c175 : Con := mkCon 175 false (α := TSlot) (fun x => (fun (x : TSlot) => [encTSlot x]) x) (fun _ => []) (fun x => (fun (x : TSlot) => True) x) (fun x => (fun (x : TSlot) => (dI (nSlot x) : D)) x) (fun x => (fun (x : TSlot) => []) x)
@[simp] theorem c175_f : c175.f = 175 := rfl
@[simp] theorem c175_own : c175.own = false := rfl
theorem c175_inj : ∀ u_ v_ : TSlot, ((fun x => (fun (x : TSlot) => [encTSlot x]) x) u_).map nz = ((fun x => (fun (x : TSlot) => [encTSlot x]) x) v_).map nz → u_ = v_ := by
  intro u_ v_ h
  obtain ⟨x_Id, x_Size, x_Thing⟩ := u_
  obtain ⟨x_Id', x_Size', x_Thing'⟩ := v_
  simp [nz_lit, nz1_lit, nz_agg, nz_sl, nz1_sl, encTSlot] at h
  first | (simp [h]; done) | (obtain ⟨⟩ := h; simp_all; done) | simp_all
@[simp] theorem c175_fn (x_Id : Int) (x_Size : Int) (x_Thing : Int) : c175.fn [.agg [.lit (.int .i64 x_Id), .lit (.int .i64 x_Size), .lit (.int .i64 x_Thing)]] [] = some ((fun (x : TSlot) => True) ⟨x_Id, x_Size, x_Thing⟩, (fun (x : TSlot) => (dI (nSlot x) : D)) ⟨x_Id, x_Size, x_Thing⟩, (fun (x : TSlot) => []) ⟨x_Id, x_Size, x_Thing⟩) :=
  mkCon_fn (fun x y h _ => c175_inj x y h) (⟨x_Id, x_Size, x_Thing⟩ : TSlot) (by simp [nz, nz1, ML_nil, encTSlot]) rfl
theorem c175_pc (x : TSlot) : PCo Try.prog 175 [encTSlot x] (Tab.of []) (dI (nSlot x)) (Tab.of []) := by
  obtain ⟨x_Id, x_Size, x_Thing⟩ := x
  refine pco_of_run [] (E := ⟨[], [], []⟩) (m := false) (base := 0) Env.ok_nil G_ok mix 300 6 Try.func175 (by kernel_rfl) rfl (by kernel_rfl) (by kernel_rfl) rfl ?_
  simp [Try.f175]
  all_goals first | omega | (rw [Bool.eq_iff_iff]; simp; omega) | grind
theorem c175_ok : c175.ok Try.prog := mkCon_ok fun x hpre => c175_pc x
/-- (loop.example/g03007/impl.sortedList[loop.example/g03007/impl.Slot]).isValid -/
noncomputable def c116 : Con := mkCon 116 false (α := (List TSlot) × Int) (fun x => (fun (l : List TSlot) (lim : Int) => ([.agg [.sl false 3 yTSlot (ML encTSlot l), .fn (.func 175) [] []], dI lim, .fn (.func 117) [] []] : List D)) x.1 x.2) (fun x => (fun (l : List TSlot) (lim : Int) => ([] : List (Nm × OO))) x.1 x.2) (fun x => (fun (l : List TSlot) (lim : Int) => l.length ≤ 1099511627776) x.1 x.2) (fun x => (fun (l : List TSlot) (lim : Int) => (dB (decide (l.length ≤ lim) && ascBy mIsSlot nSlot none l) : D)) x.1 x.2) (fun x => (fun (l : List TSlot) (lim : Int) => ([] : List (Nm × OO))) x.1 x.2)
@[simp] theorem c116_f : c116.f = 116 := rfl
@[simp] theorem c116_own : c116.own = false := rfl
theorem c116_inj : ∀ u_ v_ : (List TSlot) × Int, ((fun x => (fun (l : List TSlot) (lim : Int) => ([.agg [.sl false 3 yTSlot (ML encTSlot l), .fn (.func 175) [] []], dI lim, .fn (.func 117) [] []] : List D)) x.1 x.2) u_).map nz = ((fun x => (fun (l : List TSlot) (lim : Int) => ([.agg [.sl false 3 yTSlot (ML encTSlot l), .fn (.func 175) [] []], dI lim, .fn (.func 117) [] []] : List D)) x.1 x.2) v_).map nz → (fun x => (fun (l : List TSlot) (lim : Int) => ([] : List (Nm × OO))) x.1 x.2) u_ = (fun x => (fun (l : List TSlot) (lim : Int) => ([] : List (Nm × OO))) x.1 x.2) v_ → u_ = v_ := by
  intro u_ v_ h h2_
  obtain ⟨l, lim⟩ := u_
  obtain ⟨l', lim'⟩ := v_
  simp [nz_lit, nz1_lit, nz_agg, nz_sl, nz1_sl, nz_sx, nz_el, nz1_el, nz_own, nz1_own, nz_ptr, nz_fn, nz_iface] at h h2_
  first | (simp [h, h2_]; done) | (obtain ⟨h3_, h4_⟩ := List.append_inj h2_ h.1; simp_all; done) | simp_all | grind
@[simp] theorem c116_fn (l : List TSlot) (lim : Int) : c116.fn ([.agg [.sl false 3 yTSlot (ML encTSlot l), .fn (.func 175) [] []], dI lim, .fn (.func 117) [] []]) ([]) = some (l.length ≤ 1099511627776, dB (decide (l.length ≤ lim) && ascBy mIsSlot nSlot none l), []) :=
  mkCon_fn c116_inj ((l, lim) : (List TSlot) × Int) rfl rfl
theorem c116_pc (l : List TSlot) (lim : Int) (hpre : l.length ≤ 1099511627776) : PCo Try.prog 116 ([.agg [.sl false 3 yTSlot (ML encTSlot l), .fn (.func 175) [] []], dI lim, .fn (.func 117) [] []]) (Tab.of ([])) (dB (decide (l.length ≤ lim) && ascBy mIsSlot nSlot none l)) (Tab.of ([])) := by
  refine pco_of_run [6] (E := ⟨[c175, c117], [], []⟩) (m := false) (base := 0) (Env.ok_cons c175_ok (Env.ok_cons c117_ok Env.ok_nil)) G_ok mix 300 6 Try.func116 (by kernel_rfl) rfl (by kernel_rfl) (by kernel_rfl) rfl ?_
  simp [Try.f116]
  refine ⟨fun h h2 => by omega, fun hlim => ?_⟩
  refine loop_inv (fun p : Nat => p ≤ l.length ∧ ascBy mIsSlot nSlot none l = ascBy mIsSlot nSlot (prevO nSlot l p) (l.drop p)) (fun p => [(2, .fn (.func 117) [] []), (3, .ptr (0, 1) 0), (6, dB false), (15, .sl false 3 yTSlot (ML encTSlot l)), (16, dI l.length), (17, dI p)]) (fun _ => [((0, 1), .box (.agg [.sl false 3 yTSlot (ML encTSlot l), .fn (.func 175) [] []]))]) 2 (fun p => l.length - p) 0 400 (by simp) (by simp) (by simp) ?_
  intro p ⟨hp, hi⟩
  simp
  refine ⟨fun hlt => ?_, fun hge => ?_⟩
  · rw [ascBy_at hlt] at hi; simp only [nSlot, wantN] at hi
    repeat' (first | omega | refine And.intro ?_ ?_ | intro _)
    all_goals first | exact Again.mk (p + 1) ⟨by omega, by rw [hi]; grind⟩ (by simp) (by first | omega | (simp; omega)) | (rw [hi]; grind)
  · rw [hi, ascBy_end hge]; simp; omega
theorem c116_ok : c116.ok Try.prog := mkCon_ok fun ⟨l, lim⟩ hpre => c116_pc l lim hpre
def twoB : List TSlot → Bool
  | [] => false
  | x :: r => r.any (wantT x.Thing) || twoB r
theorem indexBy_any {α : Type} {w : α → Bool} : ∀ (l : List α) (i : Int), 0 ≤ i → (0 ≤ indexBy w i l ↔ l.any w = true)
  | [], i, _ => by simp [indexBy]
  | x :: r, i, hi => by
    simp only [indexBy, List.any_cons, Bool.or_eq_true]
    by_cases h : w x = true
    · simp [h, hi]
    · simp only [h, if_false, false_or, Bool.false_eq_true]; exact indexBy_any r (i + 1) (by omega)
theorem twoB_at {l : List TSlot} {p : Nat} (h : p < l.length) : twoB (l.drop p) = ((l.drop (p + 1)).any (wantT (l[p]?.getD default).Thing) || twoB (l.drop (p + 1))) := by
  rw [drop_at (d := default) h, twoB]
theorem twoB_end {l : List TSlot} {p : Nat} (h : l.length ≤ p) : twoB (l.drop p) = false := by
  rw [List.drop_eq_nil_of_le h, twoB]
/-- loop.example/g03007/impl.isAnyInTwo -/
noncomputable def c118 : Con := mkCon 118 false (α := (List TSlot)) (fun x => (fun (l : List TSlot) => [encLTSlot l]) x) (fun _ => []) (fun x => (fun (l : List TSlot) => l.length ≤ 1099511627776) x) (fun x => (fun (l : List TSlot) => (dB (twoB l) : D)) x) (fun x => (fun (l : List TSlot) => []) x)
@[simp] theorem c118_f : c118.f = 118 := rfl
@[simp] theorem c118_own : c118.own = false := rfl
theorem c118_inj : ∀ u_ v_ : (List TSlot), ((fun x => (fun (l : List TSlot) => [encLTSlot l]) x) u_).map nz = ((fun x => (fun (l : List TSlot) => [encLTSlot l]) x) v_).map nz → u_ = v_ := by
  intro u_ v_ h
  obtain l := u_
  obtain l' := v_
  simp [nz_lit, nz1_lit, nz_agg, nz_sl, nz1_sl, encLTSlot] at h
  first | (simp [h]; done) | (obtain ⟨⟩ := h; simp_all; done) | simp_all
@[simp] theorem c118_fn (l : List TSlot) : c118.fn [.sl false 3 yTSlot (ML encTSlot l)] [] = some ((fun (l : List TSlot) => l.length ≤ 1099511627776) l, (fun (l : List TSlot) => (dB (twoB l) : D)) l, (fun (l : List TSlot) => []) l) :=
  mkCon_fn (fun x y h _ => c118_inj x y h) (l : (List TSlot)) (by simp [nz, nz1, ML_nil, encLTSlot]) rfl
@[simp] theorem c118_fn1 (s_l : Nat) (z_l : D) : c118.fn [.sl false s_l z_l []] [] = some ((fun (l : List TSlot) => l.length ≤ 1099511627776) [], (fun (l : List TSlot) => (dB (twoB l) : D)) [], (fun (l : List TSlot) => []) []) :=
  mkCon_fn (fun x y h _ => c118_inj x y h) ([] : (List TSlot)) (by simp [nz, nz1, ML_nil, encLTSlot]) rfl
theorem c118_pc (l : List TSlot) (hpre : l.length ≤ 1099511627776) : PCo Try.prog 118 [encLTSlot l] (Tab.of []) (dB (twoB l)) (Tab.of []) := by
  refine pco_of_run [] (E := ⟨[c114, c114], [], []⟩) (m := false) (base := 0) (Env.ok_cons c114_ok (Env.ok_cons c114_ok Env.ok_nil)) G_ok mix 300 6 Try.func118 (by kernel_rfl) rfl (by kernel_rfl) (by kernel_rfl) rfl ?_
  simp [Try.f118]
  refine loop_inv (fun p : Nat => p ≤ l.length ∧ twoB l = twoB (l.drop p)) (fun p => [(0, encLTSlot l), (5, encLTSlot l), (6, dI l.length), (7, dI p)]) (fun _ => []) 1 (fun p => l.length - p) 0 400 (by simp) (by simp) (by simp) ?_
  intro p ⟨hp, hi⟩
  simp
  refine ⟨fun hlt => ?_, fun hge => ?_⟩
  · rw [twoB_at hlt] at hi
    have ha := indexBy_any (w := wantT (l[p]?.getD default).Thing) (l.drop (p + 1)) 0 (by omega)
    repeat' (first | omega | refine And.intro ?_ ?_ | intro _)
    all_goals first | exact Again.mk (p + 1) ⟨by omega, by rw [hi]; grind⟩ (by simp) (by first | omega | (simp; omega)) | (rw [hi]; grind)
  · rw [hi, twoB_end hge]
theorem c118_ok : c118.ok Try.prog := mkCon_ok fun l hpre => c118_pc l hpre
def mAreSlots (l : List TSlot) : Bool := decide (l.length ≤ 30) && ascBy mIsSlot nSlot none l && !twoB l
/-- loop.example/g03007/impl.AreSlots -/
noncomputable def c45 : Con := mkCon 45 false (α := (List TSlot)) (fun x => (fun (l : List TSlot) => [encLTSlot l]) x) (fun _ => []) (fun x => (fun (l : List TSlot) => l.length ≤ 1099511627776) x) (fun x => (fun (l : List TSlot) => (dB (mAreSlots l) : D)) x) (fun x => (fun (l : List TSlot) => []) x)
@[simp] theorem c45_f : c45.f = 45 := rfl
@[simp] theorem c45_own : c45.own = false := rfl
theorem c45_inj : ∀ u_ v_ : (List TSlot), ((fun x => (fun (l : List TSlot) => [encLTSlot l]) x) u_).map nz = ((fun x => (fun (l : List TSlot) => [encLTSlot l]) x) v_).map nz → u_ = v_ := by
  intro u_ v_ h
  obtain l := u_
  obtain l' := v_
  simp [nz_lit, nz1_lit, nz_agg, nz_sl, nz1_sl, encLTSlot] at h
  first | (simp [h]; done) | (obtain ⟨⟩ := h; simp_all; done) | simp_all
@[simp] theorem c45_fn (l : List TSlot) : c45.fn [.sl false 3 yTSlot (ML encTSlot l)] [] = some ((fun (l : List TSlot) => l.length ≤ 1099511627776) l, (fun (l : List TSlot) => (dB (mAreSlots l) : D)) l, (fun (l : List TSlot) => []) l) :=
  mkCon_fn (fun x y h _ => c45_inj x y h) (l : (List TSlot)) (by simp [nz, nz1, ML_nil, encLTSlot]) rfl
@[simp] theorem c45_fn1 (s_l : Nat) (z_l : D) : c45.fn [.sl false s_l z_l []] [] = some ((fun (l : List TSlot) => l.length ≤ 1099511627776) [], (fun (l : List TSlot) => (dB (mAreSlots l) : D)) [], (fun (l : List TSlot) => []) []) :=
  mkCon_fn (fun x y h _ => c45_inj x y h) ([] : (List TSlot)) (by simp [nz, nz1, ML_nil, encLTSlot]) rfl
theorem c45_pc (l : List TSlot) (hpre : l.length ≤ 1099511627776) : PCo Try.prog 45 [encLTSlot l] (Tab.of []) (dB (mAreSlots l)) (Tab.of []) := by
  refine pco_of_run [] (E := ⟨[c115, c116, c117, c118, c117], [], []⟩) (m := false) (base := 0) (Env.ok_cons c115_ok (Env.ok_cons c116_ok (Env.ok_cons c117_ok (Env.ok_cons c118_ok (Env.ok_cons c117_ok Env.ok_nil))))) G_ok mix 300 6 Try.func45 (by kernel_rfl) rfl (by kernel_rfl) (by kernel_rfl) rfl ?_
  simp [Try.f45]
  have h : ((l.length : Int) ≤ 30) ↔ l.length ≤ 30 := by omega
  simp [mAreSlots, h, hpre]
theorem c45_ok : c45.ok Try.prog := mkCon_ok fun l hpre => c45_pc l hpre
theorem wantT_symm (a b : TSlot) : wantT a.Thing b = wantT b.Thing a := by
  rw [Bool.eq_iff_iff]; simp [wantT]; omega
theorem twoB_snoc (x : TSlot) : ∀ (l : List TSlot), twoB (l ++ [x]) = (twoB l || l.any (wantT x.Thing))
  | [] => rfl
  | y :: r => by
    simp only [List.cons_append, twoB, List.any_append, List.any_cons, List.any_nil, Bool.or_false, twoB_snoc x r, wantT_symm y x]
    cases r.any (wantT y.Thing) <;> cases wantT x.Thing y <;> cases twoB r <;> cases r.any (wantT x.Thing) <;> rfl
theorem twoB_app (b : List TSlot) : ∀ (a : List TSlot), twoB a = true → twoB (a ++ b) = true
  | [], h => by simp [twoB] at h
  | x :: a, h => by
    simp only [twoB, Bool.or_eq_true] at h
    simp only [List.cons_append, twoB, List.any_append, Bool.or_eq_true]
    rcases h with h | h
    · exact .inl (.inl h)
    · exact .inr (twoB_app b a h)
theorem twoB_take {l : List TSlot} {p : Nat} (h : twoB (l.take p) = true) : twoB l = true := by
  have := twoB_app (l.drop p) _ h
  rwa [List.take_append_drop] at this
theorem twoB_take_at {l : List TSlot} {p : Nat} (h : p < l.length) : twoB (l.take (p + 1)) = (twoB (l.take p) || (l.take p).any (wantT (l[p]?.getD default).Thing)) := by
  rw [take_at (d := default) h, twoB_snoc]
def anyT (t : Int) (l : List TSlot) : Bool := l.any (wantT t)
theorem anyT_mono {t : Int} {l : List TSlot} {a b : Nat} (h : a ≤ b) (ha : anyT t (l.take a) = true) : anyT t (l.take b) = true := by
  simp only [anyT, List.any_eq_true] at ha ⊢
  obtain ⟨x, hx, hw⟩ := ha
  refine ⟨x, ?_, hw⟩
  have e : l.take a = (l.take b).take a := by rw [List.take_take, Nat.min_eq_left h]
  rw [e] at hx
  exact List.mem_of_mem_take hx
theorem anyT_at {t : Int} {l : List TSlot} {k : Nat} (h : k < l.length) : anyT t (l.take (k + 1)) = (anyT t (l.take k) || wantT t (l[k]?.getD default)) := by
  rw [take_at (d := default) h]; simp [anyT]
theorem any_take_at {α : Type} {w : α → Bool} {l : List α} {k : Nat} {d : α} (h : k < l.length) : (l.take (k + 1)).any w = ((l.take k).any w || w (l[k]?.getD d)) := by
  rw [take_at (d := d) h]; simp
/-- loop.example/g03007/spec.AreSlots -/
noncomputable def c226 : Con := mkCon 226 false (α := (List TSlot)) (fun x => (fun (l : List TSlot) => [encLTSlot l]) x) (fun _ => []) (fun x => (fun (l : List TSlot) => l.length ≤ 1099511627776) x) (fun x => (fun (l : List TSlot) => (dB (mAreSlots l) : D)) x) (fun x => (fun (l : List TSlot) => []) x)
@[simp] theorem c226_f : c226.f = 226 := rfl
@[simp] theorem c226_own : c226.own = false := rfl
theorem c226_inj : ∀ u_ v_ : (List TSlot), ((fun x => (fun (l : List TSlot) => [encLTSlot l]) x) u_).map nz = ((fun x => (fun (l : List TSlot) => [encLTSlot l]) x) v_).map nz → u_ = v_ := by
  intro u_ v_ h
  obtain l := u_
  obtain l' := v_
  simp [nz_lit, nz1_lit, nz_agg, nz_sl, nz1_sl, encLTSlot] at h
  first | (simp [h]; done) | (obtain ⟨⟩ := h; simp_all; done) | simp_all
@[simp] theorem c226_fn (l : List TSlot) : c226.fn [.sl false 3 yTSlot (ML encTSlot l)] [] = some ((fun (l : List TSlot) => l.length ≤ 1099511627776) l, (fun (l : List TSlot) => (dB (mAreSlots l) : D)) l, (fun (l : List TSlot) => []) l) :=
  mkCon_fn (fun x y h _ => c226_inj x y h) (l : (List TSlot)) (by simp [nz, nz1, ML_nil, encLTSlot]) rfl
@[simp] theorem c226_fn1 (s_l : Nat) (z_l : D) : c226.fn [.sl false s_l z_l []] [] = some ((fun (l : List TSlot) => l.length ≤ 1099511627776) [], (fun (l : List TSlot) => (dB (mAreSlots l) : D)) [], (fun (l : List TSlot) => []) []) :=
  mkCon_fn (fun x y h _ => c226_inj x y h) ([] : (List TSlot)) (by simp [nz, nz1, ML_nil, encLTSlot]) rfl
theorem c226_pc (l : List TSlot) (hpre : l.length ≤ 1099511627776) : PCo Try.prog 226 [encLTSlot l] (Tab.of []) (dB (mAreSlots l)) (Tab.of []) := by
  refine pco_of_run [] (E := ⟨[c108], [], []⟩) (m := false) (base := 0) (Env.ok_cons c108_ok Env.ok_nil) G_ok mix 300 6 Try.func226 (by kernel_rfl) rfl (by kernel_rfl) (by kernel_rfl) rfl ?_
  simp [Try.f226]
  refine loop_inv (fun p : Nat => p ≤ l.length ∧ ascBy mIsSlot nSlot none l = ascBy mIsSlot nSlot (prevO nSlot l p) (l.drop p) ∧ twoB (l.take p) = false) (fun p => [(0, encLTSlot l), (3, dI p)]) (fun _ => []) 1 (fun p => l.length - p) 0 400 (by simp) (by simp [twoB]) (by simp) ?_
  intro p ⟨hp, hi, ht⟩
  simp
  refine ⟨fun hlt => ?_, fun hge => ?_⟩
  · rw [ascBy_at hlt] at hi; simp only [nSlot, mIsSlot] at hi
    have hs := twoB_take_at hlt
    refine ⟨by repeat' (first | omega | refine And.intro ?_ ?_ | intro _), fun h => by rw [mAreSlots, hi]; grind, fun h1 h2 h3 h4 => ?_⟩
    refine loop_inv (fun k : Nat => k ≤ p ∧ anyT (l[p]?.getD default).Thing (l.take k) = false) (fun k => [(0, encLTSlot l), (3, dI p), (4, dI k)]) (fun _ => []) 1 (fun k => p - k) 0 400 (by simp) (by simp [anyT]) (by simp) ?_
    intro k ⟨hk, hk2⟩
    simp
    refine ⟨fun hkp => ?_, fun hkp => ?_⟩
    · have hkl : k < l.length := by omega
      have hks := anyT_at (t := (l[p]?.getD default).Thing) hkl
      refine ⟨by repeat' (first | omega | refine And.intro ?_ ?_ | intro _), fun ha hb => ?_, fun ha => ⟨by omega, ?_⟩⟩
      · have h5 : wantT (l[p]?.getD default).Thing (l[k]?.getD default) = true := by simp [wantT, ha, hb]
        have h6 : anyT (l[p]?.getD default).Thing (l.take p) = true := anyT_mono (show k + 1 ≤ p by omega) (by rw [hks, h5]; simp)
        have h7 : twoB (l.take (p + 1)) = true := by rw [hs]; simp only [anyT] at h6; rw [h6]; simp
        rw [mAreSlots, twoB_take h7]; simp
      · have h5 : wantT (l[p]?.getD default).Thing (l[k]?.getD default) = false := by simp only [wantT]; grind
        exact Again.mk (k + 1) ⟨by omega, by rw [hks, hk2, h5]; rfl⟩ (by simp) (by first | omega | (simp; omega))
    · have hkp2 : k = p := by omega
      subst hkp2
      simp only [anyT] at hk2
      refine ⟨by omega, Again.mk (k + 1) ⟨by omega, by rw [hi]; grind, by rw [hs, ht, hk2]; rfl⟩ (by simp) (by first | omega | (simp; omega))⟩
  · rw [mAreSlots, hi, ascBy_end hge, List.take_of_length_le hge] at *; simp [ht]; omega
theorem c226_ok : c226.ok Try.prog := mkCon_ok fun l hpre => c226_pc l hpre
end Go.Proofs.Ytpnfkjbnhholfaa
