/- Contracts of the functions that the laws run. -/
import Derived.Test.Ytnnieeojfdjcoaach14
import Derived.Test.YtnnieeojfdjcoaaEngB
namespace Go.Proofs.Ytnnieeojfdjcoaa
open Go Go.Eng
set_option linter.unusedSimpArgs false
set_option linter.unusedVariables false
set_option maxRecDepth 10000
set_option maxHeartbeats 1000000
def wantT (t : Int) (s : TSlot) : Bool := decide (¬ t = 0) && decide (s.Thing = t)
/-- (loop.example/g03007/impl.content).isIn -/
noncomputable def c186 : Con := mkCon 186 false (α := Int × TSlot) (fun x => (fun (c : Int) (s : TSlot) => ([dI c, encTSlot s] : List D)) x.1 x.2) (fun x => (fun (c : Int) (s : TSlot) => ([] : List (Nm × OO))) x.1 x.2) (fun x => (fun (c : Int) (s : TSlot) => True) x.1 x.2) (fun x => (fun (c : Int) (s : TSlot) => (dB (wantT c s) : D)) x.1 x.2) (fun x => (fun (c : Int) (s : TSlot) => ([] : List (Nm × OO))) x.1 x.2)
@[simp] theorem c186_f : c186.f = 186 := rfl
@[simp] theorem c186_own : c186.own = false := rfl
theorem c186_inj : ∀ u_ v_ : Int × TSlot, ((fun x => (fun (c : Int) (s : TSlot) => ([dI c, encTSlot s] : List D)) x.1 x.2) u_).map nz = ((fun x => (fun (c : Int) (s : TSlot) => ([dI c, encTSlot s] : List D)) x.1 x.2) v_).map nz → (fun x => (fun (c : Int) (s : TSlot) => ([] : List (Nm × OO))) x.1 x.2) u_ = (fun x => (fun (c : Int) (s : TSlot) => ([] : List (Nm × OO))) x.1 x.2) v_ → u_ = v_ := by
  intro u_ v_ h h2_
  obtain ⟨c, ⟨s_Id, s_Size, s_Thing⟩⟩ := u_
  obtain ⟨c', ⟨s_Id', s_Size', s_Thing'⟩⟩ := v_
  simp [nz_lit, nz1_lit, nz_agg, nz_sl, nz1_sl, nz_sx, nz_el, nz1_el, nz_own, nz1_own, nz_ptr, nz_fn, nz_iface] at h h2_
  first | (simp [h, h2_]; done) | simp_all | grind
@[simp] theorem c186_fn (c : Int) (s_Id : Int) (s_Size : Int) (s_Thing : Int) : c186.fn ([dI c, .agg [.lit (.int .i64 s_Id), .lit (.int .i64 s_Size), .lit (.int .i64 s_Thing)]]) ([]) = some (True, dB (wantT c (⟨s_Id, s_Size, s_Thing⟩ : TSlot)), []) :=
  mkCon_fn c186_inj ((c, ⟨s_Id, s_Size, s_Thing⟩) : Int × TSlot) rfl rfl
theorem c186_pc (c : Int) (s : TSlot) : PCo Try.prog 186 ([dI c, encTSlot s]) (Tab.of ([])) (dB (wantT c s)) (Tab.of ([])) := by
  refine pco_of_run [] (E := ⟨[], []⟩) (m := false) (base := 0) Env.ok_nil G_ok mix 300 6 Try.func186 (by kernel_rfl) rfl (by kernel_rfl) (by kernel_rfl) rfl ?_
  simp [Try.f186]
  simp [wantT]
  first | done | first | rfl | omega | (rw [Bool.eq_iff_iff]; simp; done) | (rw [Bool.eq_iff_iff]; simp; omega) | (rw [Bool.eq_iff_iff]; simp; grind) | grind
theorem c186_ok : c186.ok Try.prog := mkCon_ok fun ⟨c, s⟩ hpre => c186_pc c s
/-- slices.IndexFunc[[]loop.example/g03007/impl.Slo -/
noncomputable def c185_t : Con := mkCon 185 false (α := (List TSlot) × Int) (fun x => (fun (l : List TSlot) (t : Int) => ([encLTSlot l, .fn (.func 186) [dI t] []] : List D)) x.1 x.2) (fun x => (fun (l : List TSlot) (t : Int) => ([] : List (Nm × OO))) x.1 x.2) (fun x => (fun (l : List TSlot) (t : Int) => l.length ≤ 1099511627776) x.1 x.2) (fun x => (fun (l : List TSlot) (t : Int) => (dI (indexBy (wantT t) 0 l) : D)) x.1 x.2) (fun x => (fun (l : List TSlot) (t : Int) => ([] : List (Nm × OO))) x.1 x.2)
@[simp] theorem c185_t_f : c185_t.f = 185 := rfl
@[simp] theorem c185_t_own : c185_t.own = false := rfl
theorem c185_t_inj : ∀ u_ v_ : (List TSlot) × Int, ((fun x => (fun (l : List TSlot) (t : Int) => ([encLTSlot l, .fn (.func 186) [dI t] []] : List D)) x.1 x.2) u_).map nz = ((fun x => (fun (l : List TSlot) (t : Int) => ([encLTSlot l, .fn (.func 186) [dI t] []] : List D)) x.1 x.2) v_).map nz → (fun x => (fun (l : List TSlot) (t : Int) => ([] : List (Nm × OO))) x.1 x.2) u_ = (fun x => (fun (l : List TSlot) (t : Int) => ([] : List (Nm × OO))) x.1 x.2) v_ → u_ = v_ := by
  intro u_ v_ h h2_
  obtain ⟨l, t⟩ := u_
  obtain ⟨l', t'⟩ := v_
  simp [nz_lit, nz1_lit, nz_agg, nz_sl, nz1_sl, nz_sx, nz_el, nz1_el, nz_own, nz1_own, nz_ptr, nz_fn, nz_iface] at h h2_
  first | (simp [h, h2_]; done) | simp_all | grind
@[simp] theorem c185_t_fn (l : List TSlot) (t : Int) : c185_t.fn ([(.sl false 3 yTSlot (ML encTSlot l)), .fn (.func 186) [dI t] []]) ([]) = some (l.length ≤ 1099511627776, dI (indexBy (wantT t) 0 l), []) :=
  mkCon_fn c185_t_inj ((l, t) : (List TSlot) × Int) rfl rfl
theorem c185_t_pc (l : List TSlot) (t : Int) (hpre : l.length ≤ 1099511627776) : PCo Try.prog 185 ([encLTSlot l, .fn (.func 186) [dI t] []]) (Tab.of ([])) (dI (indexBy (wantT t) 0 l)) (Tab.of ([])) := by
  refine pco_of_run [] (E := ⟨[c186], []⟩) (m := false) (base := 0) (Env.ok_cons c186_ok Env.ok_nil) G_ok mix 300 6 Try.func185 (by kernel_rfl) rfl (by kernel_rfl) (by kernel_rfl) rfl ?_
  simp [Try.f185]
  refine loop_inv (fun p : Nat => p ≤ l.length ∧ indexBy (wantT t) 0 l = indexBy (wantT t) p (l.drop p)) (fun p => [(0, encLTSlot l), (1, .fn (.func 186) [dI t] []), (7, dI l.length), (8, dI p)]) (fun _ => []) 1 (fun p => l.length - p) 0 400 (by simp) (by simp) (by simp) ?_
  intro p ⟨hp, hi⟩
  simp
  refine ⟨fun hlt => ?_, fun hge => ?_⟩
  · rw [indexBy_at (d := default) hlt] at hi
    repeat' (first | omega | refine And.intro ?_ ?_ | intro _)
    all_goals first | exact Again.mk (p + 1) ⟨by omega, by rw [hi]; grind⟩ (by simp) (by first | omega | (simp; omega)) | (rw [hi]; grind)
  · rw [hi, indexBy_end hge]
theorem c185_t_ok : c185_t.ok Try.prog := mkCon_ok fun ⟨l, t⟩ hpre => c185_t_pc l t hpre
noncomputable def c185 : Con := selCon 185 false [([186], c185_t)]
@[simp] theorem c185_f : c185.f = 185 := rfl
@[simp] theorem c185_own : c185.own = false := rfl
@[simp] theorem c185_fn0 (l : List TSlot) (t : Int) : c185.fn ([(.sl false 3 yTSlot (ML encTSlot l)), .fn (.func 186) [dI t] []]) ([]) = some (l.length ≤ 1099511627776, dI (indexBy (wantT t) 0 l), []) := by
  rw [c185, selCon_fn]
  have h : selK [([186], c185_t)] (keyDs ([(.sl false 3 yTSlot (ML encTSlot l)), .fn (.func 186) [dI t] []])) = some c185_t := by simp
  rw [h]
  exact c185_t_fn l t
theorem c185_ok : c185.ok Try.prog := selCon_ok fun p hp => by
  simp only [List.mem_cons, List.not_mem_nil, or_false] at hp
  rcases hp with rfl
  · exact ⟨rfl, c185_t_ok⟩
/-- loop.example/g03007/impl.slotWith -/
noncomputable def c151 : Con := mkCon 151 false (α := (List TSlot) × Int) (fun x => (fun (l : List TSlot) (t : Int) => [encLTSlot l, dI t]) x.1 x.2) (fun _ => []) (fun x => (fun (l : List TSlot) (t : Int) => l.length ≤ 1099511627776) x.1 x.2) (fun x => (fun (l : List TSlot) (t : Int) => (dI (indexBy (wantT t) 0 l) : D)) x.1 x.2) (fun x => (fun (l : List TSlot) (t : Int) => []) x.1 x.2)
@[simp] theorem c151_f : c151.f = 151 := rfl
@[simp] theorem c151_own : c151.own = false := rfl
theorem c151_inj : ∀ u_ v_ : (List TSlot) × Int, ((fun x => (fun (l : List TSlot) (t : Int) => [encLTSlot l, dI t]) x.1 x.2) u_).map nz = ((fun x => (fun (l : List TSlot) (t : Int) => [encLTSlot l, dI t]) x.1 x.2) v_).map nz → u_ = v_ := by
  intro u_ v_ h
  obtain ⟨l, t⟩ := u_
  obtain ⟨l', t'⟩ := v_
  simp [nz_lit, nz1_lit, nz_agg, nz_sl, nz1_sl, encLTSlot] at h
  first | (simp [h]; done) | (obtain ⟨⟩ := h; simp_all; done) | simp_all
@[simp] theorem c151_fn (l : List TSlot) (t : Int) : c151.fn [.sl false 3 yTSlot (ML encTSlot l), .lit (.int .i64 t)] [] = some ((fun (l : List TSlot) (t : Int) => l.length ≤ 1099511627776) l t, (fun (l : List TSlot) (t : Int) => (dI (indexBy (wantT t) 0 l) : D)) l t, (fun (l : List TSlot) (t : Int) => []) l t) :=
  mkCon_fn (fun x y h _ => c151_inj x y h) ((l, t) : (List TSlot) × Int) (by simp [nz, nz1, ML_nil, encLTSlot]) rfl
@[simp] theorem c151_fn1 (s_l : Nat) (z_l : D) (t : Int) : c151.fn [.sl false s_l z_l [], .lit (.int .i64 t)] [] = some ((fun (l : List TSlot) (t : Int) => l.length ≤ 1099511627776) [] t, (fun (l : List TSlot) (t : Int) => (dI (indexBy (wantT t) 0 l) : D)) [] t, (fun (l : List TSlot) (t : Int) => []) [] t) :=
  mkCon_fn (fun x y h _ => c151_inj x y h) (([], t) : (List TSlot) × Int) (by simp [nz, nz1, ML_nil, encLTSlot]) rfl
theorem c151_pc (l : List TSlot) (t : Int) (hpre : l.length ≤ 1099511627776) : PCo Try.prog 151 [encLTSlot l, dI t] (Tab.of []) (dI (indexBy (wantT t) 0 l)) (Tab.of []) := by
  refine pco_of_run [] (E := ⟨[c185, c186], []⟩) (m := false) (base := 0) (Env.ok_cons c185_ok (Env.ok_cons c186_ok Env.ok_nil)) G_ok mix 300 6 Try.func151 (by kernel_rfl) rfl (by kernel_rfl) (by kernel_rfl) rfl ?_
  simp [Try.f151]
  exact hpre
theorem c151_ok : c151.ok Try.prog := mkCon_ok fun ⟨l, t⟩ hpre => c151_pc l t hpre
def lookS (t : Int) : List TSlot → Int
  | [] => 0
  | x :: r => if wantT t x then x.Id else lookS t r
theorem lookS_at {t : Int} {l : List TSlot} {p : Nat} (h : p < l.length) : lookS t (l.drop p) = if wantT t (l[p]?.getD default) then (l[p]?.getD default).Id else lookS t (l.drop (p + 1)) := by
  rw [drop_at (d := default) h, lookS]
theorem lookS_end {t : Int} {l : List TSlot} {p : Nat} (h : l.length ≤ p) : lookS t (l.drop p) = 0 := by
  rw [List.drop_eq_nil_of_le h, lookS]
theorem look_index {t : Int} : ∀ (l : List TSlot) (i : Int), 0 ≤ i → (indexBy (wantT t) i l < 0 ∧ lookS t l = 0) ∨ ∃ k : Nat, k < l.length ∧ indexBy (wantT t) i l = i + k ∧ lookS t l = (l[k]?.getD default).Id
  | [], i, h => by simp [indexBy, lookS]
  | x :: r, i, h => by
    simp only [indexBy, lookS]
    by_cases hw : wantT t x = true
    · rw [if_pos hw, if_pos hw]; exact .inr ⟨0, by simp, by simp, by simp⟩
    · rw [if_neg hw, if_neg hw]
      rcases look_index r (i + 1) (by omega) with h1 | ⟨k, h1, h2, h3⟩
      · exact .inl h1
      · exact .inr ⟨k + 1, by simp; omega, by rw [h2]; push_cast; omega, by simpa using h3⟩
/-- loop.example/g03007/impl.SlotOf -/
noncomputable def c92 : Con := mkCon 92 false (α := (List TSlot) × Int) (fun x => (fun (l : List TSlot) (t : Int) => [encLTSlot l, dI t]) x.1 x.2) (fun _ => []) (fun x => (fun (l : List TSlot) (t : Int) => l.length ≤ 1099511627776) x.1 x.2) (fun x => (fun (l : List TSlot) (t : Int) => (dI (lookS t l) : D)) x.1 x.2) (fun x => (fun (l : List TSlot) (t : Int) => []) x.1 x.2)
@[simp] theorem c92_f : c92.f = 92 := rfl
@[simp] theorem c92_own : c92.own = false := rfl
theorem c92_inj : ∀ u_ v_ : (List TSlot) × Int, ((fun x => (fun (l : List TSlot) (t : Int) => [encLTSlot l, dI t]) x.1 x.2) u_).map nz = ((fun x => (fun (l : List TSlot) (t : Int) => [encLTSlot l, dI t]) x.1 x.2) v_).map nz → u_ = v_ := by
  intro u_ v_ h
  obtain ⟨l, t⟩ := u_
  obtain ⟨l', t'⟩ := v_
  simp [nz_lit, nz1_lit, nz_agg, nz_sl, nz1_sl, encLTSlot] at h
  first | (simp [h]; done) | (obtain ⟨⟩ := h; simp_all; done) | simp_all
@[simp] theorem c92_fn (l : List TSlot) (t : Int) : c92.fn [.sl false 3 yTSlot (ML encTSlot l), .lit (.int .i64 t)] [] = some ((fun (l : List TSlot) (t : Int) => l.length ≤ 1099511627776) l t, (fun (l : List TSlot) (t : Int) => (dI (lookS t l) : D)) l t, (fun (l : List TSlot) (t : Int) => []) l t) :=
  mkCon_fn (fun x y h _ => c92_inj x y h) ((l, t) : (List TSlot) × Int) (by simp [nz, nz1, ML_nil, encLTSlot]) rfl
@[simp] theorem c92_fn1 (s_l : Nat) (z_l : D) (t : Int) : c92.fn [.sl false s_l z_l [], .lit (.int .i64 t)] [] = some ((fun (l : List TSlot) (t : Int) => l.length ≤ 1099511627776) [] t, (fun (l : List TSlot) (t : Int) => (dI (lookS t l) : D)) [] t, (fun (l : List TSlot) (t : Int) => []) [] t) :=
  mkCon_fn (fun x y h _ => c92_inj x y h) (([], t) : (List TSlot) × Int) (by simp [nz, nz1, ML_nil, encLTSlot]) rfl
theorem c92_pc (l : List TSlot) (t : Int) (hpre : l.length ≤ 1099511627776) : PCo Try.prog 92 [encLTSlot l, dI t] (Tab.of []) (dI (lookS t l)) (Tab.of []) := by
  refine pco_of_run [] (E := ⟨[c151], []⟩) (m := false) (base := 0) (Env.ok_cons c151_ok Env.ok_nil) G_ok mix 300 6 Try.func92 (by kernel_rfl) rfl (by kernel_rfl) (by kernel_rfl) rfl ?_
  simp [Try.f92]
  refine ⟨hpre, ?_⟩
  rcases look_index (t := t) l 0 (by omega) with ⟨h1, h2⟩ | ⟨k, h1, h2, h3⟩
  · rw [h2]; exact ⟨fun _ => rfl, fun h => absurd h (by omega)⟩
  · rw [h2, h3]; exact ⟨fun h => by omega, fun _ => ⟨by omega, by simp⟩⟩
theorem c92_ok : c92.ok Try.prog := mkCon_ok fun ⟨l, t⟩ hpre => c92_pc l t hpre
/-- loop.example/g03007/spec.SlotOf -/
noncomputable def c91 : Con := mkCon 91 false (α := (List TSlot) × Int) (fun x => (fun (l : List TSlot) (t : Int) => [encLTSlot l, dI t]) x.1 x.2) (fun _ => []) (fun x => (fun (l : List TSlot) (t : Int) => l.length ≤ 1099511627776) x.1 x.2) (fun x => (fun (l : List TSlot) (t : Int) => (dI (lookS t l) : D)) x.1 x.2) (fun x => (fun (l : List TSlot) (t : Int) => []) x.1 x.2)
@[simp] theorem c91_f : c91.f = 91 := rfl
@[simp] theorem c91_own : c91.own = false := rfl
theorem c91_inj : ∀ u_ v_ : (List TSlot) × Int, ((fun x => (fun (l : List TSlot) (t : Int) => [encLTSlot l, dI t]) x.1 x.2) u_).map nz = ((fun x => (fun (l : List TSlot) (t : Int) => [encLTSlot l, dI t]) x.1 x.2) v_).map nz → u_ = v_ := by
  intro u_ v_ h
  obtain ⟨l, t⟩ := u_
  obtain ⟨l', t'⟩ := v_
  simp [nz_lit, nz1_lit, nz_agg, nz_sl, nz1_sl, encLTSlot] at h
  first | (simp [h]; done) | (obtain ⟨⟩ := h; simp_all; done) | simp_all
@[simp] theorem c91_fn (l : List TSlot) (t : Int) : c91.fn [.sl false 3 yTSlot (ML encTSlot l), .lit (.int .i64 t)] [] = some ((fun (l : List TSlot) (t : Int) => l.length ≤ 1099511627776) l t, (fun (l : List TSlot) (t : Int) => (dI (lookS t l) : D)) l t, (fun (l : List TSlot) (t : Int) => []) l t) :=
  mkCon_fn (fun x y h _ => c91_inj x y h) ((l, t) : (List TSlot) × Int) (by simp [nz, nz1, ML_nil, encLTSlot]) rfl
@[simp] theorem c91_fn1 (s_l : Nat) (z_l : D) (t : Int) : c91.fn [.sl false s_l z_l [], .lit (.int .i64 t)] [] = some ((fun (l : List TSlot) (t : Int) => l.length ≤ 1099511627776) [] t, (fun (l : List TSlot) (t : Int) => (dI (lookS t l) : D)) [] t, (fun (l : List TSlot) (t : Int) => []) [] t) :=
  mkCon_fn (fun x y h _ => c91_inj x y h) (([], t) : (List TSlot) × Int) (by simp [nz, nz1, ML_nil, encLTSlot]) rfl
theorem c91_pc (l : List TSlot) (t : Int) (hpre : l.length ≤ 1099511627776) : PCo Try.prog 91 [encLTSlot l, dI t] (Tab.of []) (dI (lookS t l)) (Tab.of []) := by
  refine pco_of_run [] (E := ⟨[], []⟩) (m := false) (base := 0) Env.ok_nil G_ok mix 300 6 Try.func91 (by kernel_rfl) rfl (by kernel_rfl) (by kernel_rfl) rfl ?_
  simp [Try.f91]
  refine loop_inv (fun p : Nat => p ≤ l.length ∧ lookS t l = lookS t (l.drop p)) (fun p => [(0, encLTSlot l), (1, dI t), (5, dI p)]) (fun _ => []) 1 (fun p => l.length - p) 0 400 (by simp) (by simp) (by simp) ?_
  intro p ⟨hp, hi⟩
  simp
  refine ⟨fun hlt => ?_, fun hge => ?_⟩
  · rw [lookS_at hlt] at hi; simp only [wantT, Bool.and_eq_true, decide_eq_true_eq] at hi
    repeat' (first | omega | refine And.intro ?_ ?_ | intro _)
    all_goals first | exact Again.mk (p + 1) ⟨by omega, by rw [hi]; grind⟩ (by simp) (by first | omega | (simp; omega)) | (rw [hi]; grind)
  · rw [hi, lookS_end hge]
theorem c91_ok : c91.ok Try.prog := mkCon_ok fun ⟨l, t⟩ hpre => c91_pc l t hpre
/-- loop.example/g03007/laws.FnExactSlotOf -/
theorem law22 (l : List TSlot) (wl : wfLTSlot l) (t : Int) (wt : inR .i64 t) : PCo Try.prog 22 [encLTSlot l, dI t] (Tab.of []) (dB true) (Tab.of []) := by
  refine pco_of_run [] (E := ⟨[c86, c88, c90, c91, c92], []⟩) (m := false) (base := 0) (Env.ok_cons c86_ok (Env.ok_cons c88_ok (Env.ok_cons c90_ok (Env.ok_cons c91_ok (Env.ok_cons c92_ok Env.ok_nil))))) G_ok mix 400 6 Try.func22 (by kernel_rfl) rfl (by kernel_rfl) (by kernel_rfl) rfl ?_
  simp [Try.f22]
  have h_l : l.length ≤ maxLen := wl.1
  repeat' (first | omega | assumption | refine And.intro ?_ ?_ | intro _)
  all_goals first | omega | grind | (split at * <;> omega)
theorem law22_pc (D0 : D) (h0 : Sh G 9 79 D0) (D1 : D) (h1 : Sh G 9 3 D1) : PC Try.prog 22 [D0, D1] (dB true) [] := by
  obtain ⟨l, rfl, wl⟩ := sh79 (n := 6) h0
  obtain ⟨t, rfl, wt⟩ := sh3 (n := 8) h1
  exact law22 l wl t wt

end Go.Proofs.Ytnnieeojfdjcoaa
