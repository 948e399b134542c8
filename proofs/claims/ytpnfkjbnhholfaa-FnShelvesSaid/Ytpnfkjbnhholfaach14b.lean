/- Contracts of the functions that the laws run. -/
import Derived.Test.Ytpnfkjbnhholfaach14
import Derived.Test.YtpnfkjbnhholfaaEngB
namespace Go.Proofs.Ytpnfkjbnhholfaa
open Go Go.Eng
set_option linter.unusedSimpArgs false
set_option linter.unusedVariables false
set_option maxRecDepth 10000
set_option maxHeartbeats 1000000
def wantT (t : Int) (s : TSlot) : Bool := decide (¬ t = 0) && decide (s.Thing = t)
/-- (loop.example/g03007/impl.content).isIn -/
noncomputable def c174 : Con := mkCon 174 false (α := Int × TSlot) (fun x => (fun (c : Int) (s : TSlot) => ([dI c, encTSlot s] : List D)) x.1 x.2) (fun x => (fun (c : Int) (s : TSlot) => ([] : List (Nm × OO))) x.1 x.2) (fun x => (fun (c : Int) (s : TSlot) => True) x.1 x.2) (fun x => (fun (c : Int) (s : TSlot) => (dB (wantT c s) : D)) x.1 x.2) (fun x => (fun (c : Int) (s : TSlot) => ([] : List (Nm × OO))) x.1 x.2)
@[simp] theorem c174_f : c174.f = 174 := rfl
@[simp] theorem c174_own : c174.own = false := rfl
theorem c174_inj : ∀ u_ v_ : Int × TSlot, ((fun x => (fun (c : Int) (s : TSlot) => ([dI c, encTSlot s] : List D)) x.1 x.2) u_).map nz = ((fun x => (fun (c : Int) (s : TSlot) => ([dI c, encTSlot s] : List D)) x.1 x.2) v_).map nz → (fun x => (fun (c : Int) (s : TSlot) => ([] : List (Nm × OO))) x.1 x.2) u_ = (fun x => (fun (c : Int) (s : TSlot) => ([] : List (Nm × OO))) x.1 x.2) v_ → u_ = v_ := by
  intro u_ v_ h h2_
  obtain ⟨c, ⟨s_Id, s_Size, s_Thing⟩⟩ := u_
  obtain ⟨c', ⟨s_Id', s_Size', s_Thing'⟩⟩ := v_
  simp [nz_lit, nz1_lit, nz_agg, nz_sl, nz1_sl, nz_sx, nz_el, nz1_el, nz_own, nz1_own, nz_ptr, nz_fn, nz_iface] at h h2_
  first | (simp [h, h2_]; done) | (obtain ⟨h3_, h4_⟩ := List.append_inj h2_ h.1; simp_all; done) | simp_all | grind
@[simp] theorem c174_fn (c : Int) (s_Id : Int) (s_Size : Int) (s_Thing : Int) : c174.fn ([dI c, .agg [.lit (.int .i64 s_Id), .lit (.int .i64 s_Size), .lit (.int .i64 s_Thing)]]) ([]) = some (True, dB (wantT c (⟨s_Id, s_Size, s_Thing⟩ : TSlot)), []) :=
  mkCon_fn c174_inj ((c, ⟨s_Id, s_Size, s_Thing⟩) : Int × TSlot) rfl rfl
theorem c174_pc (c : Int) (s : TSlot) : PCo Try.prog 174 ([dI c, encTSlot s]) (Tab.of ([])) (dB (wantT c s)) (Tab.of ([])) := by
  refine pco_of_run [] (E := ⟨[], [], []⟩) (m := false) (base := 0) Env.ok_nil G_ok mix 300 6 Try.func174 (by kernel_rfl) rfl (by kernel_rfl) (by kernel_rfl) rfl ?_
  simp [Try.f174]
  simp [wantT]
  first | done | first | rfl | omega | (rw [Bool.eq_iff_iff]; simp; done) | (rw [Bool.eq_iff_iff]; simp; omega) | (rw [Bool.eq_iff_iff]; simp; grind) | grind
theorem c174_ok : c174.ok Try.prog := mkCon_ok fun ⟨c, s⟩ hpre => c174_pc c s
/-- slices.IndexFunc[[]loop.example/g03007/impl.Slo -/
noncomputable def c173_t : Con := mkCon 173 false (α := (List TSlot) × Int) (fun x => (fun (l : List TSlot) (t : Int) => ([encLTSlot l, .fn (.func 174) [dI t] []] : List D)) x.1 x.2) (fun x => (fun (l : List TSlot) (t : Int) => ([] : List (Nm × OO))) x.1 x.2) (fun x => (fun (l : List TSlot) (t : Int) => l.length ≤ 1099511627776) x.1 x.2) (fun x => (fun (l : List TSlot) (t : Int) => (dI (indexBy (wantT t) 0 l) : D)) x.1 x.2) (fun x => (fun (l : List TSlot) (t : Int) => ([] : List (Nm × OO))) x.1 x.2)
@[simp] theorem c173_t_f : c173_t.f = 173 := rfl
@[simp] theorem c173_t_own : c173_t.own = false := rfl
theorem c173_t_inj : ∀ u_ v_ : (List TSlot) × Int, ((fun x => (fun (l : List TSlot) (t : Int) => ([encLTSlot l, .fn (.func 174) [dI t] []] : List D)) x.1 x.2) u_).map nz = ((fun x => (fun (l : List TSlot) (t : Int) => ([encLTSlot l, .fn (.func 174) [dI t] []] : List D)) x.1 x.2) v_).map nz → (fun x => (fun (l : List TSlot) (t : Int) => ([] : List (Nm × OO))) x.1 x.2) u_ = (fun x => (fun (l : List TSlot) (t : Int) => ([] : List (Nm × OO))) x.1 x.2) v_ → u_ = v_ := by
  intro u_ v_ h h2_
  obtain ⟨l, t⟩ := u_
  obtain ⟨l', t'⟩ := v_
  simp [nz_lit, nz1_lit, nz_agg, nz_sl, nz1_sl, nz_sx, nz_el, nz1_el, nz_own, nz1_own, nz_ptr, nz_fn, nz_iface] at h h2_
  first | (simp [h, h2_]; done) | (obtain ⟨h3_, h4_⟩ := List.append_inj h2_ h.1; simp_all; done) | simp_all | grind
@[simp] theorem c173_t_fn (l : List TSlot) (t : Int) : c173_t.fn ([(.sl false 3 yTSlot (ML encTSlot l)), .fn (.func 174) [dI t] []]) ([]) = some (l.length ≤ 1099511627776, dI (indexBy (wantT t) 0 l), []) :=
  mkCon_fn c173_t_inj ((l, t) : (List TSlot) × Int) rfl rfl
theorem c173_t_pc (l : List TSlot) (t : Int) (hpre : l.length ≤ 1099511627776) : PCo Try.prog 173 ([encLTSlot l, .fn (.func 174) [dI t] []]) (Tab.of ([])) (dI (indexBy (wantT t) 0 l)) (Tab.of ([])) := by
  refine pco_of_run [] (E := ⟨[c174], [], []⟩) (m := false) (base := 0) (Env.ok_cons c174_ok Env.ok_nil) G_ok mix 300 6 Try.func173 (by kernel_rfl) rfl (by kernel_rfl) (by kernel_rfl) rfl ?_
  simp [Try.f173]
  refine loop_inv (fun p : Nat => p ≤ l.length ∧ indexBy (wantT t) 0 l = indexBy (wantT t) p (l.drop p)) (fun p => [(0, encLTSlot l), (1, .fn (.func 174) [dI t] []), (7, dI l.length), (8, dI p)]) (fun _ => []) 1 (fun p => l.length - p) 0 400 (by simp) (by simp) (by simp) ?_
  intro p ⟨hp, hi⟩
  simp
  refine ⟨fun hlt => ?_, fun hge => ?_⟩
  · rw [indexBy_at (d := default) hlt] at hi
    repeat' (first | omega | refine And.intro ?_ ?_ | intro _)
    all_goals first | exact Again.mk (p + 1) ⟨by omega, by rw [hi]; grind⟩ (by simp) (by first | omega | (simp; omega)) | (rw [hi]; grind)
  · rw [hi, indexBy_end hge]
theorem c173_t_ok : c173_t.ok Try.prog := mkCon_ok fun ⟨l, t⟩ hpre => c173_t_pc l t hpre
noncomputable def c173 : Con := selCon 173 false [([174], c173_t)]
@[simp] theorem c173_f : c173.f = 173 := rfl
@[simp] theorem c173_own : c173.own = false := rfl
@[simp] theorem c173_fn0 (l : List TSlot) (t : Int) : c173.fn ([(.sl false 3 yTSlot (ML encTSlot l)), .fn (.func 174) [dI t] []]) ([]) = some (l.length ≤ 1099511627776, dI (indexBy (wantT t) 0 l), []) := by
  rw [c173, selCon_fn]
  have h : selK [([174], c173_t)] (keyDs ([(.sl false 3 yTSlot (ML encTSlot l)), .fn (.func 174) [dI t] []])) = some c173_t := by simp
  rw [h]
  exact c173_t_fn l t
theorem c173_ok : c173.ok Try.prog := selCon_ok fun p hp => by
  simp only [List.mem_cons, List.not_mem_nil, or_false] at hp
  rcases hp with rfl
  · exact ⟨rfl, c173_t_ok⟩
/-- loop.example/g03007/impl.slotWith -/
noncomputable def c114 : Con := mkCon 114 false (α := (List TSlot) × Int) (fun x => (fun (l : List TSlot) (t : Int) => [encLTSlot l, dI t]) x.1 x.2) (fun _ => []) (fun x => (fun (l : List TSlot) (t : Int) => l.length ≤ 1099511627776) x.1 x.2) (fun x => (fun (l : List TSlot) (t : Int) => (dI (indexBy (wantT t) 0 l) : D)) x.1 x.2) (fun x => (fun (l : List TSlot) (t : Int) => []) x.1 x.2)
@[simp] theorem c114_f : c114.f = 114 := rfl
@[simp] theorem c114_own : c114.own = false := rfl
theorem c114_inj : ∀ u_ v_ : (List TSlot) × Int, ((fun x => (fun (l : List TSlot) (t : Int) => [encLTSlot l, dI t]) x.1 x.2) u_).map nz = ((fun x => (fun (l : List TSlot) (t : Int) => [encLTSlot l, dI t]) x.1 x.2) v_).map nz → u_ = v_ := by
  intro u_ v_ h
  obtain ⟨l, t⟩ := u_
  obtain ⟨l', t'⟩ := v_
  simp [nz_lit, nz1_lit, nz_agg, nz_sl, nz1_sl, encLTSlot] at h
  first | (simp [h]; done) | (obtain ⟨⟩ := h; simp_all; done) | simp_all
@[simp] theorem c114_fn (l : List TSlot) (t : Int) : c114.fn [.sl false 3 yTSlot (ML encTSlot l), .lit (.int .i64 t)] [] = some ((fun (l : List TSlot) (t : Int) => l.length ≤ 1099511627776) l t, (fun (l : List TSlot) (t : Int) => (dI (indexBy (wantT t) 0 l) : D)) l t, (fun (l : List TSlot) (t : Int) => []) l t) :=
  mkCon_fn (fun x y h _ => c114_inj x y h) ((l, t) : (List TSlot) × Int) (by simp [nz, nz1, ML_nil, encLTSlot]) rfl
@[simp] theorem c114_fn1 (s_l : Nat) (z_l : D) (t : Int) : c114.fn [.sl false s_l z_l [], .lit (.int .i64 t)] [] = some ((fun (l : List TSlot) (t : Int) => l.length ≤ 1099511627776) [] t, (fun (l : List TSlot) (t : Int) => (dI (indexBy (wantT t) 0 l) : D)) [] t, (fun (l : List TSlot) (t : Int) => []) [] t) :=
  mkCon_fn (fun x y h _ => c114_inj x y h) (([], t) : (List TSlot) × Int) (by simp [nz, nz1, ML_nil, encLTSlot]) rfl
theorem c114_pc (l : List TSlot) (t : Int) (hpre : l.length ≤ 1099511627776) : PCo Try.prog 114 [encLTSlot l, dI t] (Tab.of []) (dI (indexBy (wantT t) 0 l)) (Tab.of []) := by
  refine pco_of_run [] (E := ⟨[c173, c174], [], []⟩) (m := false) (base := 0) (Env.ok_cons c173_ok (Env.ok_cons c174_ok Env.ok_nil)) G_ok mix 300 6 Try.func114 (by kernel_rfl) rfl (by kernel_rfl) (by kernel_rfl) rfl ?_
  simp [Try.f114]
  exact hpre
theorem c114_ok : c114.ok Try.prog := mkCon_ok fun ⟨l, t⟩ hpre => c114_pc l t hpre
def lookS (t : Int) : List TSlot → Int
  | [] => 0
  | x :: r => if wantT t x then x.Id else lookS t r
theorem lookS_at {t : Int} {l : List TSlot} {p : Nat} (h : p < l.length) : lookS t (l.drop p) = if wantT t (l[p]?.getD default) then (l[p]?.getD default).Id else lookS t (l.drop (p + 1)) := by
  rw [drop_at (d := default) h, lookS]
theorem lookS_end {t : Int} {l : List TSlot} {p : Nat} (h : l.length ≤ p) : lookS t (l.drop p) = 0 := by
  rw [List.drop_eq_nil_of_le h, lookS]
theorem look_index {t : Int} : ∀ (l : List TSlot) (i : Int), 0 ≤ i → (indexBy (wantT t) i l < 0 ∧ lookS t l = 0) ∨ ∃ k : Nat, k < l.length ∧ indexBy (wantT t) i l = i + k ∧ lookS t l = (l[k]?.getD default).Id
  | [], i, h => by simp [indexBy, lookS]
  | x :: r, i, h => by
    simp only [indexBy, lookS]
    by_cases hw : wantT t x = true
    · rw [if_pos hw, if_pos hw]; exact .inr ⟨0, by simp, by simp, by simp⟩
    · rw [if_neg hw, if_neg hw]
      rcases look_index r (i + 1) (by omega) with h1 | ⟨k, h1, h2, h3⟩
      · exact .inl h1
      · exact .inr ⟨k + 1, by simp; omega, by rw [h2]; push_cast; omega, by simpa using h3⟩
/-- loop.example/g03007/impl.SlotOf -/
noncomputable def c43 : Con := mkCon 43 false (α := (List TSlot) × Int) (fun x => (fun (l : List TSlot) (t : Int) => [encLTSlot l, dI t]) x.1 x.2) (fun _ => []) (fun x => (fun (l : List TSlot) (t : Int) => l.length ≤ 1099511627776) x.1 x.2) (fun x => (fun (l : List TSlot) (t : Int) => (dI (lookS t l) : D)) x.1 x.2) (fun x => (fun (l : List TSlot) (t : Int) => []) x.1 x.2)
@[simp] theorem c43_f : c43.f = 43 := rfl
@[simp] theorem c43_own : c43.own = false := rfl
theorem c43_inj : ∀ u_ v_ : (List TSlot) × Int, ((fun x => (fun (l : List TSlot) (t : Int) => [encLTSlot l, dI t]) x.1 x.2) u_).map nz = ((fun x => (fun (l : List TSlot) (t : Int) => [encLTSlot l, dI t]) x.1 x.2) v_).map nz → u_ = v_ := by
  intro u_ v_ h
  obtain ⟨l, t⟩ := u_
  obtain ⟨l', t'⟩ := v_
  simp [nz_lit, nz1_lit, nz_agg, nz_sl, nz1_sl, encLTSlot] at h
  first | (simp [h]; done) | (obtain ⟨⟩ := h; simp_all; done) | simp_all
@[simp] theorem c43_fn (l : List TSlot) (t : Int) : c43.fn [.sl false 3 yTSlot (ML encTSlot l), .lit (.int .i64 t)] [] = some ((fun (l : List TSlot) (t : Int) => l.length ≤ 1099511627776) l t, (fun (l : List TSlot) (t : Int) => (dI (lookS t l) : D)) l t, (fun (l : List TSlot) (t : Int) => []) l t) :=
  mkCon_fn (fun x y h _ => c43_inj x y h) ((l, t) : (List TSlot) × Int) (by simp [nz, nz1, ML_nil, encLTSlot]) rfl
@[simp] theorem c43_fn1 (s_l : Nat) (z_l : D) (t : Int) : c43.fn [.sl false s_l z_l [], .lit (.int .i64 t)] [] = some ((fun (l : List TSlot) (t : Int) => l.length ≤ 1099511627776) [] t, (fun (l : List TSlot) (t : Int) => (dI (lookS t l) : D)) [] t, (fun (l : List TSlot) (t : Int) => []) [] t) :=
  mkCon_fn (fun x y h _ => c43_inj x y h) (([], t) : (List TSlot) × Int) (by simp [nz, nz1, ML_nil, encLTSlot]) rfl
theorem c43_pc (l : List TSlot) (t : Int) (hpre : l.length ≤ 1099511627776) : PCo Try.prog 43 [encLTSlot l, dI t] (Tab.of []) (dI (lookS t l)) (Tab.of []) := by
  refine pco_of_run [] (E := ⟨[c114], [], []⟩) (m := false) (base := 0) (Env.ok_cons c114_ok Env.ok_nil) G_ok mix 300 6 Try.func43 (by kernel_rfl) rfl (by kernel_rfl) (by kernel_rfl) rfl ?_
  simp [Try.f43]
  refine ⟨hpre, ?_⟩
  rcases look_index (t := t) l 0 (by omega) with ⟨h1, h2⟩ | ⟨k, h1, h2, h3⟩
  · rw [h2]; exact ⟨fun _ => rfl, fun h => absurd h (by omega)⟩
  · rw [h2, h3]; exact ⟨fun h => by omega, fun _ => ⟨by omega, by simp⟩⟩
theorem c43_ok : c43.ok Try.prog := mkCon_ok fun ⟨l, t⟩ hpre => c43_pc l t hpre
/-- loop.example/g03007/spec.SlotOf -/
noncomputable def c228 : Con := mkCon 228 false (α := (List TSlot) × Int) (fun x => (fun (l : List TSlot) (t : Int) => [encLTSlot l, dI t]) x.1 x.2) (fun _ => []) (fun x => (fun (l : List TSlot) (t : Int) => l.length ≤ 1099511627776) x.1 x.2) (fun x => (fun (l : List TSlot) (t : Int) => (dI (lookS t l) : D)) x.1 x.2) (fun x => (fun (l : List TSlot) (t : Int) => []) x.1 x.2)
@[simp] theorem c228_f : c228.f = 228 := rfl
@[simp] theorem c228_own : c228.own = false := rfl
theorem c228_inj : ∀ u_ v_ : (List TSlot) × Int, ((fun x => (fun (l : List TSlot) (t : Int) => [encLTSlot l, dI t]) x.1 x.2) u_).map nz = ((fun x => (fun (l : List TSlot) (t : Int) => [encLTSlot l, dI t]) x.1 x.2) v_).map nz → u_ = v_ := by
  intro u_ v_ h
  obtain ⟨l, t⟩ := u_
  obtain ⟨l', t'⟩ := v_
  simp [nz_lit, nz1_lit, nz_agg, nz_sl, nz1_sl, encLTSlot] at h
  first | (simp [h]; done) | (obtain ⟨⟩ := h; simp_all; done) | simp_all
@[simp] theorem c228_fn (l : List TSlot) (t : Int) : c228.fn [.sl false 3 yTSlot (ML encTSlot l), .lit (.int .i64 t)] [] = some ((fun (l : List TSlot) (t : Int) => l.length ≤ 1099511627776) l t, (fun (l : List TSlot) (t : Int) => (dI (lookS t l) : D)) l t, (fun (l : List TSlot) (t : Int) => []) l t) :=
  mkCon_fn (fun x y h _ => c228_inj x y h) ((l, t) : (List TSlot) × Int) (by simp [nz, nz1, ML_nil, encLTSlot]) rfl
@[simp] theorem c228_fn1 (s_l : Nat) (z_l : D) (t : Int) : c228.fn [.sl false s_l z_l [], .lit (.int .i64 t)] [] = some ((fun (l : List TSlot) (t : Int) => l.length ≤ 1099511627776) [] t, (fun (l : List TSlot) (t : Int) => (dI (lookS t l) : D)) [] t, (fun (l : List TSlot) (t : Int) => []) [] t) :=
  mkCon_fn (fun x y h _ => c228_inj x y h) (([], t) : (List TSlot) × Int) (by simp [nz, nz1, ML_nil, encLTSlot]) rfl
theorem c228_pc (l : List TSlot) (t : Int) (hpre : l.length ≤ 1099511627776) : PCo Try.prog 228 [encLTSlot l, dI t] (Tab.of []) (dI (lookS t l)) (Tab.of []) := by
  refine pco_of_run [] (E := ⟨[], [], []⟩) (m := false) (base := 0) Env.ok_nil G_ok mix 300 6 Try.func228 (by kernel_rfl) rfl (by kernel_rfl) (by kernel_rfl) rfl ?_
  simp [Try.f228]
  refine loop_inv (fun p : Nat => p ≤ l.length ∧ lookS t l = lookS t (l.drop p)) (fun p => [(0, encLTSlot l), (1, dI t), (5, dI p)]) (fun _ => []) 1 (fun p => l.length - p) 0 400 (by simp) (by simp) (by simp) ?_
  intro p ⟨hp, hi⟩
  simp
  refine ⟨fun hlt => ?_, fun hge => ?_⟩
  · rw [lookS_at hlt] at hi; simp only [wantT, Bool.and_eq_true, decide_eq_true_eq] at hi
    repeat' (first | omega | refine And.intro ?_ ?_ | intro _)
    all_goals first | exact Again.mk (p + 1) ⟨by omega, by rw [hi]; grind⟩ (by simp) (by first | omega | (simp; omega)) | (rw [hi]; grind)
  · rw [hi, lookS_end hge]
theorem c228_ok : c228.ok Try.prog := mkCon_ok fun ⟨l, t⟩ hpre => c228_pc l t hpre
end Go.Proofs.Ytpnfkjbnhholfaa
