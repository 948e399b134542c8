/- Contracts of the functions that the laws run. -/
import Derived.Test.Ytdemoobiiijmoaach14
import Derived.Test.YtdemoobiiijmoaaEngB
namespace Go.Proofs.Ytdemoobiiijmoaa
open Go Go.Eng
set_option linter.unusedSimpArgs false
set_option linter.unusedVariables false
set_option maxRecDepth 10000
set_option maxHeartbeats 1000000
def wantT (t : Int) (s : TSlot) : Bool := decide (¬ t = 0) && decide (s.Thing = t)
/-- (loop.example/g03007/impl.content).isIn -/
noncomputable def c61 : Con := mkCon 61 false (α := Int × TSlot) (fun x => (fun (c : Int) (s : TSlot) => ([dI c, encTSlot s] : List D)) x.1 x.2) (fun x => (fun (c : Int) (s : TSlot) => ([] : List (Nm × OO))) x.1 x.2) (fun x => (fun (c : Int) (s : TSlot) => True) x.1 x.2) (fun x => (fun (c : Int) (s : TSlot) => (dB (wantT c s) : D)) x.1 x.2) (fun x => (fun (c : Int) (s : TSlot) => ([] : List (Nm × OO))) x.1 x.2)
@[simp] theorem c61_f : c61.f = 61 := rfl
@[simp] theorem c61_own : c61.own = false := rfl
theorem c61_inj : ∀ u_ v_ : Int × TSlot, ((fun x => (fun (c : Int) (s : TSlot) => ([dI c, encTSlot s] : List D)) x.1 x.2) u_).map nz = ((fun x => (fun (c : Int) (s : TSlot) => ([dI c, encTSlot s] : List D)) x.1 x.2) v_).map nz → (fun x => (fun (c : Int) (s : TSlot) => ([] : List (Nm × OO))) x.1 x.2) u_ = (fun x => (fun (c : Int) (s : TSlot) => ([] : List (Nm × OO))) x.1 x.2) v_ → u_ = v_ := by
  intro u_ v_ h h2_
  obtain ⟨c, ⟨s_Id, s_Size, s_Thing⟩⟩ := u_
  obtain ⟨c', ⟨s_Id', s_Size', s_Thing'⟩⟩ := v_
  simp [nz_lit, nz1_lit, nz_agg, nz_sl, nz1_sl, nz_sx, nz_el, nz1_el, nz_own, nz1_own, nz_ptr, nz_fn, nz_iface] at h h2_
  first | (simp [h, h2_]; done) | (obtain ⟨h3_, h4_⟩ := List.append_inj h2_ h.1; simp_all; done) | simp_all | grind
@[simp] theorem c61_fn (c : Int) (s_Id : Int) (s_Size : Int) (s_Thing : Int) : c61.fn ([dI c, .agg [.lit (.int .i64 s_Id), .lit (.int .i64 s_Size), .lit (.int .i64 s_Thing)]]) ([]) = some (True, dB (wantT c (⟨s_Id, s_Size, s_Thing⟩ : TSlot)), []) :=
  mkCon_fn c61_inj ((c, ⟨s_Id, s_Size, s_Thing⟩) : Int × TSlot) rfl rfl
theorem c61_pc (c : Int) (s : TSlot) : PCo Try.prog 61 ([dI c, encTSlot s]) (Tab.of ([])) (dB (wantT c s)) (Tab.of ([])) := by
  refine pco_of_run [] (E := ⟨[], [], []⟩) (m := false) (base := 0) Env.ok_nil G_ok mix 300 6 Try.func61 (by kernel_rfl) rfl (by kernel_rfl) (by kernel_rfl) rfl ?_
  simp [Try.f61]
  simp [wantT]
  first | done | first | rfl | omega | (rw [Bool.eq_iff_iff]; simp; done) | (rw [Bool.eq_iff_iff]; simp; omega) | (rw [Bool.eq_iff_iff]; simp; grind) | grind
theorem c61_ok : c61.ok Try.prog := mkCon_ok fun ⟨c, s⟩ hpre => c61_pc c s
/-- slices.IndexFunc[[]loop.example/g03007/impl.Slo -/
noncomputable def c60_t : Con := mkCon 60 false (α := (List TSlot) × Int) (fun x => (fun (l : List TSlot) (t : Int) => ([encLTSlot l, .fn (.func 61) [dI t] []] : List D)) x.1 x.2) (fun x => (fun (l : List TSlot) (t : Int) => ([] : List (Nm × OO))) x.1 x.2) (fun x => (fun (l : List TSlot) (t : Int) => l.length ≤ 1099511627776) x.1 x.2) (fun x => (fun (l : List TSlot) (t : Int) => (dI (indexBy (wantT t) 0 l) : D)) x.1 x.2) (fun x => (fun (l : List TSlot) (t : Int) => ([] : List (Nm × OO))) x.1 x.2)
@[simp] theorem c60_t_f : c60_t.f = 60 := rfl
@[simp] theorem c60_t_own : c60_t.own = false := rfl
theorem c60_t_inj : ∀ u_ v_ : (List TSlot) × Int, ((fun x => (fun (l : List TSlot) (t : Int) => ([encLTSlot l, .fn (.func 61) [dI t] []] : List D)) x.1 x.2) u_).map nz = ((fun x => (fun (l : List TSlot) (t : Int) => ([encLTSlot l, .fn (.func 61) [dI t] []] : List D)) x.1 x.2) v_).map nz → (fun x => (fun (l : List TSlot) (t : Int) => ([] : List (Nm × OO))) x.1 x.2) u_ = (fun x => (fun (l : List TSlot) (t : Int) => ([] : List (Nm × OO))) x.1 x.2) v_ → u_ = v_ := by
  intro u_ v_ h h2_
  obtain ⟨l, t⟩ := u_
  obtain ⟨l', t'⟩ := v_
  simp [nz_lit, nz1_lit, nz_agg, nz_sl, nz1_sl, nz_sx, nz_el, nz1_el, nz_own, nz1_own, nz_ptr, nz_fn, nz_iface] at h h2_
  first | (simp [h, h2_]; done) | (obtain ⟨h3_, h4_⟩ := List.append_inj h2_ h.1; simp_all; done) | simp_all | grind
@[simp] theorem c60_t_fn (l : List TSlot) (t : Int) : c60_t.fn ([(.sl false 3 yTSlot (ML encTSlot l)), .fn (.func 61) [dI t] []]) ([]) = some (l.length ≤ 1099511627776, dI (indexBy (wantT t) 0 l), []) :=
  mkCon_fn c60_t_inj ((l, t) : (List TSlot) × Int) rfl rfl
theorem c60_t_pc (l : List TSlot) (t : Int) (hpre : l.length ≤ 1099511627776) : PCo Try.prog 60 ([encLTSlot l, .fn (.func 61) [dI t] []]) (Tab.of ([])) (dI (indexBy (wantT t) 0 l)) (Tab.of ([])) := by
  refine pco_of_run [] (E := ⟨[c61], [], []⟩) (m := false) (base := 0) (Env.ok_cons c61_ok Env.ok_nil) G_ok mix 300 6 Try.func60 (by kernel_rfl) rfl (by kernel_rfl) (by kernel_rfl) rfl ?_
  simp [Try.f60]
  refine loop_inv (fun p : Nat => p ≤ l.length ∧ indexBy (wantT t) 0 l = indexBy (wantT t) p (l.drop p)) (fun p => [(0, encLTSlot l), (1, .fn (.func 61) [dI t] []), (7, dI l.length), (8, dI p)]) (fun _ => []) 1 (fun p => l.length - p) 0 400 (by simp) (by simp) (by simp) ?_
  intro p ⟨hp, hi⟩
  simp
  refine ⟨fun hlt => ?_, fun hge => ?_⟩
  · rw [indexBy_at (d := default) hlt] at hi
    repeat' (first | omega | refine And.intro ?_ ?_ | intro _)
    all_goals first | exact Again.mk (p + 1) ⟨by omega, by rw [hi]; grind⟩ (by simp) (by first | omega | (simp; omega)) | (rw [hi]; grind)
  · rw [hi, indexBy_end hge]
theorem c60_t_ok : c60_t.ok Try.prog := mkCon_ok fun ⟨l, t⟩ hpre => c60_t_pc l t hpre
noncomputable def c60 : Con := selCon 60 false [([61], c60_t)]
@[simp] theorem c60_f : c60.f = 60 := rfl
@[simp] theorem c60_own : c60.own = false := rfl
@[simp] theorem c60_fn0 (l : List TSlot) (t : Int) : c60.fn ([(.sl false 3 yTSlot (ML encTSlot l)), .fn (.func 61) [dI t] []]) ([]) = some (l.length ≤ 1099511627776, dI (indexBy (wantT t) 0 l), []) := by
  rw [c60, selCon_fn]
  have h : selK [([61], c60_t)] (keyDs ([(.sl false 3 yTSlot (ML encTSlot l)), .fn (.func 61) [dI t] []])) = some c60_t := by simp
  rw [h]
  exact c60_t_fn l t
theorem c60_ok : c60.ok Try.prog := selCon_ok fun p hp => by
  simp only [List.mem_cons, List.not_mem_nil, or_false] at hp
  rcases hp with rfl
  · exact ⟨rfl, c60_t_ok⟩
/-- loop.example/g03007/impl.slotWith -/
noncomputable def c40 : Con := mkCon 40 false (α := (List TSlot) × Int) (fun x => (fun (l : List TSlot) (t : Int) => [encLTSlot l, dI t]) x.1 x.2) (fun _ => []) (fun x => (fun (l : List TSlot) (t : Int) => l.length ≤ 1099511627776) x.1 x.2) (fun x => (fun (l : List TSlot) (t : Int) => (dI (indexBy (wantT t) 0 l) : D)) x.1 x.2) (fun x => (fun (l : List TSlot) (t : Int) => []) x.1 x.2)
@[simp] theorem c40_f : c40.f = 40 := rfl
@[simp] theorem c40_own : c40.own = false := rfl
theorem c40_inj : ∀ u_ v_ : (List TSlot) × Int, ((fun x => (fun (l : List TSlot) (t : Int) => [encLTSlot l, dI t]) x.1 x.2) u_).map nz = ((fun x => (fun (l : List TSlot) (t : Int) => [encLTSlot l, dI t]) x.1 x.2) v_).map nz → u_ = v_ := by
  intro u_ v_ h
  obtain ⟨l, t⟩ := u_
  obtain ⟨l', t'⟩ := v_
  simp [nz_lit, nz1_lit, nz_agg, nz_sl, nz1_sl, encLTSlot] at h
  first | (simp [h]; done) | (obtain ⟨⟩ := h; simp_all; done) | simp_all
@[simp] theorem c40_fn (l : List TSlot) (t : Int) : c40.fn [.sl false 3 yTSlot (ML encTSlot l), .lit (.int .i64 t)] [] = some ((fun (l : List TSlot) (t : Int) => l.length ≤ 1099511627776) l t, (fun (l : List TSlot) (t : Int) => (dI (indexBy (wantT t) 0 l) : D)) l t, (fun (l : List TSlot) (t : Int) => []) l t) :=
  mkCon_fn (fun x y h _ => c40_inj x y h) ((l, t) : (List TSlot) × Int) (by simp [nz, nz1, ML_nil, encLTSlot]) rfl
@[simp] theorem c40_fn1 (s_l : Nat) (z_l : D) (t : Int) : c40.fn [.sl false s_l z_l [], .lit (.int .i64 t)] [] = some ((fun (l : List TSlot) (t : Int) => l.length ≤ 1099511627776) [] t, (fun (l : List TSlot) (t : Int) => (dI (indexBy (wantT t) 0 l) : D)) [] t, (fun (l : List TSlot) (t : Int) => []) [] t) :=
  mkCon_fn (fun x y h _ => c40_inj x y h) (([], t) : (List TSlot) × Int) (by simp [nz, nz1, ML_nil, encLTSlot]) rfl
theorem c40_pc (l : List TSlot) (t : Int) (hpre : l.length ≤ 1099511627776) : PCo Try.prog 40 [encLTSlot l, dI t] (Tab.of []) (dI (indexBy (wantT t) 0 l)) (Tab.of []) := by
  refine pco_of_run [] (E := ⟨[c60, c61], [], []⟩) (m := false) (base := 0) (Env.ok_cons c60_ok (Env.ok_cons c61_ok Env.ok_nil)) G_ok mix 300 6 Try.func40 (by kernel_rfl) rfl (by kernel_rfl) (by kernel_rfl) rfl ?_
  simp [Try.f40]
  exact hpre
theorem c40_ok : c40.ok Try.prog := mkCon_ok fun ⟨l, t⟩ hpre => c40_pc l t hpre
def lookS (t : Int) : List TSlot → Int
  | [] => 0
  | x :: r => if wantT t x then x.Id else lookS t r
theorem lookS_at {t : Int} {l : List TSlot} {p : Nat} (h : p < l.length) : lookS t (l.drop p) = if wantT t (l[p]?.getD default) then (l[p]?.getD default).Id else lookS t (l.drop (p + 1)) := by
  rw [drop_at (d := default) h, lookS]
theorem lookS_end {t : Int} {l : List TSlot} {p : Nat} (h : l.length ≤ p) : lookS t (l.drop p) = 0 := by
  rw [List.drop_eq_nil_of_le h, lookS]
theorem look_index {t : Int} : ∀ (l : List TSlot) (i : Int), 0 ≤ i → (indexBy (wantT t) i l < 0 ∧ lookS t l = 0) ∨ ∃ k : Nat, k < l.length ∧ indexBy (wantT t) i l = i + k ∧ lookS t l = (l[k]?.getD default).Id
  | [], i, h => by simp [indexBy, lookS]
  | x :: r, i, h => by
    simp only [indexBy, lookS]
    by_cases hw : wantT t x = true
    · rw [if_pos hw, if_pos hw]; exact .inr ⟨0, by simp, by simp, by simp⟩
    · rw [if_neg hw, if_neg hw]
      rcases look_index r (i + 1) (by omega) with h1 | ⟨k, h1, h2, h3⟩
      · exact .inl h1
      · exact .inr ⟨k + 1, by simp; omega, by rw [h2]; push_cast; omega, by simpa using h3⟩
/-- loop.example/g03007/spec.SlotOf -/
noncomputable def c36 : Con := mkCon 36 false (α := (List TSlot) × Int) (fun x => (fun (l : List TSlot) (t : Int) => [encLTSlot l, dI t]) x.1 x.2) (fun _ => []) (fun x => (fun (l : List TSlot) (t : Int) => l.length ≤ 1099511627776) x.1 x.2) (fun x => (fun (l : List TSlot) (t : Int) => (dI (lookS t l) : D)) x.1 x.2) (fun x => (fun (l : List TSlot) (t : Int) => []) x.1 x.2)
@[simp] theorem c36_f : c36.f = 36 := rfl
@[simp] theorem c36_own : c36.own = false := rfl
theorem c36_inj : ∀ u_ v_ : (List TSlot) × Int, ((fun x => (fun (l : List TSlot) (t : Int) => [encLTSlot l, dI t]) x.1 x.2) u_).map nz = ((fun x => (fun (l : List TSlot) (t : Int) => [encLTSlot l, dI t]) x.1 x.2) v_).map nz → u_ = v_ := by
  intro u_ v_ h
  obtain ⟨l, t⟩ := u_
  obtain ⟨l', t'⟩ := v_
  simp [nz_lit, nz1_lit, nz_agg, nz_sl, nz1_sl, encLTSlot] at h
  first | (simp [h]; done) | (obtain ⟨⟩ := h; simp_all; done) | simp_all
@[simp] theorem c36_fn (l : List TSlot) (t : Int) : c36.fn [.sl false 3 yTSlot (ML encTSlot l), .lit (.int .i64 t)] [] = some ((fun (l : List TSlot) (t : Int) => l.length ≤ 1099511627776) l t, (fun (l : List TSlot) (t : Int) => (dI (lookS t l) : D)) l t, (fun (l : List TSlot) (t : Int) => []) l t) :=
  mkCon_fn (fun x y h _ => c36_inj x y h) ((l, t) : (List TSlot) × Int) (by simp [nz, nz1, ML_nil, encLTSlot]) rfl
@[simp] theorem c36_fn1 (s_l : Nat) (z_l : D) (t : Int) : c36.fn [.sl false s_l z_l [], .lit (.int .i64 t)] [] = some ((fun (l : List TSlot) (t : Int) => l.length ≤ 1099511627776) [] t, (fun (l : List TSlot) (t : Int) => (dI (lookS t l) : D)) [] t, (fun (l : List TSlot) (t : Int) => []) [] t) :=
  mkCon_fn (fun x y h _ => c36_inj x y h) (([], t) : (List TSlot) × Int) (by simp [nz, nz1, ML_nil, encLTSlot]) rfl
theorem c36_pc (l : List TSlot) (t : Int) (hpre : l.length ≤ 1099511627776) : PCo Try.prog 36 [encLTSlot l, dI t] (Tab.of []) (dI (lookS t l)) (Tab.of []) := by
  refine pco_of_run [] (E := ⟨[], [], []⟩) (m := false) (base := 0) Env.ok_nil G_ok mix 300 6 Try.func36 (by kernel_rfl) rfl (by kernel_rfl) (by kernel_rfl) rfl ?_
  simp [Try.f36]
  refine loop_inv (fun p : Nat => p ≤ l.length ∧ lookS t l = lookS t (l.drop p)) (fun p => [(0, encLTSlot l), (1, dI t), (5, dI p)]) (fun _ => []) 1 (fun p => l.length - p) 0 400 (by simp) (by simp) (by simp) ?_
  intro p ⟨hp, hi⟩
  simp
  refine ⟨fun hlt => ?_, fun hge => ?_⟩
  · rw [lookS_at hlt] at hi; simp only [wantT, Bool.and_eq_true, decide_eq_true_eq] at hi
    repeat' (first | omega | refine And.intro ?_ ?_ | intro _)
    all_goals first | exact Again.mk (p + 1) ⟨by omega, by rw [hi]; grind⟩ (by simp) (by first | omega | (simp; omega)) | (rw [hi]; grind)
  · rw [hi, lookS_end hge]
theorem c36_ok : c36.ok Try.prog := mkCon_ok fun ⟨l, t⟩ hpre => c36_pc l t hpre
end Go.Proofs.Ytdemoobiiijmoaa
