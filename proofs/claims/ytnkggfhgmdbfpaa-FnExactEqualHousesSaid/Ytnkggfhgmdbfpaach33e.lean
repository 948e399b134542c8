/- Contracts of the functions that the laws run. -/
import Derived.Test.Ytnkggfhgmdbfpaach33a
import Derived.Test.YtnkggfhgmdbfpaaEngB
namespace Go.Proofs.Ytnkggfhgmdbfpaa
open Go Go.Eng
set_option linter.unusedSimpArgs false
set_option linter.unusedVariables false
set_option maxRecDepth 10000
set_option maxHeartbeats 1000000
theorem find_eqc (x y : TFind) : (x = y) = (x.Thing.Id = y.Thing.Id ∧ x.Thing.Kind = y.Thing.Kind ∧ x.Thing.Colour = y.Thing.Colour ∧ x.Thing.Size = y.Thing.Size ∧ x.Thing.Worth = y.Thing.Worth ∧ x.Place = y.Place ∧ x.At = y.At ∧ x.Finder = y.Finder) := by
  obtain ⟨⟨_, _, _, _, _⟩, _, _, _⟩ := x; obtain ⟨⟨_, _, _, _, _⟩, _, _, _⟩ := y; simp; grind
theorem slot_eqc (x y : TSlot) : (x = y) = (x.Id = y.Id ∧ x.Size = y.Size ∧ x.Thing = y.Thing) := by cases x; cases y; simp
theorem claim_eqc (x y : TClaim) : (x = y) = (x.Id = y.Id ∧ x.Who = y.Who ∧ x.Thing = y.Thing ∧ x.At = y.At ∧ x.State = y.State) := by cases x; cases y; simp
theorem trial_eqc (x y : TTrial) : (x = y) = (x.Claim = y.Claim ∧ x.Asked = y.Asked ∧ x.Right = y.Right ∧ x.Wrong = y.Wrong) := by cases x; cases y; simp
theorem hand_eqc (x y : THand) : (x = y) = (x.Thing = y.Thing ∧ x.Holder = y.Holder ∧ x.Who = y.Who ∧ x.At = y.At ∧ x.Seal = y.Seal) := by cases x; cases y; simp
theorem entry_eqc (x y : TEntry) : (x = y) = (x.From = y.From ∧ x.To = y.To ∧ x.Cents = y.Cents ∧ x.At = y.At) := by cases x; cases y; simp
/-- slices.Equal[[]loop.example/g03007/impl.Fin -/
noncomputable def c167 : Con := mkCon 167 false (α := (List TFind) × (List TFind)) (fun x => (fun (a : List TFind) (b : List TFind) => [encLTFind a, encLTFind b]) x.1 x.2) (fun _ => []) (fun x => (fun (a : List TFind) (b : List TFind) => a.length ≤ 1099511627776 ∧ b.length ≤ 1099511627776) x.1 x.2) (fun x => (fun (a : List TFind) (b : List TFind) => (dB (decide (a = b)) : D)) x.1 x.2) (fun x => (fun (a : List TFind) (b : List TFind) => []) x.1 x.2)
@[simp] theorem c167_f : c167.f = 167 := rfl
@[simp] theorem c167_own : c167.own = false := rfl
theorem c167_inj : ∀ u_ v_ : (List TFind) × (List TFind), ((fun x => (fun (a : List TFind) (b : List TFind) => [encLTFind a, encLTFind b]) x.1 x.2) u_).map nz = ((fun x => (fun (a : List TFind) (b : List TFind) => [encLTFind a, encLTFind b]) x.1 x.2) v_).map nz → u_ = v_ := by
  intro u_ v_ h
  obtain ⟨a, b⟩ := u_
  obtain ⟨a', b'⟩ := v_
  simp [nz_lit, nz1_lit, nz_agg, nz_sl, nz1_sl, encLTFind] at h
  first | (simp [h]; done) | (obtain ⟨⟩ := h; simp_all; done) | simp_all
@[simp] theorem c167_fn (a : List TFind) (b : List TFind) : c167.fn [.sl false 8 yTFind (ML encTFind a), .sl false 8 yTFind (ML encTFind b)] [] = some ((fun (a : List TFind) (b : List TFind) => a.length ≤ 1099511627776 ∧ b.length ≤ 1099511627776) a b, (fun (a : List TFind) (b : List TFind) => (dB (decide (a = b)) : D)) a b, (fun (a : List TFind) (b : List TFind) => []) a b) :=
  mkCon_fn (fun x y h _ => c167_inj x y h) ((a, b) : (List TFind) × (List TFind)) (by simp [nz, nz1, ML_nil, encLTFind]) rfl
@[simp] theorem c167_fn1 (s_a : Nat) (z_a : D) (b : List TFind) : c167.fn [.sl false s_a z_a [], .sl false 8 yTFind (ML encTFind b)] [] = some ((fun (a : List TFind) (b : List TFind) => a.length ≤ 1099511627776 ∧ b.length ≤ 1099511627776) [] b, (fun (a : List TFind) (b : List TFind) => (dB (decide (a = b)) : D)) [] b, (fun (a : List TFind) (b : List TFind) => []) [] b) :=
  mkCon_fn (fun x y h _ => c167_inj x y h) (([], b) : (List TFind) × (List TFind)) (by simp [nz, nz1, ML_nil, encLTFind]) rfl
@[simp] theorem c167_fn2 (a : List TFind) (s_b : Nat) (z_b : D) : c167.fn [.sl false 8 yTFind (ML encTFind a), .sl false s_b z_b []] [] = some ((fun (a : List TFind) (b : List TFind) => a.length ≤ 1099511627776 ∧ b.length ≤ 1099511627776) a [], (fun (a : List TFind) (b : List TFind) => (dB (decide (a = b)) : D)) a [], (fun (a : List TFind) (b : List TFind) => []) a []) :=
  mkCon_fn (fun x y h _ => c167_inj x y h) ((a, []) : (List TFind) × (List TFind)) (by simp [nz, nz1, ML_nil, encLTFind]) rfl
@[simp] theorem c167_fn3 (s_a : Nat) (z_a : D) (s_b : Nat) (z_b : D) : c167.fn [.sl false s_a z_a [], .sl false s_b z_b []] [] = some ((fun (a : List TFind) (b : List TFind) => a.length ≤ 1099511627776 ∧ b.length ≤ 1099511627776) [] [], (fun (a : List TFind) (b : List TFind) => (dB (decide (a = b)) : D)) [] [], (fun (a : List TFind) (b : List TFind) => []) [] []) :=
  mkCon_fn (fun x y h _ => c167_inj x y h) (([], []) : (List TFind) × (List TFind)) (by simp [nz, nz1, ML_nil, encLTFind]) rfl
theorem c167_pc (a : List TFind) (b : List TFind) (hpre : a.length ≤ 1099511627776 ∧ b.length ≤ 1099511627776) : PCo Try.prog 167 [encLTFind a, encLTFind b] (Tab.of []) (dB (decide (a = b))) (Tab.of []) := by
  refine pco_of_run [] (E := ⟨[], []⟩) (m := false) (base := 0) Env.ok_nil G_ok mix 300 6 Try.func167 (by kernel_rfl) rfl (by kernel_rfl) (by kernel_rfl) rfl ?_
  simp [Try.f167]
  obtain ⟨pre1, pre2⟩ := hpre
  refine ⟨fun h => ?_, fun h => by intro e; subst e; exact absurd rfl h⟩
  refine loop_inv (fun p : Nat => p ≤ a.length ∧ a.take p = b.take p) (fun p => [(0, encLTFind a), (1, encLTFind b), (12, dI a.length), (13, dI p)]) (fun _ => []) 1 (fun p => a.length - p) 0 100 (by simp) (by simp) (by simp) ?_
  intro p ⟨hp, hi⟩
  simp
  refine ⟨fun hlt => ?_, fun hge => take_eq_full hi (by omega) (by omega)⟩
  have hx := find_eqc (a[p]?.getD default) (b[p]?.getD default)
  by_cases he : a[p]?.getD default = b[p]?.getD default
  · simp only [he]
    repeat' (first | omega | refine And.intro ?_ ?_ | intro _)
    all_goals first | exact Again.mk (p + 1) ⟨by omega, take_eq_step hi (by omega) (by omega) he⟩ (by simp) (by first | omega | (simp; omega)) | (exfalso; simp_all; done)
  · have hne : ¬ a = b := fun e => he (by rw [e])
    rw [hx] at he
    generalize Again _ _ _ _ _ _ _ = A
    repeat' (first | omega | exact hne | refine And.intro ?_ ?_ | intro _)
    all_goals first | (exfalso; simp_all; done) | grind
theorem c167_ok : c167.ok Try.prog := mkCon_ok fun ⟨a, b⟩ hpre => c167_pc a b hpre
/-- slices.Equal[[]loop.example/g03007/impl.Slo -/
noncomputable def c169 : Con := mkCon 169 false (α := (List TSlot) × (List TSlot)) (fun x => (fun (a : List TSlot) (b : List TSlot) => [encLTSlot a, encLTSlot b]) x.1 x.2) (fun _ => []) (fun x => (fun (a : List TSlot) (b : List TSlot) => a.length ≤ 1099511627776 ∧ b.length ≤ 1099511627776) x.1 x.2) (fun x => (fun (a : List TSlot) (b : List TSlot) => (dB (decide (a = b)) : D)) x.1 x.2) (fun x => (fun (a : List TSlot) (b : List TSlot) => []) x.1 x.2)
@[simp] theorem c169_f : c169.f = 169 := rfl
@[simp] theorem c169_own : c169.own = false := rfl
theorem c169_inj : ∀ u_ v_ : (List TSlot) × (List TSlot), ((fun x => (fun (a : List TSlot) (b : List TSlot) => [encLTSlot a, encLTSlot b]) x.1 x.2) u_).map nz = ((fun x => (fun (a : List TSlot) (b : List TSlot) => [encLTSlot a, encLTSlot b]) x.1 x.2) v_).map nz → u_ = v_ := by
  intro u_ v_ h
  obtain ⟨a, b⟩ := u_
  obtain ⟨a', b'⟩ := v_
  simp [nz_lit, nz1_lit, nz_agg, nz_sl, nz1_sl, encLTSlot] at h
  first | (simp [h]; done) | (obtain ⟨⟩ := h; simp_all; done) | simp_all
@[simp] theorem c169_fn (a : List TSlot) (b : List TSlot) : c169.fn [.sl false 3 yTSlot (ML encTSlot a), .sl false 3 yTSlot (ML encTSlot b)] [] = some ((fun (a : List TSlot) (b : List TSlot) => a.length ≤ 1099511627776 ∧ b.length ≤ 1099511627776) a b, (fun (a : List TSlot) (b : List TSlot) => (dB (decide (a = b)) : D)) a b, (fun (a : List TSlot) (b : List TSlot) => []) a b) :=
  mkCon_fn (fun x y h _ => c169_inj x y h) ((a, b) : (List TSlot) × (List TSlot)) (by simp [nz, nz1, ML_nil, encLTSlot]) rfl
@[simp] theorem c169_fn1 (s_a : Nat) (z_a : D) (b : List TSlot) : c169.fn [.sl false s_a z_a [], .sl false 3 yTSlot (ML encTSlot b)] [] = some ((fun (a : List TSlot) (b : List TSlot) => a.length ≤ 1099511627776 ∧ b.length ≤ 1099511627776) [] b, (fun (a : List TSlot) (b : List TSlot) => (dB (decide (a = b)) : D)) [] b, (fun (a : List TSlot) (b : List TSlot) => []) [] b) :=
  mkCon_fn (fun x y h _ => c169_inj x y h) (([], b) : (List TSlot) × (List TSlot)) (by simp [nz, nz1, ML_nil, encLTSlot]) rfl
@[simp] theorem c169_fn2 (a : List TSlot) (s_b : Nat) (z_b : D) : c169.fn [.sl false 3 yTSlot (ML encTSlot a), .sl false s_b z_b []] [] = some ((fun (a : List TSlot) (b : List TSlot) => a.length ≤ 1099511627776 ∧ b.length ≤ 1099511627776) a [], (fun (a : List TSlot) (b : List TSlot) => (dB (decide (a = b)) : D)) a [], (fun (a : List TSlot) (b : List TSlot) => []) a []) :=
  mkCon_fn (fun x y h _ => c169_inj x y h) ((a, []) : (List TSlot) × (List TSlot)) (by simp [nz, nz1, ML_nil, encLTSlot]) rfl
@[simp] theorem c169_fn3 (s_a : Nat) (z_a : D) (s_b : Nat) (z_b : D) : c169.fn [.sl false s_a z_a [], .sl false s_b z_b []] [] = some ((fun (a : List TSlot) (b : List TSlot) => a.length ≤ 1099511627776 ∧ b.length ≤ 1099511627776) [] [], (fun (a : List TSlot) (b : List TSlot) => (dB (decide (a = b)) : D)) [] [], (fun (a : List TSlot) (b : List TSlot) => []) [] []) :=
  mkCon_fn (fun x y h _ => c169_inj x y h) (([], []) : (List TSlot) × (List TSlot)) (by simp [nz, nz1, ML_nil, encLTSlot]) rfl
theorem c169_pc (a : List TSlot) (b : List TSlot) (hpre : a.length ≤ 1099511627776 ∧ b.length ≤ 1099511627776) : PCo Try.prog 169 [encLTSlot a, encLTSlot b] (Tab.of []) (dB (decide (a = b))) (Tab.of []) := by
  refine pco_of_run [] (E := ⟨[], []⟩) (m := false) (base := 0) Env.ok_nil G_ok mix 300 6 Try.func169 (by kernel_rfl) rfl (by kernel_rfl) (by kernel_rfl) rfl ?_
  simp [Try.f169]
  obtain ⟨pre1, pre2⟩ := hpre
  refine ⟨fun h => ?_, fun h => by intro e; subst e; exact absurd rfl h⟩
  refine loop_inv (fun p : Nat => p ≤ a.length ∧ a.take p = b.take p) (fun p => [(0, encLTSlot a), (1, encLTSlot b), (12, dI a.length), (13, dI p)]) (fun _ => []) 1 (fun p => a.length - p) 0 100 (by simp) (by simp) (by simp) ?_
  intro p ⟨hp, hi⟩
  simp
  refine ⟨fun hlt => ?_, fun hge => take_eq_full hi (by omega) (by omega)⟩
  have hx := slot_eqc (a[p]?.getD default) (b[p]?.getD default)
  by_cases he : a[p]?.getD default = b[p]?.getD default
  · simp only [he]
    repeat' (first | omega | refine And.intro ?_ ?_ | intro _)
    all_goals first | exact Again.mk (p + 1) ⟨by omega, take_eq_step hi (by omega) (by omega) he⟩ (by simp) (by first | omega | (simp; omega)) | (exfalso; simp_all; done)
  · have hne : ¬ a = b := fun e => he (by rw [e])
    rw [hx] at he
    generalize Again _ _ _ _ _ _ _ = A
    repeat' (first | omega | exact hne | refine And.intro ?_ ?_ | intro _)
    all_goals first | (exfalso; simp_all; done) | grind
theorem c169_ok : c169.ok Try.prog := mkCon_ok fun ⟨a, b⟩ hpre => c169_pc a b hpre
/-- slices.Equal[[]loop.example/g03007/impl.Clai -/
noncomputable def c170 : Con := mkCon 170 false (α := (List TClaim) × (List TClaim)) (fun x => (fun (a : List TClaim) (b : List TClaim) => [encLTClaim a, encLTClaim b]) x.1 x.2) (fun _ => []) (fun x => (fun (a : List TClaim) (b : List TClaim) => a.length ≤ 1099511627776 ∧ b.length ≤ 1099511627776) x.1 x.2) (fun x => (fun (a : List TClaim) (b : List TClaim) => (dB (decide (a = b)) : D)) x.1 x.2) (fun x => (fun (a : List TClaim) (b : List TClaim) => []) x.1 x.2)
@[simp] theorem c170_f : c170.f = 170 := rfl
@[simp] theorem c170_own : c170.own = false := rfl
theorem c170_inj : ∀ u_ v_ : (List TClaim) × (List TClaim), ((fun x => (fun (a : List TClaim) (b : List TClaim) => [encLTClaim a, encLTClaim b]) x.1 x.2) u_).map nz = ((fun x => (fun (a : List TClaim) (b : List TClaim) => [encLTClaim a, encLTClaim b]) x.1 x.2) v_).map nz → u_ = v_ := by
  intro u_ v_ h
  obtain ⟨a, b⟩ := u_
  obtain ⟨a', b'⟩ := v_
  simp [nz_lit, nz1_lit, nz_agg, nz_sl, nz1_sl, encLTClaim] at h
  first | (simp [h]; done) | (obtain ⟨⟩ := h; simp_all; done) | simp_all
@[simp] theorem c170_fn (a : List TClaim) (b : List TClaim) : c170.fn [.sl false 5 yTClaim (ML encTClaim a), .sl false 5 yTClaim (ML encTClaim b)] [] = some ((fun (a : List TClaim) (b : List TClaim) => a.length ≤ 1099511627776 ∧ b.length ≤ 1099511627776) a b, (fun (a : List TClaim) (b : List TClaim) => (dB (decide (a = b)) : D)) a b, (fun (a : List TClaim) (b : List TClaim) => []) a b) :=
  mkCon_fn (fun x y h _ => c170_inj x y h) ((a, b) : (List TClaim) × (List TClaim)) (by simp [nz, nz1, ML_nil, encLTClaim]) rfl
@[simp] theorem c170_fn1 (s_a : Nat) (z_a : D) (b : List TClaim) : c170.fn [.sl false s_a z_a [], .sl false 5 yTClaim (ML encTClaim b)] [] = some ((fun (a : List TClaim) (b : List TClaim) => a.length ≤ 1099511627776 ∧ b.length ≤ 1099511627776) [] b, (fun (a : List TClaim) (b : List TClaim) => (dB (decide (a = b)) : D)) [] b, (fun (a : List TClaim) (b : List TClaim) => []) [] b) :=
  mkCon_fn (fun x y h _ => c170_inj x y h) (([], b) : (List TClaim) × (List TClaim)) (by simp [nz, nz1, ML_nil, encLTClaim]) rfl
@[simp] theorem c170_fn2 (a : List TClaim) (s_b : Nat) (z_b : D) : c170.fn [.sl false 5 yTClaim (ML encTClaim a), .sl false s_b z_b []] [] = some ((fun (a : List TClaim) (b : List TClaim) => a.length ≤ 1099511627776 ∧ b.length ≤ 1099511627776) a [], (fun (a : List TClaim) (b : List TClaim) => (dB (decide (a = b)) : D)) a [], (fun (a : List TClaim) (b : List TClaim) => []) a []) :=
  mkCon_fn (fun x y h _ => c170_inj x y h) ((a, []) : (List TClaim) × (List TClaim)) (by simp [nz, nz1, ML_nil, encLTClaim]) rfl
@[simp] theorem c170_fn3 (s_a : Nat) (z_a : D) (s_b : Nat) (z_b : D) : c170.fn [.sl false s_a z_a [], .sl false s_b z_b []] [] = some ((fun (a : List TClaim) (b : List TClaim) => a.length ≤ 1099511627776 ∧ b.length ≤ 1099511627776) [] [], (fun (a : List TClaim) (b : List TClaim) => (dB (decide (a = b)) : D)) [] [], (fun (a : List TClaim) (b : List TClaim) => []) [] []) :=
  mkCon_fn (fun x y h _ => c170_inj x y h) (([], []) : (List TClaim) × (List TClaim)) (by simp [nz, nz1, ML_nil, encLTClaim]) rfl
theorem c170_pc (a : List TClaim) (b : List TClaim) (hpre : a.length ≤ 1099511627776 ∧ b.length ≤ 1099511627776) : PCo Try.prog 170 [encLTClaim a, encLTClaim b] (Tab.of []) (dB (decide (a = b))) (Tab.of []) := by
  refine pco_of_run [] (E := ⟨[], []⟩) (m := false) (base := 0) Env.ok_nil G_ok mix 300 6 Try.func170 (by kernel_rfl) rfl (by kernel_rfl) (by kernel_rfl) rfl ?_
  simp [Try.f170]
  obtain ⟨pre1, pre2⟩ := hpre
  refine ⟨fun h => ?_, fun h => by intro e; subst e; exact absurd rfl h⟩
  refine loop_inv (fun p : Nat => p ≤ a.length ∧ a.take p = b.take p) (fun p => [(0, encLTClaim a), (1, encLTClaim b), (12, dI a.length), (13, dI p)]) (fun _ => []) 1 (fun p => a.length - p) 0 100 (by simp) (by simp) (by simp) ?_
  intro p ⟨hp, hi⟩
  simp
  refine ⟨fun hlt => ?_, fun hge => take_eq_full hi (by omega) (by omega)⟩
  have hx := claim_eqc (a[p]?.getD default) (b[p]?.getD default)
  by_cases he : a[p]?.getD default = b[p]?.getD default
  · simp only [he]
    repeat' (first | omega | refine And.intro ?_ ?_ | intro _)
    all_goals first | exact Again.mk (p + 1) ⟨by omega, take_eq_step hi (by omega) (by omega) he⟩ (by simp) (by first | omega | (simp; omega)) | (exfalso; simp_all; done)
  · have hne : ¬ a = b := fun e => he (by rw [e])
    rw [hx] at he
    generalize Again _ _ _ _ _ _ _ = A
    repeat' (first | omega | exact hne | refine And.intro ?_ ?_ | intro _)
    all_goals first | (exfalso; simp_all; done) | grind
theorem c170_ok : c170.ok Try.prog := mkCon_ok fun ⟨a, b⟩ hpre => c170_pc a b hpre
/-- slices.Equal[[]loop.example/g03007/impl.Tria -/
noncomputable def c171 : Con := mkCon 171 false (α := (List TTrial) × (List TTrial)) (fun x => (fun (a : List TTrial) (b : List TTrial) => [encLTTrial a, encLTTrial b]) x.1 x.2) (fun _ => []) (fun x => (fun (a : List TTrial) (b : List TTrial) => a.length ≤ 1099511627776 ∧ b.length ≤ 1099511627776) x.1 x.2) (fun x => (fun (a : List TTrial) (b : List TTrial) => (dB (decide (a = b)) : D)) x.1 x.2) (fun x => (fun (a : List TTrial) (b : List TTrial) => []) x.1 x.2)
@[simp] theorem c171_f : c171.f = 171 := rfl
@[simp] theorem c171_own : c171.own = false := rfl
theorem c171_inj : ∀ u_ v_ : (List TTrial) × (List TTrial), ((fun x => (fun (a : List TTrial) (b : List TTrial) => [encLTTrial a, encLTTrial b]) x.1 x.2) u_).map nz = ((fun x => (fun (a : List TTrial) (b : List TTrial) => [encLTTrial a, encLTTrial b]) x.1 x.2) v_).map nz → u_ = v_ := by
  intro u_ v_ h
  obtain ⟨a, b⟩ := u_
  obtain ⟨a', b'⟩ := v_
  simp [nz_lit, nz1_lit, nz_agg, nz_sl, nz1_sl, encLTTrial] at h
  first | (simp [h]; done) | (obtain ⟨⟩ := h; simp_all; done) | simp_all
@[simp] theorem c171_fn (a : List TTrial) (b : List TTrial) : c171.fn [.sl false 4 yTTrial (ML encTTrial a), .sl false 4 yTTrial (ML encTTrial b)] [] = some ((fun (a : List TTrial) (b : List TTrial) => a.length ≤ 1099511627776 ∧ b.length ≤ 1099511627776) a b, (fun (a : List TTrial) (b : List TTrial) => (dB (decide (a = b)) : D)) a b, (fun (a : List TTrial) (b : List TTrial) => []) a b) :=
  mkCon_fn (fun x y h _ => c171_inj x y h) ((a, b) : (List TTrial) × (List TTrial)) (by simp [nz, nz1, ML_nil, encLTTrial]) rfl
@[simp] theorem c171_fn1 (s_a : Nat) (z_a : D) (b : List TTrial) : c171.fn [.sl false s_a z_a [], .sl false 4 yTTrial (ML encTTrial b)] [] = some ((fun (a : List TTrial) (b : List TTrial) => a.length ≤ 1099511627776 ∧ b.length ≤ 1099511627776) [] b, (fun (a : List TTrial) (b : List TTrial) => (dB (decide (a = b)) : D)) [] b, (fun (a : List TTrial) (b : List TTrial) => []) [] b) :=
  mkCon_fn (fun x y h _ => c171_inj x y h) (([], b) : (List TTrial) × (List TTrial)) (by simp [nz, nz1, ML_nil, encLTTrial]) rfl
@[simp] theorem c171_fn2 (a : List TTrial) (s_b : Nat) (z_b : D) : c171.fn [.sl false 4 yTTrial (ML encTTrial a), .sl false s_b z_b []] [] = some ((fun (a : List TTrial) (b : List TTrial) => a.length ≤ 1099511627776 ∧ b.length ≤ 1099511627776) a [], (fun (a : List TTrial) (b : List TTrial) => (dB (decide (a = b)) : D)) a [], (fun (a : List TTrial) (b : List TTrial) => []) a []) :=
  mkCon_fn (fun x y h _ => c171_inj x y h) ((a, []) : (List TTrial) × (List TTrial)) (by simp [nz, nz1, ML_nil, encLTTrial]) rfl
@[simp] theorem c171_fn3 (s_a : Nat) (z_a : D) (s_b : Nat) (z_b : D) : c171.fn [.sl false s_a z_a [], .sl false s_b z_b []] [] = some ((fun (a : List TTrial) (b : List TTrial) => a.length ≤ 1099511627776 ∧ b.length ≤ 1099511627776) [] [], (fun (a : List TTrial) (b : List TTrial) => (dB (decide (a = b)) : D)) [] [], (fun (a : List TTrial) (b : List TTrial) => []) [] []) :=
  mkCon_fn (fun x y h _ => c171_inj x y h) (([], []) : (List TTrial) × (List TTrial)) (by simp [nz, nz1, ML_nil, encLTTrial]) rfl
theorem c171_pc (a : List TTrial) (b : List TTrial) (hpre : a.length ≤ 1099511627776 ∧ b.length ≤ 1099511627776) : PCo Try.prog 171 [encLTTrial a, encLTTrial b] (Tab.of []) (dB (decide (a = b))) (Tab.of []) := by
  refine pco_of_run [] (E := ⟨[], []⟩) (m := false) (base := 0) Env.ok_nil G_ok mix 300 6 Try.func171 (by kernel_rfl) rfl (by kernel_rfl) (by kernel_rfl) rfl ?_
  simp [Try.f171]
  obtain ⟨pre1, pre2⟩ := hpre
  refine ⟨fun h => ?_, fun h => by intro e; subst e; exact absurd rfl h⟩
  refine loop_inv (fun p : Nat => p ≤ a.length ∧ a.take p = b.take p) (fun p => [(0, encLTTrial a), (1, encLTTrial b), (12, dI a.length), (13, dI p)]) (fun _ => []) 1 (fun p => a.length - p) 0 100 (by simp) (by simp) (by simp) ?_
  intro p ⟨hp, hi⟩
  simp
  refine ⟨fun hlt => ?_, fun hge => take_eq_full hi (by omega) (by omega)⟩
  have hx := trial_eqc (a[p]?.getD default) (b[p]?.getD default)
  by_cases he : a[p]?.getD default = b[p]?.getD default
  · simp only [he]
    repeat' (first | omega | refine And.intro ?_ ?_ | intro _)
    all_goals first | exact Again.mk (p + 1) ⟨by omega, take_eq_step hi (by omega) (by omega) he⟩ (by simp) (by first | omega | (simp; omega)) | (exfalso; simp_all; done)
  · have hne : ¬ a = b := fun e => he (by rw [e])
    rw [hx] at he
    generalize Again _ _ _ _ _ _ _ = A
    repeat' (first | omega | exact hne | refine And.intro ?_ ?_ | intro _)
    all_goals first | (exfalso; simp_all; done) | grind
theorem c171_ok : c171.ok Try.prog := mkCon_ok fun ⟨a, b⟩ hpre => c171_pc a b hpre
/-- slices.Equal[[]loop.example/g03007/impl.Han -/
noncomputable def c172 : Con := mkCon 172 false (α := (List THand) × (List THand)) (fun x => (fun (a : List THand) (b : List THand) => [encLTHand a, encLTHand b]) x.1 x.2) (fun _ => []) (fun x => (fun (a : List THand) (b : List THand) => a.length ≤ 1099511627776 ∧ b.length ≤ 1099511627776) x.1 x.2) (fun x => (fun (a : List THand) (b : List THand) => (dB (decide (a = b)) : D)) x.1 x.2) (fun x => (fun (a : List THand) (b : List THand) => []) x.1 x.2)
@[simp] theorem c172_f : c172.f = 172 := rfl
@[simp] theorem c172_own : c172.own = false := rfl
theorem c172_inj : ∀ u_ v_ : (List THand) × (List THand), ((fun x => (fun (a : List THand) (b : List THand) => [encLTHand a, encLTHand b]) x.1 x.2) u_).map nz = ((fun x => (fun (a : List THand) (b : List THand) => [encLTHand a, encLTHand b]) x.1 x.2) v_).map nz → u_ = v_ := by
  intro u_ v_ h
  obtain ⟨a, b⟩ := u_
  obtain ⟨a', b'⟩ := v_
  simp [nz_lit, nz1_lit, nz_agg, nz_sl, nz1_sl, encLTHand] at h
  first | (simp [h]; done) | (obtain ⟨⟩ := h; simp_all; done) | simp_all
@[simp] theorem c172_fn (a : List THand) (b : List THand) : c172.fn [.sl false 5 yTHand (ML encTHand a), .sl false 5 yTHand (ML encTHand b)] [] = some ((fun (a : List THand) (b : List THand) => a.length ≤ 1099511627776 ∧ b.length ≤ 1099511627776) a b, (fun (a : List THand) (b : List THand) => (dB (decide (a = b)) : D)) a b, (fun (a : List THand) (b : List THand) => []) a b) :=
  mkCon_fn (fun x y h _ => c172_inj x y h) ((a, b) : (List THand) × (List THand)) (by simp [nz, nz1, ML_nil, encLTHand]) rfl
@[simp] theorem c172_fn1 (s_a : Nat) (z_a : D) (b : List THand) : c172.fn [.sl false s_a z_a [], .sl false 5 yTHand (ML encTHand b)] [] = some ((fun (a : List THand) (b : List THand) => a.length ≤ 1099511627776 ∧ b.length ≤ 1099511627776) [] b, (fun (a : List THand) (b : List THand) => (dB (decide (a = b)) : D)) [] b, (fun (a : List THand) (b : List THand) => []) [] b) :=
  mkCon_fn (fun x y h _ => c172_inj x y h) (([], b) : (List THand) × (List THand)) (by simp [nz, nz1, ML_nil, encLTHand]) rfl
@[simp] theorem c172_fn2 (a : List THand) (s_b : Nat) (z_b : D) : c172.fn [.sl false 5 yTHand (ML encTHand a), .sl false s_b z_b []] [] = some ((fun (a : List THand) (b : List THand) => a.length ≤ 1099511627776 ∧ b.length ≤ 1099511627776) a [], (fun (a : List THand) (b : List THand) => (dB (decide (a = b)) : D)) a [], (fun (a : List THand) (b : List THand) => []) a []) :=
  mkCon_fn (fun x y h _ => c172_inj x y h) ((a, []) : (List THand) × (List THand)) (by simp [nz, nz1, ML_nil, encLTHand]) rfl
@[simp] theorem c172_fn3 (s_a : Nat) (z_a : D) (s_b : Nat) (z_b : D) : c172.fn [.sl false s_a z_a [], .sl false s_b z_b []] [] = some ((fun (a : List THand) (b : List THand) => a.length ≤ 1099511627776 ∧ b.length ≤ 1099511627776) [] [], (fun (a : List THand) (b : List THand) => (dB (decide (a = b)) : D)) [] [], (fun (a : List THand) (b : List THand) => []) [] []) :=
  mkCon_fn (fun x y h _ => c172_inj x y h) (([], []) : (List THand) × (List THand)) (by simp [nz, nz1, ML_nil, encLTHand]) rfl
theorem c172_pc (a : List THand) (b : List THand) (hpre : a.length ≤ 1099511627776 ∧ b.length ≤ 1099511627776) : PCo Try.prog 172 [encLTHand a, encLTHand b] (Tab.of []) (dB (decide (a = b))) (Tab.of []) := by
  refine pco_of_run [] (E := ⟨[], []⟩) (m := false) (base := 0) Env.ok_nil G_ok mix 300 6 Try.func172 (by kernel_rfl) rfl (by kernel_rfl) (by kernel_rfl) rfl ?_
  simp [Try.f172]
  obtain ⟨pre1, pre2⟩ := hpre
  refine ⟨fun h => ?_, fun h => by intro e; subst e; exact absurd rfl h⟩
  refine loop_inv (fun p : Nat => p ≤ a.length ∧ a.take p = b.take p) (fun p => [(0, encLTHand a), (1, encLTHand b), (12, dI a.length), (13, dI p)]) (fun _ => []) 1 (fun p => a.length - p) 0 100 (by simp) (by simp) (by simp) ?_
  intro p ⟨hp, hi⟩
  simp
  refine ⟨fun hlt => ?_, fun hge => take_eq_full hi (by omega) (by omega)⟩
  have hx := hand_eqc (a[p]?.getD default) (b[p]?.getD default)
  by_cases he : a[p]?.getD default = b[p]?.getD default
  · simp only [he]
    repeat' (first | omega | refine And.intro ?_ ?_ | intro _)
    all_goals first | exact Again.mk (p + 1) ⟨by omega, take_eq_step hi (by omega) (by omega) he⟩ (by simp) (by first | omega | (simp; omega)) | (exfalso; simp_all; done)
  · have hne : ¬ a = b := fun e => he (by rw [e])
    rw [hx] at he
    generalize Again _ _ _ _ _ _ _ = A
    repeat' (first | omega | exact hne | refine And.intro ?_ ?_ | intro _)
    all_goals first | (exfalso; simp_all; done) | grind
theorem c172_ok : c172.ok Try.prog := mkCon_ok fun ⟨a, b⟩ hpre => c172_pc a b hpre
/-- slices.Equal[[]loop.example/g03007/impl.Entr -/
noncomputable def c173 : Con := mkCon 173 false (α := (List TEntry) × (List TEntry)) (fun x => (fun (a : List TEntry) (b : List TEntry) => [encLTEntry a, encLTEntry b]) x.1 x.2) (fun _ => []) (fun x => (fun (a : List TEntry) (b : List TEntry) => a.length ≤ 1099511627776 ∧ b.length ≤ 1099511627776) x.1 x.2) (fun x => (fun (a : List TEntry) (b : List TEntry) => (dB (decide (a = b)) : D)) x.1 x.2) (fun x => (fun (a : List TEntry) (b : List TEntry) => []) x.1 x.2)
@[simp] theorem c173_f : c173.f = 173 := rfl
@[simp] theorem c173_own : c173.own = false := rfl
theorem c173_inj : ∀ u_ v_ : (List TEntry) × (List TEntry), ((fun x => (fun (a : List TEntry) (b : List TEntry) => [encLTEntry a, encLTEntry b]) x.1 x.2) u_).map nz = ((fun x => (fun (a : List TEntry) (b : List TEntry) => [encLTEntry a, encLTEntry b]) x.1 x.2) v_).map nz → u_ = v_ := by
  intro u_ v_ h
  obtain ⟨a, b⟩ := u_
  obtain ⟨a', b'⟩ := v_
  simp [nz_lit, nz1_lit, nz_agg, nz_sl, nz1_sl, encLTEntry] at h
  first | (simp [h]; done) | (obtain ⟨⟩ := h; simp_all; done) | simp_all
@[simp] theorem c173_fn (a : List TEntry) (b : List TEntry) : c173.fn [.sl false 4 yTEntry (ML encTEntry a), .sl false 4 yTEntry (ML encTEntry b)] [] = some ((fun (a : List TEntry) (b : List TEntry) => a.length ≤ 1099511627776 ∧ b.length ≤ 1099511627776) a b, (fun (a : List TEntry) (b : List TEntry) => (dB (decide (a = b)) : D)) a b, (fun (a : List TEntry) (b : List TEntry) => []) a b) :=
  mkCon_fn (fun x y h _ => c173_inj x y h) ((a, b) : (List TEntry) × (List TEntry)) (by simp [nz, nz1, ML_nil, encLTEntry]) rfl
@[simp] theorem c173_fn1 (s_a : Nat) (z_a : D) (b : List TEntry) : c173.fn [.sl false s_a z_a [], .sl false 4 yTEntry (ML encTEntry b)] [] = some ((fun (a : List TEntry) (b : List TEntry) => a.length ≤ 1099511627776 ∧ b.length ≤ 1099511627776) [] b, (fun (a : List TEntry) (b : List TEntry) => (dB (decide (a = b)) : D)) [] b, (fun (a : List TEntry) (b : List TEntry) => []) [] b) :=
  mkCon_fn (fun x y h _ => c173_inj x y h) (([], b) : (List TEntry) × (List TEntry)) (by simp [nz, nz1, ML_nil, encLTEntry]) rfl
@[simp] theorem c173_fn2 (a : List TEntry) (s_b : Nat) (z_b : D) : c173.fn [.sl false 4 yTEntry (ML encTEntry a), .sl false s_b z_b []] [] = some ((fun (a : List TEntry) (b : List TEntry) => a.length ≤ 1099511627776 ∧ b.length ≤ 1099511627776) a [], (fun (a : List TEntry) (b : List TEntry) => (dB (decide (a = b)) : D)) a [], (fun (a : List TEntry) (b : List TEntry) => []) a []) :=
  mkCon_fn (fun x y h _ => c173_inj x y h) ((a, []) : (List TEntry) × (List TEntry)) (by simp [nz, nz1, ML_nil, encLTEntry]) rfl
@[simp] theorem c173_fn3 (s_a : Nat) (z_a : D) (s_b : Nat) (z_b : D) : c173.fn [.sl false s_a z_a [], .sl false s_b z_b []] [] = some ((fun (a : List TEntry) (b : List TEntry) => a.length ≤ 1099511627776 ∧ b.length ≤ 1099511627776) [] [], (fun (a : List TEntry) (b : List TEntry) => (dB (decide (a = b)) : D)) [] [], (fun (a : List TEntry) (b : List TEntry) => []) [] []) :=
  mkCon_fn (fun x y h _ => c173_inj x y h) (([], []) : (List TEntry) × (List TEntry)) (by simp [nz, nz1, ML_nil, encLTEntry]) rfl
theorem c173_pc (a : List TEntry) (b : List TEntry) (hpre : a.length ≤ 1099511627776 ∧ b.length ≤ 1099511627776) : PCo Try.prog 173 [encLTEntry a, encLTEntry b] (Tab.of []) (dB (decide (a = b))) (Tab.of []) := by
  refine pco_of_run [] (E := ⟨[], []⟩) (m := false) (base := 0) Env.ok_nil G_ok mix 300 6 Try.func173 (by kernel_rfl) rfl (by kernel_rfl) (by kernel_rfl) rfl ?_
  simp [Try.f173]
  obtain ⟨pre1, pre2⟩ := hpre
  refine ⟨fun h => ?_, fun h => by intro e; subst e; exact absurd rfl h⟩
  refine loop_inv (fun p : Nat => p ≤ a.length ∧ a.take p = b.take p) (fun p => [(0, encLTEntry a), (1, encLTEntry b), (12, dI a.length), (13, dI p)]) (fun _ => []) 1 (fun p => a.length - p) 0 100 (by simp) (by simp) (by simp) ?_
  intro p ⟨hp, hi⟩
  simp
  refine ⟨fun hlt => ?_, fun hge => take_eq_full hi (by omega) (by omega)⟩
  have hx := entry_eqc (a[p]?.getD default) (b[p]?.getD default)
  by_cases he : a[p]?.getD default = b[p]?.getD default
  · simp only [he]
    repeat' (first | omega | refine And.intro ?_ ?_ | intro _)
    all_goals first | exact Again.mk (p + 1) ⟨by omega, take_eq_step hi (by omega) (by omega) he⟩ (by simp) (by first | omega | (simp; omega)) | (exfalso; simp_all; done)
  · have hne : ¬ a = b := fun e => he (by rw [e])
    rw [hx] at he
    generalize Again _ _ _ _ _ _ _ = A
    repeat' (first | omega | exact hne | refine And.intro ?_ ?_ | intro _)
    all_goals first | (exfalso; simp_all; done) | grind
theorem c173_ok : c173.ok Try.prog := mkCon_ok fun ⟨a, b⟩ hpre => c173_pc a b hpre
theorem house_eqc (a b : THouse) : (a = b) = (a.No = b.No ∧ a.Now = b.Now ∧ a.Finds = b.Finds ∧ a.Secrets = b.Secrets ∧ a.Slots = b.Slots ∧ a.Claims = b.Claims ∧ a.Trials = b.Trials ∧ a.Chain = b.Chain ∧ a.Book = b.Book) := by
  cases a; cases b; simp; grind
/-- loop.example/g03007/impl.EqualHouses -/
noncomputable def c95 : Con := mkCon 95 false (α := THouse × THouse) (fun x => (fun (a : THouse) (b : THouse) => [encTHouse a, encTHouse b]) x.1 x.2) (fun _ => []) (fun x => (fun (a : THouse) (b : THouse) => smH a ∧ smH b) x.1 x.2) (fun x => (fun (a : THouse) (b : THouse) => (dB (decide (a = b)) : D)) x.1 x.2) (fun x => (fun (a : THouse) (b : THouse) => []) x.1 x.2)
@[simp] theorem c95_f : c95.f = 95 := rfl
@[simp] theorem c95_own : c95.own = false := rfl
theorem c95_inj : ∀ u_ v_ : THouse × THouse, ((fun x => (fun (a : THouse) (b : THouse) => [encTHouse a, encTHouse b]) x.1 x.2) u_).map nz = ((fun x => (fun (a : THouse) (b : THouse) => [encTHouse a, encTHouse b]) x.1 x.2) v_).map nz → u_ = v_ := by
  intro u_ v_ h
  obtain ⟨⟨a_No, a_Finds, a_Secrets, a_Slots, a_Claims, a_Trials, a_Chain, a_Book, a_Now⟩, ⟨b_No, b_Finds, b_Secrets, b_Slots, b_Claims, b_Trials, b_Chain, b_Book, b_Now⟩⟩ := u_
  obtain ⟨⟨a_No', a_Finds', a_Secrets', a_Slots', a_Claims', a_Trials', a_Chain', a_Book', a_Now'⟩, ⟨b_No', b_Finds', b_Secrets', b_Slots', b_Claims', b_Trials', b_Chain', b_Book', b_Now'⟩⟩ := v_
  simp [nz_lit, nz1_lit, nz_agg, nz_sl, nz1_sl, encLTClaim, encLTEntry, encLTFind, encLTHand, encLTSecret, encLTSlot, encLTTrial, encTHouse] at h
  first | (simp [h]; done) | (obtain ⟨⟩ := h; simp_all; done) | simp_all
@[simp] theorem c95_fn (a_No : Int) (a_Finds : List TFind) (a_Secrets : List TSecret) (a_Slots : List TSlot) (a_Claims : List TClaim) (a_Trials : List TTrial) (a_Chain : List THand) (a_Book : List TEntry) (a_Now : Int) (b_No : Int) (b_Finds : List TFind) (b_Secrets : List TSecret) (b_Slots : List TSlot) (b_Claims : List TClaim) (b_Trials : List TTrial) (b_Chain : List THand) (b_Book : List TEntry) (b_Now : Int) : c95.fn [.agg [.lit (.int .i64 a_No), .sl false 8 yTFind (ML encTFind a_Finds), .sl false 3 yTSecret (ML encTSecret a_Secrets), .sl false 3 yTSlot (ML encTSlot a_Slots), .sl false 5 yTClaim (ML encTClaim a_Claims), .sl false 4 yTTrial (ML encTTrial a_Trials), .sl false 5 yTHand (ML encTHand a_Chain), .sl false 4 yTEntry (ML encTEntry a_Book), .lit (.int .i64 a_Now)], .agg [.lit (.int .i64 b_No), .sl false 8 yTFind (ML encTFind b_Finds), .sl false 3 yTSecret (ML encTSecret b_Secrets), .sl false 3 yTSlot (ML encTSlot b_Slots), .sl false 5 yTClaim (ML encTClaim b_Claims), .sl false 4 yTTrial (ML encTTrial b_Trials), .sl false 5 yTHand (ML encTHand b_Chain), .sl false 4 yTEntry (ML encTEntry b_Book), .lit (.int .i64 b_Now)]] [] = some ((fun (a : THouse) (b : THouse) => smH a ∧ smH b) ⟨a_No, a_Finds, a_Secrets, a_Slots, a_Claims, a_Trials, a_Chain, a_Book, a_Now⟩ ⟨b_No, b_Finds, b_Secrets, b_Slots, b_Claims, b_Trials, b_Chain, b_Book, b_Now⟩, (fun (a : THouse) (b : THouse) => (dB (decide (a = b)) : D)) ⟨a_No, a_Finds, a_Secrets, a_Slots, a_Claims, a_Trials, a_Chain, a_Book, a_Now⟩ ⟨b_No, b_Finds, b_Secrets, b_Slots, b_Claims, b_Trials, b_Chain, b_Book, b_Now⟩, (fun (a : THouse) (b : THouse) => []) ⟨a_No, a_Finds, a_Secrets, a_Slots, a_Claims, a_Trials, a_Chain, a_Book, a_Now⟩ ⟨b_No, b_Finds, b_Secrets, b_Slots, b_Claims, b_Trials, b_Chain, b_Book, b_Now⟩) :=
  mkCon_fn (fun x y h _ => c95_inj x y h) ((⟨a_No, a_Finds, a_Secrets, a_Slots, a_Claims, a_Trials, a_Chain, a_Book, a_Now⟩, ⟨b_No, b_Finds, b_Secrets, b_Slots, b_Claims, b_Trials, b_Chain, b_Book, b_Now⟩) : THouse × THouse) (by simp [nz, nz1, ML_nil, encLTClaim, encLTEntry, encLTFind, encLTHand, encLTSecret, encLTSlot, encLTTrial, encTHouse]) rfl
theorem c95_pc (a : THouse) (b : THouse) (hpre : smH a ∧ smH b) : PCo Try.prog 95 [encTHouse a, encTHouse b] (Tab.of []) (dB (decide (a = b))) (Tab.of []) := by
  refine pco_of_run [] (E := ⟨[c167, c168, c169, c170, c171, c172, c173], []⟩) (m := false) (base := 0) (Env.ok_cons c167_ok (Env.ok_cons c168_ok (Env.ok_cons c169_ok (Env.ok_cons c170_ok (Env.ok_cons c171_ok (Env.ok_cons c172_ok (Env.ok_cons c173_ok Env.ok_nil))))))) G_ok mix 300 6 Try.func95 (by kernel_rfl) rfl (by kernel_rfl) (by kernel_rfl) rfl ?_
  simp [Try.f95]
  simp at hpre
  obtain ⟨⟨h1, ⟨h2, h3⟩, h4, h5, h6, h7, h8⟩, k1, ⟨k2, k3⟩, k4, k5, k6, k7, k8⟩ := hpre
  have hh := house_eqc a b
  repeat' (first | exact h3 | exact k3 | omega | refine And.intro ?_ ?_ | intro _)
  all_goals (rw [Bool.eq_iff_iff]; simp [hh]; grind)
theorem c95_ok : c95.ok Try.prog := mkCon_ok fun ⟨a, b⟩ hpre => c95_pc a b hpre
def listsEq (a b : THouse) : Bool := decide (a.Finds = b.Finds ∧ a.Slots = b.Slots ∧ a.Claims = b.Claims ∧ a.Trials = b.Trials)
def chainsEq (a b : THouse) : Bool := decide (a.Chain = b.Chain ∧ a.Book = b.Book)
theorem chains_no {a b : THouse} (h : ¬ a.Chain = b.Chain ∨ ¬ a.Book = b.Book) : chainsEq a b = false := by
  simp only [chainsEq, decide_eq_false_iff_not]; grind
theorem lists_no {a b : THouse} (h : ¬ a.Finds = b.Finds ∨ ¬ a.Slots = b.Slots ∨ ¬ a.Claims = b.Claims ∨ ¬ a.Trials = b.Trials) : listsEq a b = false := by
  simp only [listsEq, decide_eq_false_iff_not]; grind
theorem len_no {α : Type} {a b : List α} (h : ¬ (a.length : Int) = b.length) : ¬ a = b := fun e => h (by rw [e])
/-- loop.example/g03007/spec.l33Chains -/
noncomputable def c161 : Con := mkCon 161 false (α := THouse × THouse) (fun x => (fun (a : THouse) (b : THouse) => [encTHouse a, encTHouse b]) x.1 x.2) (fun _ => []) (fun x => (fun (a : THouse) (b : THouse) => smH a ∧ smH b) x.1 x.2) (fun x => (fun (a : THouse) (b : THouse) => (dB (chainsEq a b) : D)) x.1 x.2) (fun x => (fun (a : THouse) (b : THouse) => []) x.1 x.2)
@[simp] theorem c161_f : c161.f = 161 := rfl
@[simp] theorem c161_own : c161.own = false := rfl
theorem c161_inj : ∀ u_ v_ : THouse × THouse, ((fun x => (fun (a : THouse) (b : THouse) => [encTHouse a, encTHouse b]) x.1 x.2) u_).map nz = ((fun x => (fun (a : THouse) (b : THouse) => [encTHouse a, encTHouse b]) x.1 x.2) v_).map nz → u_ = v_ := by
  intro u_ v_ h
  obtain ⟨⟨a_No, a_Finds, a_Secrets, a_Slots, a_Claims, a_Trials, a_Chain, a_Book, a_Now⟩, ⟨b_No, b_Finds, b_Secrets, b_Slots, b_Claims, b_Trials, b_Chain, b_Book, b_Now⟩⟩ := u_
  obtain ⟨⟨a_No', a_Finds', a_Secrets', a_Slots', a_Claims', a_Trials', a_Chain', a_Book', a_Now'⟩, ⟨b_No', b_Finds', b_Secrets', b_Slots', b_Claims', b_Trials', b_Chain', b_Book', b_Now'⟩⟩ := v_
  simp [nz_lit, nz1_lit, nz_agg, nz_sl, nz1_sl, encLTClaim, encLTEntry, encLTFind, encLTHand, encLTSecret, encLTSlot, encLTTrial, encTHouse] at h
  first | (simp [h]; done) | (obtain ⟨⟩ := h; simp_all; done) | simp_all
@[simp] theorem c161_fn (a_No : Int) (a_Finds : List TFind) (a_Secrets : List TSecret) (a_Slots : List TSlot) (a_Claims : List TClaim) (a_Trials : List TTrial) (a_Chain : List THand) (a_Book : List TEntry) (a_Now : Int) (b_No : Int) (b_Finds : List TFind) (b_Secrets : List TSecret) (b_Slots : List TSlot) (b_Claims : List TClaim) (b_Trials : List TTrial) (b_Chain : List THand) (b_Book : List TEntry) (b_Now : Int) : c161.fn [.agg [.lit (.int .i64 a_No), .sl false 8 yTFind (ML encTFind a_Finds), .sl false 3 yTSecret (ML encTSecret a_Secrets), .sl false 3 yTSlot (ML encTSlot a_Slots), .sl false 5 yTClaim (ML encTClaim a_Claims), .sl false 4 yTTrial (ML encTTrial a_Trials), .sl false 5 yTHand (ML encTHand a_Chain), .sl false 4 yTEntry (ML encTEntry a_Book), .lit (.int .i64 a_Now)], .agg [.lit (.int .i64 b_No), .sl false 8 yTFind (ML encTFind b_Finds), .sl false 3 yTSecret (ML encTSecret b_Secrets), .sl false 3 yTSlot (ML encTSlot b_Slots), .sl false 5 yTClaim (ML encTClaim b_Claims), .sl false 4 yTTrial (ML encTTrial b_Trials), .sl false 5 yTHand (ML encTHand b_Chain), .sl false 4 yTEntry (ML encTEntry b_Book), .lit (.int .i64 b_Now)]] [] = some ((fun (a : THouse) (b : THouse) => smH a ∧ smH b) ⟨a_No, a_Finds, a_Secrets, a_Slots, a_Claims, a_Trials, a_Chain, a_Book, a_Now⟩ ⟨b_No, b_Finds, b_Secrets, b_Slots, b_Claims, b_Trials, b_Chain, b_Book, b_Now⟩, (fun (a : THouse) (b : THouse) => (dB (chainsEq a b) : D)) ⟨a_No, a_Finds, a_Secrets, a_Slots, a_Claims, a_Trials, a_Chain, a_Book, a_Now⟩ ⟨b_No, b_Finds, b_Secrets, b_Slots, b_Claims, b_Trials, b_Chain, b_Book, b_Now⟩, (fun (a : THouse) (b : THouse) => []) ⟨a_No, a_Finds, a_Secrets, a_Slots, a_Claims, a_Trials, a_Chain, a_Book, a_Now⟩ ⟨b_No, b_Finds, b_Secrets, b_Slots, b_Claims, b_Trials, b_Chain, b_Book, b_Now⟩) :=
  mkCon_fn (fun x y h _ => c161_inj x y h) ((⟨a_No, a_Finds, a_Secrets, a_Slots, a_Claims, a_Trials, a_Chain, a_Book, a_Now⟩, ⟨b_No, b_Finds, b_Secrets, b_Slots, b_Claims, b_Trials, b_Chain, b_Book, b_Now⟩) : THouse × THouse) (by simp [nz, nz1, ML_nil, encLTClaim, encLTEntry, encLTFind, encLTHand, encLTSecret, encLTSlot, encLTTrial, encTHouse]) rfl
theorem c161_pc (a : THouse) (b : THouse) (hpre : smH a ∧ smH b) : PCo Try.prog 161 [encTHouse a, encTHouse b] (Tab.of []) (dB (chainsEq a b)) (Tab.of []) := by
  refine pco_of_run [] (E := ⟨[], []⟩) (m := false) (base := 0) Env.ok_nil G_ok mix 300 6 Try.func161 (by kernel_rfl) rfl (by kernel_rfl) (by kernel_rfl) rfl ?_
  simp [Try.f161]
  simp at hpre
  obtain ⟨⟨h1, ⟨h2, h3⟩, h4, h5, h6, h7, h8⟩, k1, ⟨k2, k3⟩, k4, k5, k6, k7, k8⟩ := hpre
  refine ⟨fun h => ?_, fun l1 l2 => ?_⟩
  · rcases h with h | h
    · exact chains_no (.inl (len_no h))
    · exact chains_no (.inr (len_no h))
  · skip
    refine loop_inv (fun p : Nat => p ≤ a.Chain.length ∧ a.Chain.take p = b.Chain.take p) (fun p => [(2, .ptr (0, 1) 0), (3, .ptr (1, 1) 0), (5, dI p)]) (fun _ => [((0, 1), .box (encTHouse a)), ((1, 1), .box (encTHouse b))]) 2 (fun p => a.Chain.length - p) 0 400 (by simp) (by simp) (by simp) ?_
    intro p ⟨hp, hi⟩
    simp
    refine ⟨fun hlt => ?_, fun hge => ?_⟩
    · have hx := hand_eqc (a.Chain[p]?.getD default) (b.Chain[p]?.getD default)
      by_cases he : a.Chain[p]?.getD default = b.Chain[p]?.getD default
      · simp only [he]
        repeat' (first | omega | refine And.intro ?_ ?_ | intro _)
        all_goals first | exact Again.mk (p + 1) ⟨by omega, take_eq_step hi (by omega) (by omega) he⟩ (by simp) (by first | omega | (simp; omega)) | (exfalso; simp_all; done) | trace_state
      · have hne : ¬ a.Chain = b.Chain := fun e => he (by rw [e])
        rw [hx] at he
        generalize Again _ _ _ _ _ _ _ = A
        repeat' (first | omega | refine And.intro ?_ ?_ | intro _)
        all_goals first | exact chains_no (.inl hne) | (exfalso; simp_all; done) | trace_state
    have eChain : a.Chain = b.Chain := take_eq_full hi (by omega) (by omega)
    refine loop_inv (fun p : Nat => p ≤ a.Book.length ∧ a.Book.take p = b.Book.take p) (fun p => [(2, .ptr (0, 1) 0), (3, .ptr (1, 1) 0), (6, dI p)]) (fun _ => [((0, 1), .box (encTHouse a)), ((1, 1), .box (encTHouse b))]) 2 (fun p => a.Book.length - p) 0 400 (by simp) (by simp) (by simp) ?_
    intro p ⟨hp, hi⟩
    simp
    refine ⟨fun hlt => ?_, fun hge => ?_⟩
    · have hx := entry_eqc (a.Book[p]?.getD default) (b.Book[p]?.getD default)
      by_cases he : a.Book[p]?.getD default = b.Book[p]?.getD default
      · simp only [he]
        repeat' (first | omega | refine And.intro ?_ ?_ | intro _)
        all_goals first | exact Again.mk (p + 1) ⟨by omega, take_eq_step hi (by omega) (by omega) he⟩ (by simp) (by first | omega | (simp; omega)) | (exfalso; simp_all; done) | trace_state
      · have hne : ¬ a.Book = b.Book := fun e => he (by rw [e])
        rw [hx] at he
        generalize Again _ _ _ _ _ _ _ = A
        repeat' (first | omega | refine And.intro ?_ ?_ | intro _)
        all_goals first | exact chains_no (.inr hne) | (exfalso; simp_all; done) | trace_state
    have eBook : a.Book = b.Book := take_eq_full hi (by omega) (by omega)
    simp [chainsEq, eChain, eBook]
theorem c161_ok : c161.ok Try.prog := mkCon_ok fun ⟨a, b⟩ hpre => c161_pc a b hpre
/-- loop.example/g03007/spec.l33Lists -/
noncomputable def c160 : Con := mkCon 160 false (α := THouse × THouse) (fun x => (fun (a : THouse) (b : THouse) => [encTHouse a, encTHouse b]) x.1 x.2) (fun _ => []) (fun x => (fun (a : THouse) (b : THouse) => smH a ∧ smH b) x.1 x.2) (fun x => (fun (a : THouse) (b : THouse) => (dB (listsEq a b) : D)) x.1 x.2) (fun x => (fun (a : THouse) (b : THouse) => []) x.1 x.2)
@[simp] theorem c160_f : c160.f = 160 := rfl
@[simp] theorem c160_own : c160.own = false := rfl
theorem c160_inj : ∀ u_ v_ : THouse × THouse, ((fun x => (fun (a : THouse) (b : THouse) => [encTHouse a, encTHouse b]) x.1 x.2) u_).map nz = ((fun x => (fun (a : THouse) (b : THouse) => [encTHouse a, encTHouse b]) x.1 x.2) v_).map nz → u_ = v_ := by
  intro u_ v_ h
  obtain ⟨⟨a_No, a_Finds, a_Secrets, a_Slots, a_Claims, a_Trials, a_Chain, a_Book, a_Now⟩, ⟨b_No, b_Finds, b_Secrets, b_Slots, b_Claims, b_Trials, b_Chain, b_Book, b_Now⟩⟩ := u_
  obtain ⟨⟨a_No', a_Finds', a_Secrets', a_Slots', a_Claims', a_Trials', a_Chain', a_Book', a_Now'⟩, ⟨b_No', b_Finds', b_Secrets', b_Slots', b_Claims', b_Trials', b_Chain', b_Book', b_Now'⟩⟩ := v_
  simp [nz_lit, nz1_lit, nz_agg, nz_sl, nz1_sl, encLTClaim, encLTEntry, encLTFind, encLTHand, encLTSecret, encLTSlot, encLTTrial, encTHouse] at h
  first | (simp [h]; done) | (obtain ⟨⟩ := h; simp_all; done) | simp_all
@[simp] theorem c160_fn (a_No : Int) (a_Finds : List TFind) (a_Secrets : List TSecret) (a_Slots : List TSlot) (a_Claims : List TClaim) (a_Trials : List TTrial) (a_Chain : List THand) (a_Book : List TEntry) (a_Now : Int) (b_No : Int) (b_Finds : List TFind) (b_Secrets : List TSecret) (b_Slots : List TSlot) (b_Claims : List TClaim) (b_Trials : List TTrial) (b_Chain : List THand) (b_Book : List TEntry) (b_Now : Int) : c160.fn [.agg [.lit (.int .i64 a_No), .sl false 8 yTFind (ML encTFind a_Finds), .sl false 3 yTSecret (ML encTSecret a_Secrets), .sl false 3 yTSlot (ML encTSlot a_Slots), .sl false 5 yTClaim (ML encTClaim a_Claims), .sl false 4 yTTrial (ML encTTrial a_Trials), .sl false 5 yTHand (ML encTHand a_Chain), .sl false 4 yTEntry (ML encTEntry a_Book), .lit (.int .i64 a_Now)], .agg [.lit (.int .i64 b_No), .sl false 8 yTFind (ML encTFind b_Finds), .sl false 3 yTSecret (ML encTSecret b_Secrets), .sl false 3 yTSlot (ML encTSlot b_Slots), .sl false 5 yTClaim (ML encTClaim b_Claims), .sl false 4 yTTrial (ML encTTrial b_Trials), .sl false 5 yTHand (ML encTHand b_Chain), .sl false 4 yTEntry (ML encTEntry b_Book), .lit (.int .i64 b_Now)]] [] = some ((fun (a : THouse) (b : THouse) => smH a ∧ smH b) ⟨a_No, a_Finds, a_Secrets, a_Slots, a_Claims, a_Trials, a_Chain, a_Book, a_Now⟩ ⟨b_No, b_Finds, b_Secrets, b_Slots, b_Claims, b_Trials, b_Chain, b_Book, b_Now⟩, (fun (a : THouse) (b : THouse) => (dB (listsEq a b) : D)) ⟨a_No, a_Finds, a_Secrets, a_Slots, a_Claims, a_Trials, a_Chain, a_Book, a_Now⟩ ⟨b_No, b_Finds, b_Secrets, b_Slots, b_Claims, b_Trials, b_Chain, b_Book, b_Now⟩, (fun (a : THouse) (b : THouse) => []) ⟨a_No, a_Finds, a_Secrets, a_Slots, a_Claims, a_Trials, a_Chain, a_Book, a_Now⟩ ⟨b_No, b_Finds, b_Secrets, b_Slots, b_Claims, b_Trials, b_Chain, b_Book, b_Now⟩) :=
  mkCon_fn (fun x y h _ => c160_inj x y h) ((⟨a_No, a_Finds, a_Secrets, a_Slots, a_Claims, a_Trials, a_Chain, a_Book, a_Now⟩, ⟨b_No, b_Finds, b_Secrets, b_Slots, b_Claims, b_Trials, b_Chain, b_Book, b_Now⟩) : THouse × THouse) (by simp [nz, nz1, ML_nil, encLTClaim, encLTEntry, encLTFind, encLTHand, encLTSecret, encLTSlot, encLTTrial, encTHouse]) rfl
theorem c160_pc (a : THouse) (b : THouse) (hpre : smH a ∧ smH b) : PCo Try.prog 160 [encTHouse a, encTHouse b] (Tab.of []) (dB (listsEq a b)) (Tab.of []) := by
  refine pco_of_run [] (E := ⟨[], []⟩) (m := false) (base := 0) Env.ok_nil G_ok mix 300 6 Try.func160 (by kernel_rfl) rfl (by kernel_rfl) (by kernel_rfl) rfl ?_
  simp [Try.f160]
  simp at hpre
  obtain ⟨⟨h1, ⟨h2, h3⟩, h4, h5, h6, h7, h8⟩, k1, ⟨k2, k3⟩, k4, k5, k6, k7, k8⟩ := hpre
  refine ⟨fun h => ?_, fun l1 l2 l3 l4 => ?_⟩
  · refine lists_no ?_
    by_cases q1 : a.Finds = b.Finds
    · by_cases q2 : a.Slots = b.Slots
      · by_cases q3 : a.Claims = b.Claims
        · refine .inr (.inr (.inr fun q4 => ?_))
          rw [q1, q2, q3, q4] at h; simp at h
        · exact .inr (.inr (.inl q3))
      · exact .inr (.inl q2)
    · exact .inl q1
  · skip
    refine loop_inv (fun p : Nat => p ≤ a.Finds.length ∧ a.Finds.take p = b.Finds.take p) (fun p => [(2, .ptr (0, 1) 0), (3, .ptr (1, 1) 0), (5, dI p)]) (fun _ => [((0, 1), .box (encTHouse a)), ((1, 1), .box (encTHouse b))]) 2 (fun p => a.Finds.length - p) 0 400 (by simp) (by simp) (by simp) ?_
    intro p ⟨hp, hi⟩
    simp
    refine ⟨fun hlt => ?_, fun hge => ?_⟩
    · have hx := find_eqc (a.Finds[p]?.getD default) (b.Finds[p]?.getD default)
      by_cases he : a.Finds[p]?.getD default = b.Finds[p]?.getD default
      · simp only [he]
        repeat' (first | omega | refine And.intro ?_ ?_ | intro _)
        all_goals first | exact Again.mk (p + 1) ⟨by omega, take_eq_step hi (by omega) (by omega) he⟩ (by simp) (by first | omega | (simp; omega)) | (exfalso; simp_all; done) | trace_state
      · have hne : ¬ a.Finds = b.Finds := fun e => he (by rw [e])
        rw [hx] at he
        generalize Again _ _ _ _ _ _ _ = A
        repeat' (first | omega | refine And.intro ?_ ?_ | intro _)
        all_goals first | exact lists_no (.inl hne) | (exfalso; simp_all; done) | trace_state
    have eFinds : a.Finds = b.Finds := take_eq_full hi (by omega) (by omega)
    refine loop_inv (fun p : Nat => p ≤ a.Slots.length ∧ a.Slots.take p = b.Slots.take p) (fun p => [(2, .ptr (0, 1) 0), (3, .ptr (1, 1) 0), (6, dI p)]) (fun _ => [((0, 1), .box (encTHouse a)), ((1, 1), .box (encTHouse b))]) 2 (fun p => a.Slots.length - p) 0 400 (by simp) (by simp) (by simp) ?_
    intro p ⟨hp, hi⟩
    simp
    refine ⟨fun hlt => ?_, fun hge => ?_⟩
    · have hx := slot_eqc (a.Slots[p]?.getD default) (b.Slots[p]?.getD default)
      by_cases he : a.Slots[p]?.getD default = b.Slots[p]?.getD default
      · simp only [he]
        repeat' (first | omega | refine And.intro ?_ ?_ | intro _)
        all_goals first | exact Again.mk (p + 1) ⟨by omega, take_eq_step hi (by omega) (by omega) he⟩ (by simp) (by first | omega | (simp; omega)) | (exfalso; simp_all; done) | trace_state
      · have hne : ¬ a.Slots = b.Slots := fun e => he (by rw [e])
        rw [hx] at he
        generalize Again _ _ _ _ _ _ _ = A
        repeat' (first | omega | refine And.intro ?_ ?_ | intro _)
        all_goals first | exact lists_no (.inr (.inl hne)) | (exfalso; simp_all; done) | trace_state
    have eSlots : a.Slots = b.Slots := take_eq_full hi (by omega) (by omega)
    refine loop_inv (fun p : Nat => p ≤ a.Claims.length ∧ a.Claims.take p = b.Claims.take p) (fun p => [(2, .ptr (0, 1) 0), (3, .ptr (1, 1) 0), (7, dI p)]) (fun _ => [((0, 1), .box (encTHouse a)), ((1, 1), .box (encTHouse b))]) 2 (fun p => a.Claims.length - p) 0 400 (by simp) (by simp) (by simp) ?_
    intro p ⟨hp, hi⟩
    simp
    refine ⟨fun hlt => ?_, fun hge => ?_⟩
    · have hx := claim_eqc (a.Claims[p]?.getD default) (b.Claims[p]?.getD default)
      by_cases he : a.Claims[p]?.getD default = b.Claims[p]?.getD default
      · simp only [he]
        repeat' (first | omega | refine And.intro ?_ ?_ | intro _)
        all_goals first | exact Again.mk (p + 1) ⟨by omega, take_eq_step hi (by omega) (by omega) he⟩ (by simp) (by first | omega | (simp; omega)) | (exfalso; simp_all; done) | trace_state
      · have hne : ¬ a.Claims = b.Claims := fun e => he (by rw [e])
        rw [hx] at he
        generalize Again _ _ _ _ _ _ _ = A
        repeat' (first | omega | refine And.intro ?_ ?_ | intro _)
        all_goals first | exact lists_no (.inr (.inr (.inl hne))) | (exfalso; simp_all; done) | trace_state
    have eClaims : a.Claims = b.Claims := take_eq_full hi (by omega) (by omega)
    refine loop_inv (fun p : Nat => p ≤ a.Trials.length ∧ a.Trials.take p = b.Trials.take p) (fun p => [(2, .ptr (0, 1) 0), (3, .ptr (1, 1) 0), (8, dI p)]) (fun _ => [((0, 1), .box (encTHouse a)), ((1, 1), .box (encTHouse b))]) 2 (fun p => a.Trials.length - p) 0 400 (by simp) (by simp) (by simp) ?_
    intro p ⟨hp, hi⟩
    simp
    refine ⟨fun hlt => ?_, fun hge => ?_⟩
    · have hx := trial_eqc (a.Trials[p]?.getD default) (b.Trials[p]?.getD default)
      by_cases he : a.Trials[p]?.getD default = b.Trials[p]?.getD default
      · simp only [he]
        repeat' (first | omega | refine And.intro ?_ ?_ | intro _)
        all_goals first | exact Again.mk (p + 1) ⟨by omega, take_eq_step hi (by omega) (by omega) he⟩ (by simp) (by first | omega | (simp; omega)) | (exfalso; simp_all; done) | trace_state
      · have hne : ¬ a.Trials = b.Trials := fun e => he (by rw [e])
        rw [hx] at he
        generalize Again _ _ _ _ _ _ _ = A
        repeat' (first | omega | refine And.intro ?_ ?_ | intro _)
        all_goals first | exact lists_no (.inr (.inr (.inr hne))) | (exfalso; simp_all; done) | trace_state
    have eTrials : a.Trials = b.Trials := take_eq_full hi (by omega) (by omega)
    simp [listsEq, eFinds, eSlots, eClaims, eTrials]
theorem c160_ok : c160.ok Try.prog := mkCon_ok fun ⟨a, b⟩ hpre => c160_pc a b hpre
/-- loop.example/g03007/spec.EqualHouses -/
noncomputable def c93 : Con := mkCon 93 false (α := THouse × THouse) (fun x => (fun (a : THouse) (b : THouse) => [encTHouse a, encTHouse b]) x.1 x.2) (fun _ => []) (fun x => (fun (a : THouse) (b : THouse) => smH a ∧ smH b) x.1 x.2) (fun x => (fun (a : THouse) (b : THouse) => (dB (decide (a = b)) : D)) x.1 x.2) (fun x => (fun (a : THouse) (b : THouse) => []) x.1 x.2)
@[simp] theorem c93_f : c93.f = 93 := rfl
@[simp] theorem c93_own : c93.own = false := rfl
theorem c93_inj : ∀ u_ v_ : THouse × THouse, ((fun x => (fun (a : THouse) (b : THouse) => [encTHouse a, encTHouse b]) x.1 x.2) u_).map nz = ((fun x => (fun (a : THouse) (b : THouse) => [encTHouse a, encTHouse b]) x.1 x.2) v_).map nz → u_ = v_ := by
  intro u_ v_ h
  obtain ⟨⟨a_No, a_Finds, a_Secrets, a_Slots, a_Claims, a_Trials, a_Chain, a_Book, a_Now⟩, ⟨b_No, b_Finds, b_Secrets, b_Slots, b_Claims, b_Trials, b_Chain, b_Book, b_Now⟩⟩ := u_
  obtain ⟨⟨a_No', a_Finds', a_Secrets', a_Slots', a_Claims', a_Trials', a_Chain', a_Book', a_Now'⟩, ⟨b_No', b_Finds', b_Secrets', b_Slots', b_Claims', b_Trials', b_Chain', b_Book', b_Now'⟩⟩ := v_
  simp [nz_lit, nz1_lit, nz_agg, nz_sl, nz1_sl, encLTClaim, encLTEntry, encLTFind, encLTHand, encLTSecret, encLTSlot, encLTTrial, encTHouse] at h
  first | (simp [h]; done) | (obtain ⟨⟩ := h; simp_all; done) | simp_all
@[simp] theorem c93_fn (a_No : Int) (a_Finds : List TFind) (a_Secrets : List TSecret) (a_Slots : List TSlot) (a_Claims : List TClaim) (a_Trials : List TTrial) (a_Chain : List THand) (a_Book : List TEntry) (a_Now : Int) (b_No : Int) (b_Finds : List TFind) (b_Secrets : List TSecret) (b_Slots : List TSlot) (b_Claims : List TClaim) (b_Trials : List TTrial) (b_Chain : List THand) (b_Book : List TEntry) (b_Now : Int) : c93.fn [.agg [.lit (.int .i64 a_No), .sl false 8 yTFind (ML encTFind a_Finds), .sl false 3 yTSecret (ML encTSecret a_Secrets), .sl false 3 yTSlot (ML encTSlot a_Slots), .sl false 5 yTClaim (ML encTClaim a_Claims), .sl false 4 yTTrial (ML encTTrial a_Trials), .sl false 5 yTHand (ML encTHand a_Chain), .sl false 4 yTEntry (ML encTEntry a_Book), .lit (.int .i64 a_Now)], .agg [.lit (.int .i64 b_No), .sl false 8 yTFind (ML encTFind b_Finds), .sl false 3 yTSecret (ML encTSecret b_Secrets), .sl false 3 yTSlot (ML encTSlot b_Slots), .sl false 5 yTClaim (ML encTClaim b_Claims), .sl false 4 yTTrial (ML encTTrial b_Trials), .sl false 5 yTHand (ML encTHand b_Chain), .sl false 4 yTEntry (ML encTEntry b_Book), .lit (.int .i64 b_Now)]] [] = some ((fun (a : THouse) (b : THouse) => smH a ∧ smH b) ⟨a_No, a_Finds, a_Secrets, a_Slots, a_Claims, a_Trials, a_Chain, a_Book, a_Now⟩ ⟨b_No, b_Finds, b_Secrets, b_Slots, b_Claims, b_Trials, b_Chain, b_Book, b_Now⟩, (fun (a : THouse) (b : THouse) => (dB (decide (a = b)) : D)) ⟨a_No, a_Finds, a_Secrets, a_Slots, a_Claims, a_Trials, a_Chain, a_Book, a_Now⟩ ⟨b_No, b_Finds, b_Secrets, b_Slots, b_Claims, b_Trials, b_Chain, b_Book, b_Now⟩, (fun (a : THouse) (b : THouse) => []) ⟨a_No, a_Finds, a_Secrets, a_Slots, a_Claims, a_Trials, a_Chain, a_Book, a_Now⟩ ⟨b_No, b_Finds, b_Secrets, b_Slots, b_Claims, b_Trials, b_Chain, b_Book, b_Now⟩) :=
  mkCon_fn (fun x y h _ => c93_inj x y h) ((⟨a_No, a_Finds, a_Secrets, a_Slots, a_Claims, a_Trials, a_Chain, a_Book, a_Now⟩, ⟨b_No, b_Finds, b_Secrets, b_Slots, b_Claims, b_Trials, b_Chain, b_Book, b_Now⟩) : THouse × THouse) (by simp [nz, nz1, ML_nil, encLTClaim, encLTEntry, encLTFind, encLTHand, encLTSecret, encLTSlot, encLTTrial, encTHouse]) rfl
theorem c93_pc (a : THouse) (b : THouse) (hpre : smH a ∧ smH b) : PCo Try.prog 93 [encTHouse a, encTHouse b] (Tab.of []) (dB (decide (a = b))) (Tab.of []) := by
  refine pco_of_run [] (E := ⟨[c159, c160, c161], []⟩) (m := false) (base := 0) (Env.ok_cons c159_ok (Env.ok_cons c160_ok (Env.ok_cons c161_ok Env.ok_nil))) G_ok mix 300 6 Try.func93 (by kernel_rfl) rfl (by kernel_rfl) (by kernel_rfl) rfl ?_
  simp [Try.f93]
  have hh := house_eqc a b
  have hp1 := hpre
  simp at hpre
  obtain ⟨⟨h1, ⟨h2, h3⟩, h4, h5, h6, h7, h8⟩, k1, ⟨k2, k3⟩, k4, k5, k6, k7, k8⟩ := hpre
  repeat' (first | exact h3 | exact k3 | omega | refine And.intro ?_ ?_ | intro _)
  all_goals (rw [Bool.eq_iff_iff]; simp [hh, listsEq, chainsEq]; grind)
theorem c93_ok : c93.ok Try.prog := mkCon_ok fun ⟨a, b⟩ hpre => c93_pc a b hpre

end Go.Proofs.Ytnkggfhgmdbfpaa
