/- Contracts of the functions that the laws run. -/
import Derived.Test.Ytnkggfhgmdbfpaach04
import Derived.Test.YtnkggfhgmdbfpaaEngB
namespace Go.Proofs.Ytnkggfhgmdbfpaa
open Go Go.Eng
set_option linter.unusedSimpArgs false
set_option linter.unusedVariables false
set_option maxRecDepth 10000
set_option maxHeartbeats 1000000
/-- loop.example/g03007/laws.toSlot -/
noncomputable def c139 : Con := mkCon 139 false (α := TSlot) (fun x => (fun (a : TSlot) => [encTSlot a]) x) (fun _ => []) (fun x => (fun (a : TSlot) => True) x) (fun x => (fun (a : TSlot) => (encTSlot a : D)) x) (fun x => (fun (a : TSlot) => []) x)
@[simp] theorem c139_f : c139.f = 139 := rfl
@[simp] theorem c139_own : c139.own = false := rfl
theorem c139_inj : ∀ u_ v_ : TSlot, ((fun x => (fun (a : TSlot) => [encTSlot a]) x) u_).map nz = ((fun x => (fun (a : TSlot) => [encTSlot a]) x) v_).map nz → u_ = v_ := by
  intro u_ v_ h
  obtain ⟨a_Id, a_Size, a_Thing⟩ := u_
  obtain ⟨a_Id', a_Size', a_Thing'⟩ := v_
  simp [nz_lit, nz1_lit, nz_agg, nz_sl, nz1_sl, encTSlot] at h
  first | (simp [h]; done) | (obtain ⟨⟩ := h; simp_all; done) | simp_all
@[simp] theorem c139_fn (a_Id : Int) (a_Size : Int) (a_Thing : Int) : c139.fn [.agg [.lit (.int .i64 a_Id), .lit (.int .i64 a_Size), .lit (.int .i64 a_Thing)]] [] = some ((fun (a : TSlot) => True) ⟨a_Id, a_Size, a_Thing⟩, (fun (a : TSlot) => (encTSlot a : D)) ⟨a_Id, a_Size, a_Thing⟩, (fun (a : TSlot) => []) ⟨a_Id, a_Size, a_Thing⟩) :=
  mkCon_fn (fun x y h _ => c139_inj x y h) (⟨a_Id, a_Size, a_Thing⟩ : TSlot) (by simp [nz, nz1, ML_nil, encTSlot]) rfl
theorem c139_pc (a : TSlot) : PCo Try.prog 139 [encTSlot a] (Tab.of []) (encTSlot a) (Tab.of []) := by
  obtain ⟨a_Id, a_Size, a_Thing⟩ := a
  refine pco_of_run [] (E := ⟨[], []⟩) (m := false) (base := 0) Env.ok_nil G_ok mix 300 6 Try.func139 (by kernel_rfl) rfl (by kernel_rfl) (by kernel_rfl) rfl ?_
  simp [Try.f139]
  all_goals first | omega | (rw [Bool.eq_iff_iff]; simp; omega) | grind
theorem c139_ok : c139.ok Try.prog := mkCon_ok fun a hpre => c139_pc a
/-- loop.example/g03007/laws.eqSlot -/
noncomputable def c143 : Con := mkCon 143 false (α := TSlot × TSlot) (fun x => (fun (a : TSlot) (b : TSlot) => [encTSlot a, encTSlot b]) x.1 x.2) (fun _ => []) (fun x => (fun (a : TSlot) (b : TSlot) => True) x.1 x.2) (fun x => (fun (a : TSlot) (b : TSlot) => (dB (decide (a = b)) : D)) x.1 x.2) (fun x => (fun (a : TSlot) (b : TSlot) => []) x.1 x.2)
@[simp] theorem c143_f : c143.f = 143 := rfl
@[simp] theorem c143_own : c143.own = false := rfl
theorem c143_inj : ∀ u_ v_ : TSlot × TSlot, ((fun x => (fun (a : TSlot) (b : TSlot) => [encTSlot a, encTSlot b]) x.1 x.2) u_).map nz = ((fun x => (fun (a : TSlot) (b : TSlot) => [encTSlot a, encTSlot b]) x.1 x.2) v_).map nz → u_ = v_ := by
  intro u_ v_ h
  obtain ⟨⟨a_Id, a_Size, a_Thing⟩, ⟨b_Id, b_Size, b_Thing⟩⟩ := u_
  obtain ⟨⟨a_Id', a_Size', a_Thing'⟩, ⟨b_Id', b_Size', b_Thing'⟩⟩ := v_
  simp [nz_lit, nz1_lit, nz_agg, nz_sl, nz1_sl, encTSlot] at h
  first | (simp [h]; done) | (obtain ⟨⟩ := h; simp_all; done) | simp_all
@[simp] theorem c143_fn (a_Id : Int) (a_Size : Int) (a_Thing : Int) (b_Id : Int) (b_Size : Int) (b_Thing : Int) : c143.fn [.agg [.lit (.int .i64 a_Id), .lit (.int .i64 a_Size), .lit (.int .i64 a_Thing)], .agg [.lit (.int .i64 b_Id), .lit (.int .i64 b_Size), .lit (.int .i64 b_Thing)]] [] = some ((fun (a : TSlot) (b : TSlot) => True) ⟨a_Id, a_Size, a_Thing⟩ ⟨b_Id, b_Size, b_Thing⟩, (fun (a : TSlot) (b : TSlot) => (dB (decide (a = b)) : D)) ⟨a_Id, a_Size, a_Thing⟩ ⟨b_Id, b_Size, b_Thing⟩, (fun (a : TSlot) (b : TSlot) => []) ⟨a_Id, a_Size, a_Thing⟩ ⟨b_Id, b_Size, b_Thing⟩) :=
  mkCon_fn (fun x y h _ => c143_inj x y h) ((⟨a_Id, a_Size, a_Thing⟩, ⟨b_Id, b_Size, b_Thing⟩) : TSlot × TSlot) (by simp [nz, nz1, ML_nil, encTSlot]) rfl
theorem c143_pc (a : TSlot) (b : TSlot) : PCo Try.prog 143 [encTSlot a, encTSlot b] (Tab.of []) (dB (decide (a = b))) (Tab.of []) := by
  obtain ⟨a_Id, a_Size, a_Thing⟩ := a
  obtain ⟨b_Id, b_Size, b_Thing⟩ := b
  refine pco_of_run [] (E := ⟨[], []⟩) (m := false) (base := 0) Env.ok_nil G_ok mix 300 6 Try.func143 (by kernel_rfl) rfl (by kernel_rfl) (by kernel_rfl) rfl ?_
  simp [Try.f143]
  all_goals first | omega | (rw [Bool.eq_iff_iff]; simp; omega) | grind
theorem c143_ok : c143.ok Try.prog := mkCon_ok fun ⟨a, b⟩ hpre => c143_pc a b
/-- loop.example/g03007/laws.szSlotS -/
noncomputable def c64 : Con := mkCon 64 false (α := (List TSlot) × Int) (fun x => (fun (l : List TSlot) (left : Int) => [encLTSlot l, dI left]) x.1 x.2) (fun _ => []) (fun x => (fun (l : List TSlot) (left : Int) => l.length ≤ maxLen ∧ 0 ≤ left ∧ left ≤ 1099511627776) x.1 x.2) (fun x => (fun (l : List TSlot) (left : Int) => (dI (if left - l.length < 0 then -1 else left - l.length) : D)) x.1 x.2) (fun x => (fun (l : List TSlot) (left : Int) => []) x.1 x.2)
@[simp] theorem c64_f : c64.f = 64 := rfl
@[simp] theorem c64_own : c64.own = false := rfl
theorem c64_inj : ∀ u_ v_ : (List TSlot) × Int, ((fun x => (fun (l : List TSlot) (left : Int) => [encLTSlot l, dI left]) x.1 x.2) u_).map nz = ((fun x => (fun (l : List TSlot) (left : Int) => [encLTSlot l, dI left]) x.1 x.2) v_).map nz → u_ = v_ := by
  intro u_ v_ h
  obtain ⟨l, left⟩ := u_
  obtain ⟨l', left'⟩ := v_
  simp [nz_lit, nz1_lit, nz_agg, nz_sl, nz1_sl, encLTSlot] at h
  first | (simp [h]; done) | (obtain ⟨⟩ := h; simp_all; done) | simp_all
@[simp] theorem c64_fn (l : List TSlot) (left : Int) : c64.fn [.sl false 3 yTSlot (ML encTSlot l), .lit (.int .i64 left)] [] = some ((fun (l : List TSlot) (left : Int) => l.length ≤ maxLen ∧ 0 ≤ left ∧ left ≤ 1099511627776) l left, (fun (l : List TSlot) (left : Int) => (dI (if left - l.length < 0 then -1 else left - l.length) : D)) l left, (fun (l : List TSlot) (left : Int) => []) l left) :=
  mkCon_fn (fun x y h _ => c64_inj x y h) ((l, left) : (List TSlot) × Int) (by simp [nz, nz1, ML_nil, encLTSlot]) rfl
@[simp] theorem c64_fn1 (s_l : Nat) (z_l : D) (left : Int) : c64.fn [.sl false s_l z_l [], .lit (.int .i64 left)] [] = some ((fun (l : List TSlot) (left : Int) => l.length ≤ maxLen ∧ 0 ≤ left ∧ left ≤ 1099511627776) [] left, (fun (l : List TSlot) (left : Int) => (dI (if left - l.length < 0 then -1 else left - l.length) : D)) [] left, (fun (l : List TSlot) (left : Int) => []) [] left) :=
  mkCon_fn (fun x y h _ => c64_inj x y h) (([], left) : (List TSlot) × Int) (by simp [nz, nz1, ML_nil, encLTSlot]) rfl
theorem c64_pc (l : List TSlot) (left : Int) (hpre : l.length ≤ maxLen ∧ 0 ≤ left ∧ left ≤ 1099511627776) : PCo Try.prog 64 [encLTSlot l, dI left] (Tab.of []) (dI (if left - l.length < 0 then -1 else left - l.length)) (Tab.of []) := by
  refine pco_of_run [] (E := ⟨[], []⟩) (m := false) (base := 0) Env.ok_nil G_ok mix 300 6 Try.func64 (by kernel_rfl) rfl (by kernel_rfl) (by kernel_rfl) rfl ?_
  simp [Try.f64]
  simp [maxLen] at hpre
  all_goals omega
theorem c64_ok : c64.ok Try.prog := mkCon_ok fun ⟨l, left⟩ hpre => c64_pc l left hpre
/-- loop.example/g03007/laws.toSlotS -/
noncomputable def c67 : Con := mkCon 67 false (α := (List TSlot)) (fun x => (fun (l : List TSlot) => [encLTSlot l]) x) (fun _ => []) (fun x => (fun (l : List TSlot) => l.length ≤ 1099511627776) x) (fun x => (fun (l : List TSlot) => (.own (0, 1) 3 0 l.length : D)) x) (fun x => (fun (l : List TSlot) => [((0, 1), .arr false 3 yTSlot (ML encTSlot l))]) x)
@[simp] theorem c67_f : c67.f = 67 := rfl
@[simp] theorem c67_own : c67.own = false := rfl
theorem c67_inj : ∀ u_ v_ : (List TSlot), ((fun x => (fun (l : List TSlot) => [encLTSlot l]) x) u_).map nz = ((fun x => (fun (l : List TSlot) => [encLTSlot l]) x) v_).map nz → u_ = v_ := by
  intro u_ v_ h
  obtain l := u_
  obtain l' := v_
  simp [nz_lit, nz1_lit, nz_agg, nz_sl, nz1_sl, encLTSlot] at h
  first | (simp [h]; done) | (obtain ⟨⟩ := h; simp_all; done) | simp_all
@[simp] theorem c67_fn (l : List TSlot) : c67.fn [.sl false 3 yTSlot (ML encTSlot l)] [] = some ((fun (l : List TSlot) => l.length ≤ 1099511627776) l, (fun (l : List TSlot) => (.own (0, 1) 3 0 l.length : D)) l, (fun (l : List TSlot) => [((0, 1), .arr false 3 yTSlot (ML encTSlot l))]) l) :=
  mkCon_fn (fun x y h _ => c67_inj x y h) (l : (List TSlot)) (by simp [nz, nz1, ML_nil, encLTSlot]) rfl
@[simp] theorem c67_fn1 (s_l : Nat) (z_l : D) : c67.fn [.sl false s_l z_l []] [] = some ((fun (l : List TSlot) => l.length ≤ 1099511627776) [], (fun (l : List TSlot) => (.own (0, 1) 3 0 l.length : D)) [], (fun (l : List TSlot) => [((0, 1), .arr false 3 yTSlot (ML encTSlot l))]) []) :=
  mkCon_fn (fun x y h _ => c67_inj x y h) ([] : (List TSlot)) (by simp [nz, nz1, ML_nil, encLTSlot]) rfl
theorem c67_pc (l : List TSlot) (hpre : l.length ≤ 1099511627776) : PCo Try.prog 67 [encLTSlot l] (Tab.of []) (.own (0, 1) 3 0 l.length) (Tab.of [((0, 1), .arr false 3 yTSlot (ML encTSlot l))]) := by
  refine pco_of_run [] (E := ⟨[c139], []⟩) (m := false) (base := 0) (Env.ok_cons c139_ok Env.ok_nil) G_ok mix 300 6 Try.func67 (by kernel_rfl) rfl (by kernel_rfl) (by kernel_rfl) rfl ?_
  simp [Try.f67]
  refine ⟨by omega, ?_⟩
  refine loop_inv (fun p : Nat => p ≤ l.length) (fun p => [(0, encLTSlot l), (3, .own (0, 1) 3 0 l.length), (4, dI p)]) (fun p => [((0, 1), .arr false 3 yTSlot (ML encTSlot (l.take p ++ List.replicate (l.length - p) ⟨0, 0, 0⟩)))]) 2 (fun p => l.length - p) 0 100 (by simp) (by simp) (by first | (simp; done) | (simp; simp only [ML, List.map_replicate]; rfl)) ?_
  intro p hp
  simp
  refine ⟨fun hlt => ⟨by omega, by omega, Again.mk (p + 1) (by omega) (by simp [fill_step hlt]) (by first | omega | (simp; omega))⟩, fun hge => ?_⟩
  have : p = l.length := by omega
  subst this
  simp
theorem c67_ok : c67.ok Try.prog := mkCon_ok fun l hpre => c67_pc l hpre
/-- loop.example/g03007/laws.eqSlotS -/
noncomputable def c70 : Con := mkCon 70 false (α := (List TSlot) × (List TSlot)) (fun x => (fun (a : List TSlot) (b : List TSlot) => [encLTSlot a, encLTSlot b]) x.1 x.2) (fun _ => []) (fun x => (fun (a : List TSlot) (b : List TSlot) => a.length ≤ 1099511627776 ∧ b.length ≤ 1099511627776) x.1 x.2) (fun x => (fun (a : List TSlot) (b : List TSlot) => (dB (decide (a = b)) : D)) x.1 x.2) (fun x => (fun (a : List TSlot) (b : List TSlot) => []) x.1 x.2)
@[simp] theorem c70_f : c70.f = 70 := rfl
@[simp] theorem c70_own : c70.own = false := rfl
theorem c70_inj : ∀ u_ v_ : (List TSlot) × (List TSlot), ((fun x => (fun (a : List TSlot) (b : List TSlot) => [encLTSlot a, encLTSlot b]) x.1 x.2) u_).map nz = ((fun x => (fun (a : List TSlot) (b : List TSlot) => [encLTSlot a, encLTSlot b]) x.1 x.2) v_).map nz → u_ = v_ := by
  intro u_ v_ h
  obtain ⟨a, b⟩ := u_
  obtain ⟨a', b'⟩ := v_
  simp [nz_lit, nz1_lit, nz_agg, nz_sl, nz1_sl, encLTSlot] at h
  first | (simp [h]; done) | (obtain ⟨⟩ := h; simp_all; done) | simp_all
@[simp] theorem c70_fn (a : List TSlot) (b : List TSlot) : c70.fn [.sl false 3 yTSlot (ML encTSlot a), .sl false 3 yTSlot (ML encTSlot b)] [] = some ((fun (a : List TSlot) (b : List TSlot) => a.length ≤ 1099511627776 ∧ b.length ≤ 1099511627776) a b, (fun (a : List TSlot) (b : List TSlot) => (dB (decide (a = b)) : D)) a b, (fun (a : List TSlot) (b : List TSlot) => []) a b) :=
  mkCon_fn (fun x y h _ => c70_inj x y h) ((a, b) : (List TSlot) × (List TSlot)) (by simp [nz, nz1, ML_nil, encLTSlot]) rfl
@[simp] theorem c70_fn1 (s_a : Nat) (z_a : D) (b : List TSlot) : c70.fn [.sl false s_a z_a [], .sl false 3 yTSlot (ML encTSlot b)] [] = some ((fun (a : List TSlot) (b : List TSlot) => a.length ≤ 1099511627776 ∧ b.length ≤ 1099511627776) [] b, (fun (a : List TSlot) (b : List TSlot) => (dB (decide (a = b)) : D)) [] b, (fun (a : List TSlot) (b : List TSlot) => []) [] b) :=
  mkCon_fn (fun x y h _ => c70_inj x y h) (([], b) : (List TSlot) × (List TSlot)) (by simp [nz, nz1, ML_nil, encLTSlot]) rfl
@[simp] theorem c70_fn2 (a : List TSlot) (s_b : Nat) (z_b : D) : c70.fn [.sl false 3 yTSlot (ML encTSlot a), .sl false s_b z_b []] [] = some ((fun (a : List TSlot) (b : List TSlot) => a.length ≤ 1099511627776 ∧ b.length ≤ 1099511627776) a [], (fun (a : List TSlot) (b : List TSlot) => (dB (decide (a = b)) : D)) a [], (fun (a : List TSlot) (b : List TSlot) => []) a []) :=
  mkCon_fn (fun x y h _ => c70_inj x y h) ((a, []) : (List TSlot) × (List TSlot)) (by simp [nz, nz1, ML_nil, encLTSlot]) rfl
@[simp] theorem c70_fn3 (s_a : Nat) (z_a : D) (s_b : Nat) (z_b : D) : c70.fn [.sl false s_a z_a [], .sl false s_b z_b []] [] = some ((fun (a : List TSlot) (b : List TSlot) => a.length ≤ 1099511627776 ∧ b.length ≤ 1099511627776) [] [], (fun (a : List TSlot) (b : List TSlot) => (dB (decide (a = b)) : D)) [] [], (fun (a : List TSlot) (b : List TSlot) => []) [] []) :=
  mkCon_fn (fun x y h _ => c70_inj x y h) (([], []) : (List TSlot) × (List TSlot)) (by simp [nz, nz1, ML_nil, encLTSlot]) rfl
theorem c70_pc (a : List TSlot) (b : List TSlot) (hpre : a.length ≤ 1099511627776 ∧ b.length ≤ 1099511627776) : PCo Try.prog 70 [encLTSlot a, encLTSlot b] (Tab.of []) (dB (decide (a = b))) (Tab.of []) := by
  refine pco_of_run [] (E := ⟨[c143], []⟩) (m := false) (base := 0) (Env.ok_cons c143_ok Env.ok_nil) G_ok mix 300 6 Try.func70 (by kernel_rfl) rfl (by kernel_rfl) (by kernel_rfl) rfl ?_
  simp [Try.f70]
  obtain ⟨pre1, pre2⟩ := hpre
  refine ⟨fun h => ?_, fun h => by intro e; subst e; exact absurd rfl h⟩
  refine loop_inv (fun p : Nat => p ≤ a.length ∧ a.take p = b.take p) (fun p => [(0, encLTSlot a), (1, encLTSlot b), (5, dI p)]) (fun _ => []) 1 (fun p => a.length - p) 0 100 (by simp) (by simp) (by simp) ?_
  intro p ⟨hp, hi⟩
  simp
  refine ⟨fun hlt => ⟨by omega, fun h2 => ⟨by omega, Again.mk (p + 1) ⟨by omega, take_eq_step hi (by omega) (by omega) h2⟩ (by simp) (by first | omega | (simp; omega))⟩, fun h2 => by intro e; subst e; exact absurd rfl h2⟩, fun hge => ?_⟩
  exact take_eq_full hi (by omega) (by omega)
theorem c70_ok : c70.ok Try.prog := mkCon_ok fun ⟨a, b⟩ hpre => c70_pc a b hpre
abbrev mk_TSlot : Int → TSlot := fun n => ⟨n, n + 1, n + 2⟩
/-- loop.example/g03007/laws.markSlotS -/
noncomputable def c103 : Con := mkCon 103 true (α := (List TSlot) × Int) (fun x => (fun (l : List TSlot) (k : Int) => ([.own (0, 0) 3 0 l.length, dI k] : List D)) x.1 x.2) (fun x => (fun (l : List TSlot) (k : Int) => ([((0, 0), .arr false 3 yTSlot (ML encTSlot l))] : List (Nm × OO))) x.1 x.2) (fun x => (fun (l : List TSlot) (k : Int) => l.length ≤ 1099511627776 ∧ 0 ≤ k ∧ k ≤ 1152921504606846976) x.1 x.2) (fun x => (fun (l : List TSlot) (k : Int) => (dI (k + 3 * l.length) : D)) x.1 x.2) (fun x => (fun (l : List TSlot) (k : Int) => ([((0, 0), .arr false 3 yTSlot (ML encTSlot (mkL mk_TSlot 3 k l.length)))] : List (Nm × OO))) x.1 x.2)
@[simp] theorem c103_f : c103.f = 103 := rfl
@[simp] theorem c103_own : c103.own = true := rfl
theorem c103_inj : ∀ u_ v_ : (List TSlot) × Int, ((fun x => (fun (l : List TSlot) (k : Int) => ([.own (0, 0) 3 0 l.length, dI k] : List D)) x.1 x.2) u_).map nz = ((fun x => (fun (l : List TSlot) (k : Int) => ([.own (0, 0) 3 0 l.length, dI k] : List D)) x.1 x.2) v_).map nz → (fun x => (fun (l : List TSlot) (k : Int) => ([((0, 0), .arr false 3 yTSlot (ML encTSlot l))] : List (Nm × OO))) x.1 x.2) u_ = (fun x => (fun (l : List TSlot) (k : Int) => ([((0, 0), .arr false 3 yTSlot (ML encTSlot l))] : List (Nm × OO))) x.1 x.2) v_ → u_ = v_ := by
  intro u_ v_ h h2_
  obtain ⟨l, k⟩ := u_
  obtain ⟨l', k'⟩ := v_
  simp [nz_lit, nz1_lit, nz_agg, nz_sl, nz1_sl, nz_sx, nz_el, nz1_el, nz_own, nz1_own, nz_ptr, nz_fn, nz_iface] at h h2_
  first | (simp [h, h2_]; done) | (obtain ⟨h3_, h4_⟩ := List.append_inj h2_ h.1; simp_all; done) | simp_all | grind
@[simp] theorem c103_fn (l : List TSlot) (k : Int) : c103.fn ([.own (0, 0) 3 0 l.length, dI k]) ([((0, 0), .arr false 3 yTSlot (ML encTSlot l))]) = some (l.length ≤ 1099511627776 ∧ 0 ≤ k ∧ k ≤ 1152921504606846976, dI (k + 3 * l.length), [((0, 0), .arr false 3 yTSlot (ML encTSlot (mkL mk_TSlot 3 k l.length)))]) :=
  mkCon_fn c103_inj ((l, k) : (List TSlot) × Int) rfl rfl
theorem c103_pc (l : List TSlot) (k : Int) (hpre : l.length ≤ 1099511627776 ∧ 0 ≤ k ∧ k ≤ 1152921504606846976) : PCo Try.prog 103 ([.own (0, 0) 3 0 l.length, dI k]) (Tab.of ([((0, 0), .arr false 3 yTSlot (ML encTSlot l))])) (dI (k + 3 * l.length)) (Tab.of ([((0, 0), .arr false 3 yTSlot (ML encTSlot (mkL mk_TSlot 3 k l.length)))])) := by
  refine pco_of_run [] (E := ⟨[], []⟩) (m := false) (base := 0) Env.ok_nil G_ok mix 300 6 Try.func103 (by kernel_rfl) rfl (by kernel_rfl) (by kernel_rfl) rfl ?_
  simp [Try.f103]
  obtain ⟨pre1, pre2, pre3⟩ := hpre
  refine loop_inv (fun p : Nat => p ≤ l.length) (fun p => [(0, .own (0, 0) 3 0 l.length), (1, dI (k + 3 * p)), (5, dI p)]) (fun p => [((0, 0), .arr false 3 yTSlot (ML encTSlot (mkL mk_TSlot 3 k p ++ l.drop p)))]) 2 (fun p => l.length - p) 0 100 (by simp) (by simp) (by simp) ?_
  intro p hp
  simp
  have hs : ∀ x, x = mk_TSlot (k + 3 * (p : Int)) → p < l.length → mkL mk_TSlot 3 k p ++ (l.drop p).set 0 x = mkL mk_TSlot 3 k (p + 1) ++ l.drop (p + 1) := fun x hx hlt => mark_step0 hlt hx
  refine ⟨fun hlt => ?_, fun hge => ?_⟩
  · repeat' (first | omega | refine And.intro ?_ ?_ | intro _)
    all_goals refine Again.mk (p + 1) (by omega) ?_ (by first | omega | (simp; omega))
    all_goals (rw [hs _ (by simp [mark_get0 hlt, mark_get hlt]; first | done | omega) hlt]; simp; omega)
  have : p = l.length := by omega
  subst this
  simp
  trace_state
theorem c103_ok : c103.ok Try.prog := mkCon_ok fun ⟨l, k⟩ hpre => c103_pc l k hpre
/-- loop.example/g03007/laws.heldSlotS -/
noncomputable def c104 : Con := mkCon 104 false (α := (List TSlot) × Int) (fun x => (fun (l : List TSlot) (k : Int) => [encLTSlot l, dI k]) x.1 x.2) (fun _ => []) (fun x => (fun (l : List TSlot) (k : Int) => l.length ≤ 1099511627776 ∧ 0 ≤ k ∧ k ≤ 1152921504606846976) x.1 x.2) (fun x => (fun (l : List TSlot) (k : Int) => (dI (if l = mkL mk_TSlot 3 k l.length then k + 3 * l.length else -1) : D)) x.1 x.2) (fun x => (fun (l : List TSlot) (k : Int) => []) x.1 x.2)
@[simp] theorem c104_f : c104.f = 104 := rfl
@[simp] theorem c104_own : c104.own = false := rfl
theorem c104_inj : ∀ u_ v_ : (List TSlot) × Int, ((fun x => (fun (l : List TSlot) (k : Int) => [encLTSlot l, dI k]) x.1 x.2) u_).map nz = ((fun x => (fun (l : List TSlot) (k : Int) => [encLTSlot l, dI k]) x.1 x.2) v_).map nz → u_ = v_ := by
  intro u_ v_ h
  obtain ⟨l, k⟩ := u_
  obtain ⟨l', k'⟩ := v_
  simp [nz_lit, nz1_lit, nz_agg, nz_sl, nz1_sl, encLTSlot] at h
  first | (simp [h]; done) | (obtain ⟨⟩ := h; simp_all; done) | simp_all
@[simp] theorem c104_fn (l : List TSlot) (k : Int) : c104.fn [.sl false 3 yTSlot (ML encTSlot l), .lit (.int .i64 k)] [] = some ((fun (l : List TSlot) (k : Int) => l.length ≤ 1099511627776 ∧ 0 ≤ k ∧ k ≤ 1152921504606846976) l k, (fun (l : List TSlot) (k : Int) => (dI (if l = mkL mk_TSlot 3 k l.length then k + 3 * l.length else -1) : D)) l k, (fun (l : List TSlot) (k : Int) => []) l k) :=
  mkCon_fn (fun x y h _ => c104_inj x y h) ((l, k) : (List TSlot) × Int) (by simp [nz, nz1, ML_nil, encLTSlot]) rfl
@[simp] theorem c104_fn1 (s_l : Nat) (z_l : D) (k : Int) : c104.fn [.sl false s_l z_l [], .lit (.int .i64 k)] [] = some ((fun (l : List TSlot) (k : Int) => l.length ≤ 1099511627776 ∧ 0 ≤ k ∧ k ≤ 1152921504606846976) [] k, (fun (l : List TSlot) (k : Int) => (dI (if l = mkL mk_TSlot 3 k l.length then k + 3 * l.length else -1) : D)) [] k, (fun (l : List TSlot) (k : Int) => []) [] k) :=
  mkCon_fn (fun x y h _ => c104_inj x y h) (([], k) : (List TSlot) × Int) (by simp [nz, nz1, ML_nil, encLTSlot]) rfl
theorem c104_pc (l : List TSlot) (k : Int) (hpre : l.length ≤ 1099511627776 ∧ 0 ≤ k ∧ k ≤ 1152921504606846976) : PCo Try.prog 104 [encLTSlot l, dI k] (Tab.of []) (dI (if l = mkL mk_TSlot 3 k l.length then k + 3 * l.length else -1)) (Tab.of []) := by
  refine pco_of_run [] (E := ⟨[], []⟩) (m := false) (base := 0) Env.ok_nil G_ok mix 300 6 Try.func104 (by kernel_rfl) rfl (by kernel_rfl) (by kernel_rfl) rfl ?_
  simp [Try.f104]
  obtain ⟨pre1, pre2, pre3⟩ := hpre
  refine loop_inv (fun p : Nat => p ≤ l.length ∧ l.take p = (mkL mk_TSlot 3 k l.length).take p) (fun p => [(0, encLTSlot l), (1, dI (k + 3 * p)), (5, dI p)]) (fun _ => []) 1 (fun p => l.length - p) 0 100 (by simp) (by simp) (by simp) ?_
  intro p ⟨hp, hi⟩
  simp
  refine ⟨fun hlt => ?_, fun hge => ?_⟩
  · have hx := mkL_get (f := mk_TSlot) (m := 3) (k := k) (d := default) hlt
    by_cases he : l[p]?.getD default = mk_TSlot (k + 3 * (p : Int))
    · generalize hA : Again _ _ _ _ _ _ _ = A
      have hAA : A := by rw [← hA]; exact Again.mk (p + 1) ⟨by omega, take_eq_step hi (by omega) (by simp; omega) (by rw [hx]; exact he)⟩ (by simp; omega) (by first | omega | (simp; omega))
      clear hA
      simp only [he, mk_TSlot]
      repeat' (first | exact hAA | omega | refine And.intro ?_ ?_ | intro _)
      all_goals first | (exfalso; exact absurd trivial (by assumption)) | (exfalso; omega)
    · have hne : ¬ l = mkL mk_TSlot 3 k l.length := fun e => he (by rw [← hx]; exact congrArg (fun z => z[p]?.getD default) e)
      generalize Again _ _ _ _ _ _ _ = A
      repeat' (first | omega | rfl | refine And.intro ?_ ?_ | intro _)
      all_goals first | (exfalso; apply hne; assumption) | (exfalso; apply he; obtain ⟨x, hq⟩ : ∃ x, l[p]?.getD default = x := ⟨_, rfl⟩; simp only [hq] at *; obtain ⟨x1, x2, x3⟩ := x; simp [mk_TSlot] at *; omega)
  · have h4 := take_eq_full hi hge (by simp; omega)
    rw [if_pos h4]; omega
theorem c104_ok : c104.ok Try.prog := mkCon_ok fun ⟨l, k⟩ hpre => c104_pc l k hpre
def isFree (s : TSlot) : Bool := decide (s.Thing = 0)
def mLargest (l : List TSlot) : Int := l.foldl (fun n s => if s.Thing = 0 then max n s.Size else n) 0
theorem mLargest_at {l : List TSlot} {p : Nat} (h : p < l.length) : mLargest (l.take (p + 1)) = if (l[p]?.getD default).Thing = 0 then max (mLargest (l.take p)) (l[p]?.getD default).Size else mLargest (l.take p) := by
  simp only [mLargest]; rw [foldl_at (d := default) h]
end Go.Proofs.Ytnkggfhgmdbfpaa
