/- Contracts of the functions that the laws run. -/
import Derived.Test.Ytkccphdoolpmaaach04
import Derived.Test.YtkccphdoolpmaaaEngB
namespace Go.Proofs.Ytkccphdoolpmaaa
open Go Go.Eng
set_option linter.unusedSimpArgs false
set_option linter.unusedVariables false
set_option maxRecDepth 10000
set_option maxHeartbeats 1000000
/-- loop.example/g03007/laws.toSlot -/
noncomputable def c106 : Con := mkCon 106 false (α := TSlot) (fun x => (fun (a : TSlot) => [encTSlot a]) x) (fun _ => []) (fun x => (fun (a : TSlot) => True) x) (fun x => (fun (a : TSlot) => (encTSlot a : D)) x) (fun x => (fun (a : TSlot) => []) x)
@[simp] theorem c106_f : c106.f = 106 := rfl
@[simp] theorem c106_own : c106.own = false := rfl
theorem c106_inj : ∀ u_ v_ : TSlot, ((fun x => (fun (a : TSlot) => [encTSlot a]) x) u_).map nz = ((fun x => (fun (a : TSlot) => [encTSlot a]) x) v_).map nz → u_ = v_ := by
  intro u_ v_ h
  obtain ⟨a_Id, a_Size, a_Thing⟩ := u_
  obtain ⟨a_Id', a_Size', a_Thing'⟩ := v_
  simp [nz_lit, nz1_lit, nz_agg, nz_sl, nz1_sl, encTSlot] at h
  first | (simp [h]; done) | (obtain ⟨⟩ := h; simp_all; done) | simp_all
@[simp] theorem c106_fn (a_Id : Int) (a_Size : Int) (a_Thing : Int) : c106.fn [.agg [.lit (.int .i64 a_Id), .lit (.int .i64 a_Size), .lit (.int .i64 a_Thing)]] [] = some ((fun (a : TSlot) => True) ⟨a_Id, a_Size, a_Thing⟩, (fun (a : TSlot) => (encTSlot a : D)) ⟨a_Id, a_Size, a_Thing⟩, (fun (a : TSlot) => []) ⟨a_Id, a_Size, a_Thing⟩) :=
  mkCon_fn (fun x y h _ => c106_inj x y h) (⟨a_Id, a_Size, a_Thing⟩ : TSlot) (by simp [nz, nz1, ML_nil, encTSlot]) rfl
theorem c106_pc (a : TSlot) : PCo Try.prog 106 [encTSlot a] (Tab.of []) (encTSlot a) (Tab.of []) := by
  obtain ⟨a_Id, a_Size, a_Thing⟩ := a
  refine pco_of_run [] (E := ⟨[], []⟩) (m := false) (base := 0) Env.ok_nil G_ok mix 300 6 Try.func106 (by kernel_rfl) rfl (by kernel_rfl) (by kernel_rfl) rfl ?_
  simp [Try.f106]
  all_goals first | omega | (rw [Bool.eq_iff_iff]; simp; omega) | grind
theorem c106_ok : c106.ok Try.prog := mkCon_ok fun a hpre => c106_pc a
/-- loop.example/g03007/laws.eqSlot -/
noncomputable def c110 : Con := mkCon 110 false (α := TSlot × TSlot) (fun x => (fun (a : TSlot) (b : TSlot) => [encTSlot a, encTSlot b]) x.1 x.2) (fun _ => []) (fun x => (fun (a : TSlot) (b : TSlot) => True) x.1 x.2) (fun x => (fun (a : TSlot) (b : TSlot) => (dB (decide (a = b)) : D)) x.1 x.2) (fun x => (fun (a : TSlot) (b : TSlot) => []) x.1 x.2)
@[simp] theorem c110_f : c110.f = 110 := rfl
@[simp] theorem c110_own : c110.own = false := rfl
theorem c110_inj : ∀ u_ v_ : TSlot × TSlot, ((fun x => (fun (a : TSlot) (b : TSlot) => [encTSlot a, encTSlot b]) x.1 x.2) u_).map nz = ((fun x => (fun (a : TSlot) (b : TSlot) => [encTSlot a, encTSlot b]) x.1 x.2) v_).map nz → u_ = v_ := by
  intro u_ v_ h
  obtain ⟨⟨a_Id, a_Size, a_Thing⟩, ⟨b_Id, b_Size, b_Thing⟩⟩ := u_
  obtain ⟨⟨a_Id', a_Size', a_Thing'⟩, ⟨b_Id', b_Size', b_Thing'⟩⟩ := v_
  simp [nz_lit, nz1_lit, nz_agg, nz_sl, nz1_sl, encTSlot] at h
  first | (simp [h]; done) | (obtain ⟨⟩ := h; simp_all; done) | simp_all
@[simp] theorem c110_fn (a_Id : Int) (a_Size : Int) (a_Thing : Int) (b_Id : Int) (b_Size : Int) (b_Thing : Int) : c110.fn [.agg [.lit (.int .i64 a_Id), .lit (.int .i64 a_Size), .lit (.int .i64 a_Thing)], .agg [.lit (.int .i64 b_Id), .lit (.int .i64 b_Size), .lit (.int .i64 b_Thing)]] [] = some ((fun (a : TSlot) (b : TSlot) => True) ⟨a_Id, a_Size, a_Thing⟩ ⟨b_Id, b_Size, b_Thing⟩, (fun (a : TSlot) (b : TSlot) => (dB (decide (a = b)) : D)) ⟨a_Id, a_Size, a_Thing⟩ ⟨b_Id, b_Size, b_Thing⟩, (fun (a : TSlot) (b : TSlot) => []) ⟨a_Id, a_Size, a_Thing⟩ ⟨b_Id, b_Size, b_Thing⟩) :=
  mkCon_fn (fun x y h _ => c110_inj x y h) ((⟨a_Id, a_Size, a_Thing⟩, ⟨b_Id, b_Size, b_Thing⟩) : TSlot × TSlot) (by simp [nz, nz1, ML_nil, encTSlot]) rfl
theorem c110_pc (a : TSlot) (b : TSlot) : PCo Try.prog 110 [encTSlot a, encTSlot b] (Tab.of []) (dB (decide (a = b))) (Tab.of []) := by
  obtain ⟨a_Id, a_Size, a_Thing⟩ := a
  obtain ⟨b_Id, b_Size, b_Thing⟩ := b
  refine pco_of_run [] (E := ⟨[], []⟩) (m := false) (base := 0) Env.ok_nil G_ok mix 300 6 Try.func110 (by kernel_rfl) rfl (by kernel_rfl) (by kernel_rfl) rfl ?_
  simp [Try.f110]
  all_goals first | omega | (rw [Bool.eq_iff_iff]; simp; omega) | grind
theorem c110_ok : c110.ok Try.prog := mkCon_ok fun ⟨a, b⟩ hpre => c110_pc a b
/-- loop.example/g03007/laws.szSlotS -/
noncomputable def c44 : Con := mkCon 44 false (α := (List TSlot) × Int) (fun x => (fun (l : List TSlot) (left : Int) => [encLTSlot l, dI left]) x.1 x.2) (fun _ => []) (fun x => (fun (l : List TSlot) (left : Int) => l.length ≤ maxLen ∧ 0 ≤ left ∧ left ≤ 1099511627776) x.1 x.2) (fun x => (fun (l : List TSlot) (left : Int) => (dI (if left - l.length < 0 then -1 else left - l.length) : D)) x.1 x.2) (fun x => (fun (l : List TSlot) (left : Int) => []) x.1 x.2)
@[simp] theorem c44_f : c44.f = 44 := rfl
@[simp] theorem c44_own : c44.own = false := rfl
theorem c44_inj : ∀ u_ v_ : (List TSlot) × Int, ((fun x => (fun (l : List TSlot) (left : Int) => [encLTSlot l, dI left]) x.1 x.2) u_).map nz = ((fun x => (fun (l : List TSlot) (left : Int) => [encLTSlot l, dI left]) x.1 x.2) v_).map nz → u_ = v_ := by
  intro u_ v_ h
  obtain ⟨l, left⟩ := u_
  obtain ⟨l', left'⟩ := v_
  simp [nz_lit, nz1_lit, nz_agg, nz_sl, nz1_sl, encLTSlot] at h
  first | (simp [h]; done) | (obtain ⟨⟩ := h; simp_all; done) | simp_all
@[simp] theorem c44_fn (l : List TSlot) (left : Int) : c44.fn [.sl false 3 yTSlot (ML encTSlot l), .lit (.int .i64 left)] [] = some ((fun (l : List TSlot) (left : Int) => l.length ≤ maxLen ∧ 0 ≤ left ∧ left ≤ 1099511627776) l left, (fun (l : List TSlot) (left : Int) => (dI (if left - l.length < 0 then -1 else left - l.length) : D)) l left, (fun (l : List TSlot) (left : Int) => []) l left) :=
  mkCon_fn (fun x y h _ => c44_inj x y h) ((l, left) : (List TSlot) × Int) (by simp [nz, nz1, ML_nil, encLTSlot]) rfl
@[simp] theorem c44_fn1 (s_l : Nat) (z_l : D) (left : Int) : c44.fn [.sl false s_l z_l [], .lit (.int .i64 left)] [] = some ((fun (l : List TSlot) (left : Int) => l.length ≤ maxLen ∧ 0 ≤ left ∧ left ≤ 1099511627776) [] left, (fun (l : List TSlot) (left : Int) => (dI (if left - l.length < 0 then -1 else left - l.length) : D)) [] left, (fun (l : List TSlot) (left : Int) => []) [] left) :=
  mkCon_fn (fun x y h _ => c44_inj x y h) (([], left) : (List TSlot) × Int) (by simp [nz, nz1, ML_nil, encLTSlot]) rfl
theorem c44_pc (l : List TSlot) (left : Int) (hpre : l.length ≤ maxLen ∧ 0 ≤ left ∧ left ≤ 1099511627776) : PCo Try.prog 44 [encLTSlot l, dI left] (Tab.of []) (dI (if left - l.length < 0 then -1 else left - l.length)) (Tab.of []) := by
  refine pco_of_run [] (E := ⟨[], []⟩) (m := false) (base := 0) Env.ok_nil G_ok mix 300 6 Try.func44 (by kernel_rfl) rfl (by kernel_rfl) (by kernel_rfl) rfl ?_
  simp [Try.f44]
  simp [maxLen] at hpre
  all_goals omega
theorem c44_ok : c44.ok Try.prog := mkCon_ok fun ⟨l, left⟩ hpre => c44_pc l left hpre
/-- loop.example/g03007/laws.toSlotS -/
noncomputable def c46 : Con := mkCon 46 false (α := (List TSlot)) (fun x => (fun (l : List TSlot) => [encLTSlot l]) x) (fun _ => []) (fun x => (fun (l : List TSlot) => l.length ≤ 1099511627776) x) (fun x => (fun (l : List TSlot) => (.own (0, 1) 3 0 l.length : D)) x) (fun x => (fun (l : List TSlot) => [((0, 1), .arr false 3 yTSlot (ML encTSlot l))]) x)
@[simp] theorem c46_f : c46.f = 46 := rfl
@[simp] theorem c46_own : c46.own = false := rfl
theorem c46_inj : ∀ u_ v_ : (List TSlot), ((fun x => (fun (l : List TSlot) => [encLTSlot l]) x) u_).map nz = ((fun x => (fun (l : List TSlot) => [encLTSlot l]) x) v_).map nz → u_ = v_ := by
  intro u_ v_ h
  obtain l := u_
  obtain l' := v_
  simp [nz_lit, nz1_lit, nz_agg, nz_sl, nz1_sl, encLTSlot] at h
  first | (simp [h]; done) | (obtain ⟨⟩ := h; simp_all; done) | simp_all
@[simp] theorem c46_fn (l : List TSlot) : c46.fn [.sl false 3 yTSlot (ML encTSlot l)] [] = some ((fun (l : List TSlot) => l.length ≤ 1099511627776) l, (fun (l : List TSlot) => (.own (0, 1) 3 0 l.length : D)) l, (fun (l : List TSlot) => [((0, 1), .arr false 3 yTSlot (ML encTSlot l))]) l) :=
  mkCon_fn (fun x y h _ => c46_inj x y h) (l : (List TSlot)) (by simp [nz, nz1, ML_nil, encLTSlot]) rfl
@[simp] theorem c46_fn1 (s_l : Nat) (z_l : D) : c46.fn [.sl false s_l z_l []] [] = some ((fun (l : List TSlot) => l.length ≤ 1099511627776) [], (fun (l : List TSlot) => (.own (0, 1) 3 0 l.length : D)) [], (fun (l : List TSlot) => [((0, 1), .arr false 3 yTSlot (ML encTSlot l))]) []) :=
  mkCon_fn (fun x y h _ => c46_inj x y h) ([] : (List TSlot)) (by simp [nz, nz1, ML_nil, encLTSlot]) rfl
theorem c46_pc (l : List TSlot) (hpre : l.length ≤ 1099511627776) : PCo Try.prog 46 [encLTSlot l] (Tab.of []) (.own (0, 1) 3 0 l.length) (Tab.of [((0, 1), .arr false 3 yTSlot (ML encTSlot l))]) := by
  refine pco_of_run [] (E := ⟨[c106], []⟩) (m := false) (base := 0) (Env.ok_cons c106_ok Env.ok_nil) G_ok mix 300 6 Try.func46 (by kernel_rfl) rfl (by kernel_rfl) (by kernel_rfl) rfl ?_
  simp [Try.f46]
  refine ⟨by omega, ?_⟩
  refine loop_inv (fun p : Nat => p ≤ l.length) (fun p => [(0, encLTSlot l), (3, .own (0, 1) 3 0 l.length), (4, dI p)]) (fun p => [((0, 1), .arr false 3 yTSlot (ML encTSlot (l.take p ++ List.replicate (l.length - p) ⟨0, 0, 0⟩)))]) 2 (fun p => l.length - p) 0 100 (by simp) (by simp) (by first | (simp; done) | (simp; simp only [ML, List.map_replicate]; rfl)) ?_
  intro p hp
  simp
  refine ⟨fun hlt => ⟨by omega, by omega, Again.mk (p + 1) (by omega) (by simp [fill_step hlt]) (by first | omega | (simp; omega))⟩, fun hge => ?_⟩
  have : p = l.length := by omega
  subst this
  simp
theorem c46_ok : c46.ok Try.prog := mkCon_ok fun l hpre => c46_pc l hpre
/-- loop.example/g03007/laws.eqSlotS -/
noncomputable def c48 : Con := mkCon 48 false (α := (List TSlot) × (List TSlot)) (fun x => (fun (a : List TSlot) (b : List TSlot) => [encLTSlot a, encLTSlot b]) x.1 x.2) (fun _ => []) (fun x => (fun (a : List TSlot) (b : List TSlot) => a.length ≤ 1099511627776 ∧ b.length ≤ 1099511627776) x.1 x.2) (fun x => (fun (a : List TSlot) (b : List TSlot) => (dB (decide (a = b)) : D)) x.1 x.2) (fun x => (fun (a : List TSlot) (b : List TSlot) => []) x.1 x.2)
@[simp] theorem c48_f : c48.f = 48 := rfl
@[simp] theorem c48_own : c48.own = false := rfl
theorem c48_inj : ∀ u_ v_ : (List TSlot) × (List TSlot), ((fun x => (fun (a : List TSlot) (b : List TSlot) => [encLTSlot a, encLTSlot b]) x.1 x.2) u_).map nz = ((fun x => (fun (a : List TSlot) (b : List TSlot) => [encLTSlot a, encLTSlot b]) x.1 x.2) v_).map nz → u_ = v_ := by
  intro u_ v_ h
  obtain ⟨a, b⟩ := u_
  obtain ⟨a', b'⟩ := v_
  simp [nz_lit, nz1_lit, nz_agg, nz_sl, nz1_sl, encLTSlot] at h
  first | (simp [h]; done) | (obtain ⟨⟩ := h; simp_all; done) | simp_all
@[simp] theorem c48_fn (a : List TSlot) (b : List TSlot) : c48.fn [.sl false 3 yTSlot (ML encTSlot a), .sl false 3 yTSlot (ML encTSlot b)] [] = some ((fun (a : List TSlot) (b : List TSlot) => a.length ≤ 1099511627776 ∧ b.length ≤ 1099511627776) a b, (fun (a : List TSlot) (b : List TSlot) => (dB (decide (a = b)) : D)) a b, (fun (a : List TSlot) (b : List TSlot) => []) a b) :=
  mkCon_fn (fun x y h _ => c48_inj x y h) ((a, b) : (List TSlot) × (List TSlot)) (by simp [nz, nz1, ML_nil, encLTSlot]) rfl
@[simp] theorem c48_fn1 (s_a : Nat) (z_a : D) (b : List TSlot) : c48.fn [.sl false s_a z_a [], .sl false 3 yTSlot (ML encTSlot b)] [] = some ((fun (a : List TSlot) (b : List TSlot) => a.length ≤ 1099511627776 ∧ b.length ≤ 1099511627776) [] b, (fun (a : List TSlot) (b : List TSlot) => (dB (decide (a = b)) : D)) [] b, (fun (a : List TSlot) (b : List TSlot) => []) [] b) :=
  mkCon_fn (fun x y h _ => c48_inj x y h) (([], b) : (List TSlot) × (List TSlot)) (by simp [nz, nz1, ML_nil, encLTSlot]) rfl
@[simp] theorem c48_fn2 (a : List TSlot) (s_b : Nat) (z_b : D) : c48.fn [.sl false 3 yTSlot (ML encTSlot a), .sl false s_b z_b []] [] = some ((fun (a : List TSlot) (b : List TSlot) => a.length ≤ 1099511627776 ∧ b.length ≤ 1099511627776) a [], (fun (a : List TSlot) (b : List TSlot) => (dB (decide (a = b)) : D)) a [], (fun (a : List TSlot) (b : List TSlot) => []) a []) :=
  mkCon_fn (fun x y h _ => c48_inj x y h) ((a, []) : (List TSlot) × (List TSlot)) (by simp [nz, nz1, ML_nil, encLTSlot]) rfl
@[simp] theorem c48_fn3 (s_a : Nat) (z_a : D) (s_b : Nat) (z_b : D) : c48.fn [.sl false s_a z_a [], .sl false s_b z_b []] [] = some ((fun (a : List TSlot) (b : List TSlot) => a.length ≤ 1099511627776 ∧ b.length ≤ 1099511627776) [] [], (fun (a : List TSlot) (b : List TSlot) => (dB (decide (a = b)) : D)) [] [], (fun (a : List TSlot) (b : List TSlot) => []) [] []) :=
  mkCon_fn (fun x y h _ => c48_inj x y h) (([], []) : (List TSlot) × (List TSlot)) (by simp [nz, nz1, ML_nil, encLTSlot]) rfl
theorem c48_pc (a : List TSlot) (b : List TSlot) (hpre : a.length ≤ 1099511627776 ∧ b.length ≤ 1099511627776) : PCo Try.prog 48 [encLTSlot a, encLTSlot b] (Tab.of []) (dB (decide (a = b))) (Tab.of []) := by
  refine pco_of_run [] (E := ⟨[c110], []⟩) (m := false) (base := 0) (Env.ok_cons c110_ok Env.ok_nil) G_ok mix 300 6 Try.func48 (by kernel_rfl) rfl (by kernel_rfl) (by kernel_rfl) rfl ?_
  simp [Try.f48]
  obtain ⟨pre1, pre2⟩ := hpre
  refine ⟨fun h => ?_, fun h => by intro e; subst e; exact absurd rfl h⟩
  refine loop_inv (fun p : Nat => p ≤ a.length ∧ a.take p = b.take p) (fun p => [(0, encLTSlot a), (1, encLTSlot b), (5, dI p)]) (fun _ => []) 1 (fun p => a.length - p) 0 100 (by simp) (by simp) (by simp) ?_
  intro p ⟨hp, hi⟩
  simp
  refine ⟨fun hlt => ⟨by omega, fun h2 => ⟨by omega, Again.mk (p + 1) ⟨by omega, take_eq_step hi (by omega) (by omega) h2⟩ (by simp) (by first | omega | (simp; omega))⟩, fun h2 => by intro e; subst e; exact absurd rfl h2⟩, fun hge => ?_⟩
  exact take_eq_full hi (by omega) (by omega)
theorem c48_ok : c48.ok Try.prog := mkCon_ok fun ⟨a, b⟩ hpre => c48_pc a b hpre
abbrev mk_TSlot : Int → TSlot := fun n => ⟨n, n + 1, n + 2⟩
/-- loop.example/g03007/laws.markSlotS -/
noncomputable def c49 : Con := mkCon 49 true (α := (List TSlot) × Int) (fun x => (fun (l : List TSlot) (k : Int) => ([.own (0, 0) 3 0 l.length, dI k] : List D)) x.1 x.2) (fun x => (fun (l : List TSlot) (k : Int) => ([((0, 0), .arr false 3 yTSlot (ML encTSlot l))] : List (Nm × OO))) x.1 x.2) (fun x => (fun (l : List TSlot) (k : Int) => l.length ≤ 1099511627776 ∧ 0 ≤ k ∧ k ≤ 1152921504606846976) x.1 x.2) (fun x => (fun (l : List TSlot) (k : Int) => (dI (k + 3 * l.length) : D)) x.1 x.2) (fun x => (fun (l : List TSlot) (k : Int) => ([((0, 0), .arr false 3 yTSlot (ML encTSlot (mkL mk_TSlot 3 k l.length)))] : List (Nm × OO))) x.1 x.2)
@[simp] theorem c49_f : c49.f = 49 := rfl
@[simp] theorem c49_own : c49.own = true := rfl
theorem c49_inj : ∀ u_ v_ : (List TSlot) × Int, ((fun x => (fun (l : List TSlot) (k : Int) => ([.own (0, 0) 3 0 l.length, dI k] : List D)) x.1 x.2) u_).map nz = ((fun x => (fun (l : List TSlot) (k : Int) => ([.own (0, 0) 3 0 l.length, dI k] : List D)) x.1 x.2) v_).map nz → (fun x => (fun (l : List TSlot) (k : Int) => ([((0, 0), .arr false 3 yTSlot (ML encTSlot l))] : List (Nm × OO))) x.1 x.2) u_ = (fun x => (fun (l : List TSlot) (k : Int) => ([((0, 0), .arr false 3 yTSlot (ML encTSlot l))] : List (Nm × OO))) x.1 x.2) v_ → u_ = v_ := by
  intro u_ v_ h h2_
  obtain ⟨l, k⟩ := u_
  obtain ⟨l', k'⟩ := v_
  simp [nz_lit, nz1_lit, nz_agg, nz_sl, nz1_sl, nz_sx, nz_el, nz1_el, nz_own, nz1_own, nz_ptr, nz_fn, nz_iface] at h h2_
  first | (simp [h, h2_]; done) | simp_all | grind
@[simp] theorem c49_fn (l : List TSlot) (k : Int) : c49.fn ([.own (0, 0) 3 0 l.length, dI k]) ([((0, 0), .arr false 3 yTSlot (ML encTSlot l))]) = some (l.length ≤ 1099511627776 ∧ 0 ≤ k ∧ k ≤ 1152921504606846976, dI (k + 3 * l.length), [((0, 0), .arr false 3 yTSlot (ML encTSlot (mkL mk_TSlot 3 k l.length)))]) :=
  mkCon_fn c49_inj ((l, k) : (List TSlot) × Int) rfl rfl
theorem c49_pc (l : List TSlot) (k : Int) (hpre : l.length ≤ 1099511627776 ∧ 0 ≤ k ∧ k ≤ 1152921504606846976) : PCo Try.prog 49 ([.own (0, 0) 3 0 l.length, dI k]) (Tab.of ([((0, 0), .arr false 3 yTSlot (ML encTSlot l))])) (dI (k + 3 * l.length)) (Tab.of ([((0, 0), .arr false 3 yTSlot (ML encTSlot (mkL mk_TSlot 3 k l.length)))])) := by
  refine pco_of_run [] (E := ⟨[], []⟩) (m := false) (base := 0) Env.ok_nil G_ok mix 300 6 Try.func49 (by kernel_rfl) rfl (by kernel_rfl) (by kernel_rfl) rfl ?_
  simp [Try.f49]
  obtain ⟨pre1, pre2, pre3⟩ := hpre
  refine loop_inv (fun p : Nat => p ≤ l.length) (fun p => [(0, .own (0, 0) 3 0 l.length), (1, dI (k + 3 * p)), (5, dI p)]) (fun p => [((0, 0), .arr false 3 yTSlot (ML encTSlot (mkL mk_TSlot 3 k p ++ l.drop p)))]) 2 (fun p => l.length - p) 0 100 (by simp) (by simp) (by simp) ?_
  intro p hp
  simp
  have hs : ∀ x, x = mk_TSlot (k + 3 * (p : Int)) → p < l.length → mkL mk_TSlot 3 k p ++ (l.drop p).set 0 x = mkL mk_TSlot 3 k (p + 1) ++ l.drop (p + 1) := fun x hx hlt => mark_step0 hlt hx
  refine ⟨fun hlt => ?_, fun hge => ?_⟩
  · repeat' (first | omega | refine And.intro ?_ ?_ | intro _)
    all_goals refine Again.mk (p + 1) (by omega) ?_ (by first | omega | (simp; omega))
    all_goals (rw [hs _ (by simp [mark_get0 hlt, mark_get hlt]; first | done | omega) hlt]; simp; omega)
  have : p = l.length := by omega
  subst this
  simp
  trace_state
theorem c49_ok : c49.ok Try.prog := mkCon_ok fun ⟨l, k⟩ hpre => c49_pc l k hpre
/-- loop.example/g03007/laws.heldSlotS -/
noncomputable def c50 : Con := mkCon 50 false (α := (List TSlot) × Int) (fun x => (fun (l : List TSlot) (k : Int) => [encLTSlot l, dI k]) x.1 x.2) (fun _ => []) (fun x => (fun (l : List TSlot) (k : Int) => l.length ≤ 1099511627776 ∧ 0 ≤ k ∧ k ≤ 1152921504606846976) x.1 x.2) (fun x => (fun (l : List TSlot) (k : Int) => (dI (if l = mkL mk_TSlot 3 k l.length then k + 3 * l.length else -1) : D)) x.1 x.2) (fun x => (fun (l : List TSlot) (k : Int) => []) x.1 x.2)
@[simp] theorem c50_f : c50.f = 50 := rfl
@[simp] theorem c50_own : c50.own = false := rfl
theorem c50_inj : ∀ u_ v_ : (List TSlot) × Int, ((fun x => (fun (l : List TSlot) (k : Int) => [encLTSlot l, dI k]) x.1 x.2) u_).map nz = ((fun x => (fun (l : List TSlot) (k : Int) => [encLTSlot l, dI k]) x.1 x.2) v_).map nz → u_ = v_ := by
  intro u_ v_ h
  obtain ⟨l, k⟩ := u_
  obtain ⟨l', k'⟩ := v_
  simp [nz_lit, nz1_lit, nz_agg, nz_sl, nz1_sl, encLTSlot] at h
  first | (simp [h]; done) | (obtain ⟨⟩ := h; simp_all; done) | simp_all
@[simp] theorem c50_fn (l : List TSlot) (k : Int) : c50.fn [.sl false 3 yTSlot (ML encTSlot l), .lit (.int .i64 k)] [] = some ((fun (l : List TSlot) (k : Int) => l.length ≤ 1099511627776 ∧ 0 ≤ k ∧ k ≤ 1152921504606846976) l k, (fun (l : List TSlot) (k : Int) => (dI (if l = mkL mk_TSlot 3 k l.length then k + 3 * l.length else -1) : D)) l k, (fun (l : List TSlot) (k : Int) => []) l k) :=
  mkCon_fn (fun x y h _ => c50_inj x y h) ((l, k) : (List TSlot) × Int) (by simp [nz, nz1, ML_nil, encLTSlot]) rfl
@[simp] theorem c50_fn1 (s_l : Nat) (z_l : D) (k : Int) : c50.fn [.sl false s_l z_l [], .lit (.int .i64 k)] [] = some ((fun (l : List TSlot) (k : Int) => l.length ≤ 1099511627776 ∧ 0 ≤ k ∧ k ≤ 1152921504606846976) [] k, (fun (l : List TSlot) (k : Int) => (dI (if l = mkL mk_TSlot 3 k l.length then k + 3 * l.length else -1) : D)) [] k, (fun (l : List TSlot) (k : Int) => []) [] k) :=
  mkCon_fn (fun x y h _ => c50_inj x y h) (([], k) : (List TSlot) × Int) (by simp [nz, nz1, ML_nil, encLTSlot]) rfl
theorem c50_pc (l : List TSlot) (k : Int) (hpre : l.length ≤ 1099511627776 ∧ 0 ≤ k ∧ k ≤ 1152921504606846976) : PCo Try.prog 50 [encLTSlot l, dI k] (Tab.of []) (dI (if l = mkL mk_TSlot 3 k l.length then k + 3 * l.length else -1)) (Tab.of []) := by
  refine pco_of_run [] (E := ⟨[], []⟩) (m := false) (base := 0) Env.ok_nil G_ok mix 300 6 Try.func50 (by kernel_rfl) rfl (by kernel_rfl) (by kernel_rfl) rfl ?_
  simp [Try.f50]
  obtain ⟨pre1, pre2, pre3⟩ := hpre
  refine loop_inv (fun p : Nat => p ≤ l.length ∧ l.take p = (mkL mk_TSlot 3 k l.length).take p) (fun p => [(0, encLTSlot l), (1, dI (k + 3 * p)), (5, dI p)]) (fun _ => []) 1 (fun p => l.length - p) 0 100 (by simp) (by simp) (by simp) ?_
  intro p ⟨hp, hi⟩
  simp
  refine ⟨fun hlt => ?_, fun hge => ?_⟩
  · have hx := mkL_get (f := mk_TSlot) (m := 3) (k := k) (d := default) hlt
    by_cases he : l[p]?.getD default = mk_TSlot (k + 3 * (p : Int))
    · generalize hA : Again _ _ _ _ _ _ _ = A
      have hAA : A := by rw [← hA]; exact Again.mk (p + 1) ⟨by omega, take_eq_step hi (by omega) (by simp; omega) (by rw [hx]; exact he)⟩ (by simp; omega) (by first | omega | (simp; omega))
      clear hA
      simp only [he, mk_TSlot]
      repeat' (first | exact hAA | omega | refine And.intro ?_ ?_ | intro _)
      all_goals first | (exfalso; exact absurd trivial (by assumption)) | (exfalso; omega)
    · have hne : ¬ l = mkL mk_TSlot 3 k l.length := fun e => he (by rw [← hx]; exact congrArg (fun z => z[p]?.getD default) e)
      generalize Again _ _ _ _ _ _ _ = A
      repeat' (first | omega | rfl | refine And.intro ?_ ?_ | intro _)
      all_goals first | (exfalso; apply hne; assumption) | (exfalso; apply he; obtain ⟨x, hq⟩ : ∃ x, l[p]?.getD default = x := ⟨_, rfl⟩; simp only [hq] at *; obtain ⟨x1, x2, x3⟩ := x; simp [mk_TSlot] at *; omega)
  · have h4 := take_eq_full hi hge (by simp; omega)
    rw [if_pos h4]; omega
theorem c50_ok : c50.ok Try.prog := mkCon_ok fun ⟨l, k⟩ hpre => c50_pc l k hpre
def isFree (s : TSlot) : Bool := decide (s.Thing = 0)
def mLargest (l : List TSlot) : Int := l.foldl (fun n s => if s.Thing = 0 then max n s.Size else n) 0
theorem mLargest_at {l : List TSlot} {p : Nat} (h : p < l.length) : mLargest (l.take (p + 1)) = if (l[p]?.getD default).Thing = 0 then max (mLargest (l.take p)) (l[p]?.getD default).Size else mLargest (l.take p) := by
  simp only [mLargest]; rw [foldl_at (d := default) h]
end Go.Proofs.Ytkccphdoolpmaaa
