/- Contracts of the functions that the laws run. -/
import Derived.Test.Ytdemoobiiijmoaach04
import Derived.Test.YtdemoobiiijmoaaEngB
namespace Go.Proofs.Ytdemoobiiijmoaa
open Go Go.Eng
set_option linter.unusedSimpArgs false
set_option linter.unusedVariables false
set_option maxRecDepth 10000
set_option maxHeartbeats 1000000
/-- loop.example/g03007/laws.toSlot -/
noncomputable def c31 : Con := mkCon 31 false (α := TSlot) (fun x => (fun (a : TSlot) => [encTSlot a]) x) (fun _ => []) (fun x => (fun (a : TSlot) => True) x) (fun x => (fun (a : TSlot) => (encTSlot a : D)) x) (fun x => (fun (a : TSlot) => []) x)
@[simp] theorem c31_f : c31.f = 31 := rfl
@[simp] theorem c31_own : c31.own = false := rfl
theorem c31_inj : ∀ u_ v_ : TSlot, ((fun x => (fun (a : TSlot) => [encTSlot a]) x) u_).map nz = ((fun x => (fun (a : TSlot) => [encTSlot a]) x) v_).map nz → u_ = v_ := by
  intro u_ v_ h
  obtain ⟨a_Id, a_Size, a_Thing⟩ := u_
  obtain ⟨a_Id', a_Size', a_Thing'⟩ := v_
  simp [nz_lit, nz1_lit, nz_agg, nz_sl, nz1_sl, encTSlot] at h
  first | (simp [h]; done) | (obtain ⟨⟩ := h; simp_all; done) | simp_all
@[simp] theorem c31_fn (a_Id : Int) (a_Size : Int) (a_Thing : Int) : c31.fn [.agg [.lit (.int .i64 a_Id), .lit (.int .i64 a_Size), .lit (.int .i64 a_Thing)]] [] = some ((fun (a : TSlot) => True) ⟨a_Id, a_Size, a_Thing⟩, (fun (a : TSlot) => (encTSlot a : D)) ⟨a_Id, a_Size, a_Thing⟩, (fun (a : TSlot) => []) ⟨a_Id, a_Size, a_Thing⟩) :=
  mkCon_fn (fun x y h _ => c31_inj x y h) (⟨a_Id, a_Size, a_Thing⟩ : TSlot) (by simp [nz, nz1, ML_nil, encTSlot]) rfl
theorem c31_pc (a : TSlot) : PCo Try.prog 31 [encTSlot a] (Tab.of []) (encTSlot a) (Tab.of []) := by
  obtain ⟨a_Id, a_Size, a_Thing⟩ := a
  refine pco_of_run [] (E := ⟨[], [], []⟩) (m := false) (base := 0) Env.ok_nil G_ok mix 300 6 Try.func31 (by kernel_rfl) rfl (by kernel_rfl) (by kernel_rfl) rfl ?_
  simp [Try.f31]
  all_goals first | omega | (rw [Bool.eq_iff_iff]; simp; omega) | grind
theorem c31_ok : c31.ok Try.prog := mkCon_ok fun a hpre => c31_pc a
/-- loop.example/g03007/laws.eqSlot -/
noncomputable def c33 : Con := mkCon 33 false (α := TSlot × TSlot) (fun x => (fun (a : TSlot) (b : TSlot) => [encTSlot a, encTSlot b]) x.1 x.2) (fun _ => []) (fun x => (fun (a : TSlot) (b : TSlot) => True) x.1 x.2) (fun x => (fun (a : TSlot) (b : TSlot) => (dB (decide (a = b)) : D)) x.1 x.2) (fun x => (fun (a : TSlot) (b : TSlot) => []) x.1 x.2)
@[simp] theorem c33_f : c33.f = 33 := rfl
@[simp] theorem c33_own : c33.own = false := rfl
theorem c33_inj : ∀ u_ v_ : TSlot × TSlot, ((fun x => (fun (a : TSlot) (b : TSlot) => [encTSlot a, encTSlot b]) x.1 x.2) u_).map nz = ((fun x => (fun (a : TSlot) (b : TSlot) => [encTSlot a, encTSlot b]) x.1 x.2) v_).map nz → u_ = v_ := by
  intro u_ v_ h
  obtain ⟨⟨a_Id, a_Size, a_Thing⟩, ⟨b_Id, b_Size, b_Thing⟩⟩ := u_
  obtain ⟨⟨a_Id', a_Size', a_Thing'⟩, ⟨b_Id', b_Size', b_Thing'⟩⟩ := v_
  simp [nz_lit, nz1_lit, nz_agg, nz_sl, nz1_sl, encTSlot] at h
  first | (simp [h]; done) | (obtain ⟨⟩ := h; simp_all; done) | simp_all
@[simp] theorem c33_fn (a_Id : Int) (a_Size : Int) (a_Thing : Int) (b_Id : Int) (b_Size : Int) (b_Thing : Int) : c33.fn [.agg [.lit (.int .i64 a_Id), .lit (.int .i64 a_Size), .lit (.int .i64 a_Thing)], .agg [.lit (.int .i64 b_Id), .lit (.int .i64 b_Size), .lit (.int .i64 b_Thing)]] [] = some ((fun (a : TSlot) (b : TSlot) => True) ⟨a_Id, a_Size, a_Thing⟩ ⟨b_Id, b_Size, b_Thing⟩, (fun (a : TSlot) (b : TSlot) => (dB (decide (a = b)) : D)) ⟨a_Id, a_Size, a_Thing⟩ ⟨b_Id, b_Size, b_Thing⟩, (fun (a : TSlot) (b : TSlot) => []) ⟨a_Id, a_Size, a_Thing⟩ ⟨b_Id, b_Size, b_Thing⟩) :=
  mkCon_fn (fun x y h _ => c33_inj x y h) ((⟨a_Id, a_Size, a_Thing⟩, ⟨b_Id, b_Size, b_Thing⟩) : TSlot × TSlot) (by simp [nz, nz1, ML_nil, encTSlot]) rfl
theorem c33_pc (a : TSlot) (b : TSlot) : PCo Try.prog 33 [encTSlot a, encTSlot b] (Tab.of []) (dB (decide (a = b))) (Tab.of []) := by
  obtain ⟨a_Id, a_Size, a_Thing⟩ := a
  obtain ⟨b_Id, b_Size, b_Thing⟩ := b
  refine pco_of_run [] (E := ⟨[], [], []⟩) (m := false) (base := 0) Env.ok_nil G_ok mix 300 6 Try.func33 (by kernel_rfl) rfl (by kernel_rfl) (by kernel_rfl) rfl ?_
  simp [Try.f33]
  all_goals first | omega | (rw [Bool.eq_iff_iff]; simp; omega) | grind
theorem c33_ok : c33.ok Try.prog := mkCon_ok fun ⟨a, b⟩ hpre => c33_pc a b
/-- loop.example/g03007/laws.szSlotS -/
noncomputable def c8 : Con := mkCon 8 false (α := (List TSlot) × Int) (fun x => (fun (l : List TSlot) (left : Int) => [encLTSlot l, dI left]) x.1 x.2) (fun _ => []) (fun x => (fun (l : List TSlot) (left : Int) => l.length ≤ maxLen ∧ 0 ≤ left ∧ left ≤ 1099511627776) x.1 x.2) (fun x => (fun (l : List TSlot) (left : Int) => (dI (if left - l.length < 0 then -1 else left - l.length) : D)) x.1 x.2) (fun x => (fun (l : List TSlot) (left : Int) => []) x.1 x.2)
@[simp] theorem c8_f : c8.f = 8 := rfl
@[simp] theorem c8_own : c8.own = false := rfl
theorem c8_inj : ∀ u_ v_ : (List TSlot) × Int, ((fun x => (fun (l : List TSlot) (left : Int) => [encLTSlot l, dI left]) x.1 x.2) u_).map nz = ((fun x => (fun (l : List TSlot) (left : Int) => [encLTSlot l, dI left]) x.1 x.2) v_).map nz → u_ = v_ := by
  intro u_ v_ h
  obtain ⟨l, left⟩ := u_
  obtain ⟨l', left'⟩ := v_
  simp [nz_lit, nz1_lit, nz_agg, nz_sl, nz1_sl, encLTSlot] at h
  first | (simp [h]; done) | (obtain ⟨⟩ := h; simp_all; done) | simp_all
@[simp] theorem c8_fn (l : List TSlot) (left : Int) : c8.fn [.sl false 3 yTSlot (ML encTSlot l), .lit (.int .i64 left)] [] = some ((fun (l : List TSlot) (left : Int) => l.length ≤ maxLen ∧ 0 ≤ left ∧ left ≤ 1099511627776) l left, (fun (l : List TSlot) (left : Int) => (dI (if left - l.length < 0 then -1 else left - l.length) : D)) l left, (fun (l : List TSlot) (left : Int) => []) l left) :=
  mkCon_fn (fun x y h _ => c8_inj x y h) ((l, left) : (List TSlot) × Int) (by simp [nz, nz1, ML_nil, encLTSlot]) rfl
@[simp] theorem c8_fn1 (s_l : Nat) (z_l : D) (left : Int) : c8.fn [.sl false s_l z_l [], .lit (.int .i64 left)] [] = some ((fun (l : List TSlot) (left : Int) => l.length ≤ maxLen ∧ 0 ≤ left ∧ left ≤ 1099511627776) [] left, (fun (l : List TSlot) (left : Int) => (dI (if left - l.length < 0 then -1 else left - l.length) : D)) [] left, (fun (l : List TSlot) (left : Int) => []) [] left) :=
  mkCon_fn (fun x y h _ => c8_inj x y h) (([], left) : (List TSlot) × Int) (by simp [nz, nz1, ML_nil, encLTSlot]) rfl
theorem c8_pc (l : List TSlot) (left : Int) (hpre : l.length ≤ maxLen ∧ 0 ≤ left ∧ left ≤ 1099511627776) : PCo Try.prog 8 [encLTSlot l, dI left] (Tab.of []) (dI (if left - l.length < 0 then -1 else left - l.length)) (Tab.of []) := by
  refine pco_of_run [] (E := ⟨[], [], []⟩) (m := false) (base := 0) Env.ok_nil G_ok mix 300 6 Try.func8 (by kernel_rfl) rfl (by kernel_rfl) (by kernel_rfl) rfl ?_
  simp [Try.f8]
  simp [maxLen] at hpre
  all_goals omega
theorem c8_ok : c8.ok Try.prog := mkCon_ok fun ⟨l, left⟩ hpre => c8_pc l left hpre
/-- loop.example/g03007/laws.toSlotS -/
noncomputable def c10 : Con := mkCon 10 false (α := (List TSlot)) (fun x => (fun (l : List TSlot) => [encLTSlot l]) x) (fun _ => []) (fun x => (fun (l : List TSlot) => l.length ≤ 1099511627776) x) (fun x => (fun (l : List TSlot) => (.own (0, 1) 3 0 l.length : D)) x) (fun x => (fun (l : List TSlot) => [((0, 1), .arr false 3 yTSlot (ML encTSlot l))]) x)
@[simp] theorem c10_f : c10.f = 10 := rfl
@[simp] theorem c10_own : c10.own = false := rfl
theorem c10_inj : ∀ u_ v_ : (List TSlot), ((fun x => (fun (l : List TSlot) => [encLTSlot l]) x) u_).map nz = ((fun x => (fun (l : List TSlot) => [encLTSlot l]) x) v_).map nz → u_ = v_ := by
  intro u_ v_ h
  obtain l := u_
  obtain l' := v_
  simp [nz_lit, nz1_lit, nz_agg, nz_sl, nz1_sl, encLTSlot] at h
  first | (simp [h]; done) | (obtain ⟨⟩ := h; simp_all; done) | simp_all
@[simp] theorem c10_fn (l : List TSlot) : c10.fn [.sl false 3 yTSlot (ML encTSlot l)] [] = some ((fun (l : List TSlot) => l.length ≤ 1099511627776) l, (fun (l : List TSlot) => (.own (0, 1) 3 0 l.length : D)) l, (fun (l : List TSlot) => [((0, 1), .arr false 3 yTSlot (ML encTSlot l))]) l) :=
  mkCon_fn (fun x y h _ => c10_inj x y h) (l : (List TSlot)) (by simp [nz, nz1, ML_nil, encLTSlot]) rfl
@[simp] theorem c10_fn1 (s_l : Nat) (z_l : D) : c10.fn [.sl false s_l z_l []] [] = some ((fun (l : List TSlot) => l.length ≤ 1099511627776) [], (fun (l : List TSlot) => (.own (0, 1) 3 0 l.length : D)) [], (fun (l : List TSlot) => [((0, 1), .arr false 3 yTSlot (ML encTSlot l))]) []) :=
  mkCon_fn (fun x y h _ => c10_inj x y h) ([] : (List TSlot)) (by simp [nz, nz1, ML_nil, encLTSlot]) rfl
theorem c10_pc (l : List TSlot) (hpre : l.length ≤ 1099511627776) : PCo Try.prog 10 [encLTSlot l] (Tab.of []) (.own (0, 1) 3 0 l.length) (Tab.of [((0, 1), .arr false 3 yTSlot (ML encTSlot l))]) := by
  refine pco_of_run [] (E := ⟨[c31], [], []⟩) (m := false) (base := 0) (Env.ok_cons c31_ok Env.ok_nil) G_ok mix 300 6 Try.func10 (by kernel_rfl) rfl (by kernel_rfl) (by kernel_rfl) rfl ?_
  simp [Try.f10]
  refine ⟨by omega, ?_⟩
  refine loop_inv (fun p : Nat => p ≤ l.length) (fun p => [(0, encLTSlot l), (3, .own (0, 1) 3 0 l.length), (4, dI p)]) (fun p => [((0, 1), .arr false 3 yTSlot (ML encTSlot (l.take p ++ List.replicate (l.length - p) ⟨0, 0, 0⟩)))]) 2 (fun p => l.length - p) 0 100 (by simp) (by simp) (by first | (simp; done) | (simp; simp only [ML, List.map_replicate]; rfl)) ?_
  intro p hp
  simp
  refine ⟨fun hlt => ⟨by omega, by omega, Again.mk (p + 1) (by omega) (by simp [fill_step hlt]) (by first | omega | (simp; omega))⟩, fun hge => ?_⟩
  have : p = l.length := by omega
  subst this
  simp
theorem c10_ok : c10.ok Try.prog := mkCon_ok fun l hpre => c10_pc l hpre
/-- loop.example/g03007/laws.eqSlotS -/
noncomputable def c12 : Con := mkCon 12 false (α := (List TSlot) × (List TSlot)) (fun x => (fun (a : List TSlot) (b : List TSlot) => [encLTSlot a, encLTSlot b]) x.1 x.2) (fun _ => []) (fun x => (fun (a : List TSlot) (b : List TSlot) => a.length ≤ 1099511627776 ∧ b.length ≤ 1099511627776) x.1 x.2) (fun x => (fun (a : List TSlot) (b : List TSlot) => (dB (decide (a = b)) : D)) x.1 x.2) (fun x => (fun (a : List TSlot) (b : List TSlot) => []) x.1 x.2)
@[simp] theorem c12_f : c12.f = 12 := rfl
@[simp] theorem c12_own : c12.own = false := rfl
theorem c12_inj : ∀ u_ v_ : (List TSlot) × (List TSlot), ((fun x => (fun (a : List TSlot) (b : List TSlot) => [encLTSlot a, encLTSlot b]) x.1 x.2) u_).map nz = ((fun x => (fun (a : List TSlot) (b : List TSlot) => [encLTSlot a, encLTSlot b]) x.1 x.2) v_).map nz → u_ = v_ := by
  intro u_ v_ h
  obtain ⟨a, b⟩ := u_
  obtain ⟨a', b'⟩ := v_
  simp [nz_lit, nz1_lit, nz_agg, nz_sl, nz1_sl, encLTSlot] at h
  first | (simp [h]; done) | (obtain ⟨⟩ := h; simp_all; done) | simp_all
@[simp] theorem c12_fn (a : List TSlot) (b : List TSlot) : c12.fn [.sl false 3 yTSlot (ML encTSlot a), .sl false 3 yTSlot (ML encTSlot b)] [] = some ((fun (a : List TSlot) (b : List TSlot) => a.length ≤ 1099511627776 ∧ b.length ≤ 1099511627776) a b, (fun (a : List TSlot) (b : List TSlot) => (dB (decide (a = b)) : D)) a b, (fun (a : List TSlot) (b : List TSlot) => []) a b) :=
  mkCon_fn (fun x y h _ => c12_inj x y h) ((a, b) : (List TSlot) × (List TSlot)) (by simp [nz, nz1, ML_nil, encLTSlot]) rfl
@[simp] theorem c12_fn1 (s_a : Nat) (z_a : D) (b : List TSlot) : c12.fn [.sl false s_a z_a [], .sl false 3 yTSlot (ML encTSlot b)] [] = some ((fun (a : List TSlot) (b : List TSlot) => a.length ≤ 1099511627776 ∧ b.length ≤ 1099511627776) [] b, (fun (a : List TSlot) (b : List TSlot) => (dB (decide (a = b)) : D)) [] b, (fun (a : List TSlot) (b : List TSlot) => []) [] b) :=
  mkCon_fn (fun x y h _ => c12_inj x y h) (([], b) : (List TSlot) × (List TSlot)) (by simp [nz, nz1, ML_nil, encLTSlot]) rfl
@[simp] theorem c12_fn2 (a : List TSlot) (s_b : Nat) (z_b : D) : c12.fn [.sl false 3 yTSlot (ML encTSlot a), .sl false s_b z_b []] [] = some ((fun (a : List TSlot) (b : List TSlot) => a.length ≤ 1099511627776 ∧ b.length ≤ 1099511627776) a [], (fun (a : List TSlot) (b : List TSlot) => (dB (decide (a = b)) : D)) a [], (fun (a : List TSlot) (b : List TSlot) => []) a []) :=
  mkCon_fn (fun x y h _ => c12_inj x y h) ((a, []) : (List TSlot) × (List TSlot)) (by simp [nz, nz1, ML_nil, encLTSlot]) rfl
@[simp] theorem c12_fn3 (s_a : Nat) (z_a : D) (s_b : Nat) (z_b : D) : c12.fn [.sl false s_a z_a [], .sl false s_b z_b []] [] = some ((fun (a : List TSlot) (b : List TSlot) => a.length ≤ 1099511627776 ∧ b.length ≤ 1099511627776) [] [], (fun (a : List TSlot) (b : List TSlot) => (dB (decide (a = b)) : D)) [] [], (fun (a : List TSlot) (b : List TSlot) => []) [] []) :=
  mkCon_fn (fun x y h _ => c12_inj x y h) (([], []) : (List TSlot) × (List TSlot)) (by simp [nz, nz1, ML_nil, encLTSlot]) rfl
theorem c12_pc (a : List TSlot) (b : List TSlot) (hpre : a.length ≤ 1099511627776 ∧ b.length ≤ 1099511627776) : PCo Try.prog 12 [encLTSlot a, encLTSlot b] (Tab.of []) (dB (decide (a = b))) (Tab.of []) := by
  refine pco_of_run [] (E := ⟨[c33], [], []⟩) (m := false) (base := 0) (Env.ok_cons c33_ok Env.ok_nil) G_ok mix 300 6 Try.func12 (by kernel_rfl) rfl (by kernel_rfl) (by kernel_rfl) rfl ?_
  simp [Try.f12]
  obtain ⟨pre1, pre2⟩ := hpre
  refine ⟨fun h => ?_, fun h => by intro e; subst e; exact absurd rfl h⟩
  refine loop_inv (fun p : Nat => p ≤ a.length ∧ a.take p = b.take p) (fun p => [(0, encLTSlot a), (1, encLTSlot b), (5, dI p)]) (fun _ => []) 1 (fun p => a.length - p) 0 100 (by simp) (by simp) (by simp) ?_
  intro p ⟨hp, hi⟩
  simp
  refine ⟨fun hlt => ⟨by omega, fun h2 => ⟨by omega, Again.mk (p + 1) ⟨by omega, take_eq_step hi (by omega) (by omega) h2⟩ (by simp) (by first | omega | (simp; omega))⟩, fun h2 => by intro e; subst e; exact absurd rfl h2⟩, fun hge => ?_⟩
  exact take_eq_full hi (by omega) (by omega)
theorem c12_ok : c12.ok Try.prog := mkCon_ok fun ⟨a, b⟩ hpre => c12_pc a b hpre
abbrev mk_TSlot : Int → TSlot := fun n => ⟨n, n + 1, n + 2⟩
/-- loop.example/g03007/laws.markSlotS -/
noncomputable def c16 : Con := mkCon 16 true (α := (List TSlot) × Int) (fun x => (fun (l : List TSlot) (k : Int) => ([.own (0, 0) 3 0 l.length, dI k] : List D)) x.1 x.2) (fun x => (fun (l : List TSlot) (k : Int) => ([((0, 0), .arr false 3 yTSlot (ML encTSlot l))] : List (Nm × OO))) x.1 x.2) (fun x => (fun (l : List TSlot) (k : Int) => l.length ≤ 1099511627776 ∧ 0 ≤ k ∧ k ≤ 1152921504606846976) x.1 x.2) (fun x => (fun (l : List TSlot) (k : Int) => (dI (k + 3 * l.length) : D)) x.1 x.2) (fun x => (fun (l : List TSlot) (k : Int) => ([((0, 0), .arr false 3 yTSlot (ML encTSlot (mkL mk_TSlot 3 k l.length)))] : List (Nm × OO))) x.1 x.2)
@[simp] theorem c16_f : c16.f = 16 := rfl
@[simp] theorem c16_own : c16.own = true := rfl
theorem c16_inj : ∀ u_ v_ : (List TSlot) × Int, ((fun x => (fun (l : List TSlot) (k : Int) => ([.own (0, 0) 3 0 l.length, dI k] : List D)) x.1 x.2) u_).map nz = ((fun x => (fun (l : List TSlot) (k : Int) => ([.own (0, 0) 3 0 l.length, dI k] : List D)) x.1 x.2) v_).map nz → (fun x => (fun (l : List TSlot) (k : Int) => ([((0, 0), .arr false 3 yTSlot (ML encTSlot l))] : List (Nm × OO))) x.1 x.2) u_ = (fun x => (fun (l : List TSlot) (k : Int) => ([((0, 0), .arr false 3 yTSlot (ML encTSlot l))] : List (Nm × OO))) x.1 x.2) v_ → u_ = v_ := by
  intro u_ v_ h h2_
  obtain ⟨l, k⟩ := u_
  obtain ⟨l', k'⟩ := v_
  simp [nz_lit, nz1_lit, nz_agg, nz_sl, nz1_sl, nz_sx, nz_el, nz1_el, nz_own, nz1_own, nz_ptr, nz_fn, nz_iface] at h h2_
  first | (simp [h, h2_]; done) | (obtain ⟨h3_, h4_⟩ := List.append_inj h2_ h.1; simp_all; done) | simp_all | grind
@[simp] theorem c16_fn (l : List TSlot) (k : Int) : c16.fn ([.own (0, 0) 3 0 l.length, dI k]) ([((0, 0), .arr false 3 yTSlot (ML encTSlot l))]) = some (l.length ≤ 1099511627776 ∧ 0 ≤ k ∧ k ≤ 1152921504606846976, dI (k + 3 * l.length), [((0, 0), .arr false 3 yTSlot (ML encTSlot (mkL mk_TSlot 3 k l.length)))]) :=
  mkCon_fn c16_inj ((l, k) : (List TSlot) × Int) rfl rfl
theorem c16_pc (l : List TSlot) (k : Int) (hpre : l.length ≤ 1099511627776 ∧ 0 ≤ k ∧ k ≤ 1152921504606846976) : PCo Try.prog 16 ([.own (0, 0) 3 0 l.length, dI k]) (Tab.of ([((0, 0), .arr false 3 yTSlot (ML encTSlot l))])) (dI (k + 3 * l.length)) (Tab.of ([((0, 0), .arr false 3 yTSlot (ML encTSlot (mkL mk_TSlot 3 k l.length)))])) := by
  refine pco_of_run [] (E := ⟨[], [], []⟩) (m := false) (base := 0) Env.ok_nil G_ok mix 300 6 Try.func16 (by kernel_rfl) rfl (by kernel_rfl) (by kernel_rfl) rfl ?_
  simp [Try.f16]
  obtain ⟨pre1, pre2, pre3⟩ := hpre
  refine loop_inv (fun p : Nat => p ≤ l.length) (fun p => [(0, .own (0, 0) 3 0 l.length), (1, dI (k + 3 * p)), (5, dI p)]) (fun p => [((0, 0), .arr false 3 yTSlot (ML encTSlot (mkL mk_TSlot 3 k p ++ l.drop p)))]) 2 (fun p => l.length - p) 0 100 (by simp) (by simp) (by simp) ?_
  intro p hp
  simp
  have hs : ∀ x, x = mk_TSlot (k + 3 * (p : Int)) → p < l.length → mkL mk_TSlot 3 k p ++ (l.drop p).set 0 x = mkL mk_TSlot 3 k (p + 1) ++ l.drop (p + 1) := fun x hx hlt => mark_step0 hlt hx
  refine ⟨fun hlt => ?_, fun hge => ?_⟩
  · repeat' (first | omega | refine And.intro ?_ ?_ | intro _)
    all_goals refine Again.mk (p + 1) (by omega) ?_ (by first | omega | (simp; omega))
    all_goals (rw [hs _ (by simp [mark_get0 hlt, mark_get hlt]; first | done | omega) hlt]; simp; omega)
  have : p = l.length := by omega
  subst this
  simp
  trace_state
theorem c16_ok : c16.ok Try.prog := mkCon_ok fun ⟨l, k⟩ hpre => c16_pc l k hpre
/-- loop.example/g03007/laws.heldSlotS -/
noncomputable def c17 : Con := mkCon 17 false (α := (List TSlot) × Int) (fun x => (fun (l : List TSlot) (k : Int) => [encLTSlot l, dI k]) x.1 x.2) (fun _ => []) (fun x => (fun (l : List TSlot) (k : Int) => l.length ≤ 1099511627776 ∧ 0 ≤ k ∧ k ≤ 1152921504606846976) x.1 x.2) (fun x => (fun (l : List TSlot) (k : Int) => (dI (if l = mkL mk_TSlot 3 k l.length then k + 3 * l.length else -1) : D)) x.1 x.2) (fun x => (fun (l : List TSlot) (k : Int) => []) x.1 x.2)
@[simp] theorem c17_f : c17.f = 17 := rfl
@[simp] theorem c17_own : c17.own = false := rfl
theorem c17_inj : ∀ u_ v_ : (List TSlot) × Int, ((fun x => (fun (l : List TSlot) (k : Int) => [encLTSlot l, dI k]) x.1 x.2) u_).map nz = ((fun x => (fun (l : List TSlot) (k : Int) => [encLTSlot l, dI k]) x.1 x.2) v_).map nz → u_ = v_ := by
  intro u_ v_ h
  obtain ⟨l, k⟩ := u_
  obtain ⟨l', k'⟩ := v_
  simp [nz_lit, nz1_lit, nz_agg, nz_sl, nz1_sl, encLTSlot] at h
  first | (simp [h]; done) | (obtain ⟨⟩ := h; simp_all; done) | simp_all
@[simp] theorem c17_fn (l : List TSlot) (k : Int) : c17.fn [.sl false 3 yTSlot (ML encTSlot l), .lit (.int .i64 k)] [] = some ((fun (l : List TSlot) (k : Int) => l.length ≤ 1099511627776 ∧ 0 ≤ k ∧ k ≤ 1152921504606846976) l k, (fun (l : List TSlot) (k : Int) => (dI (if l = mkL mk_TSlot 3 k l.length then k + 3 * l.length else -1) : D)) l k, (fun (l : List TSlot) (k : Int) => []) l k) :=
  mkCon_fn (fun x y h _ => c17_inj x y h) ((l, k) : (List TSlot) × Int) (by simp [nz, nz1, ML_nil, encLTSlot]) rfl
@[simp] theorem c17_fn1 (s_l : Nat) (z_l : D) (k : Int) : c17.fn [.sl false s_l z_l [], .lit (.int .i64 k)] [] = some ((fun (l : List TSlot) (k : Int) => l.length ≤ 1099511627776 ∧ 0 ≤ k ∧ k ≤ 1152921504606846976) [] k, (fun (l : List TSlot) (k : Int) => (dI (if l = mkL mk_TSlot 3 k l.length then k + 3 * l.length else -1) : D)) [] k, (fun (l : List TSlot) (k : Int) => []) [] k) :=
  mkCon_fn (fun x y h _ => c17_inj x y h) (([], k) : (List TSlot) × Int) (by simp [nz, nz1, ML_nil, encLTSlot]) rfl
theorem c17_pc (l : List TSlot) (k : Int) (hpre : l.length ≤ 1099511627776 ∧ 0 ≤ k ∧ k ≤ 1152921504606846976) : PCo Try.prog 17 [encLTSlot l, dI k] (Tab.of []) (dI (if l = mkL mk_TSlot 3 k l.length then k + 3 * l.length else -1)) (Tab.of []) := by
  refine pco_of_run [] (E := ⟨[], [], []⟩) (m := false) (base := 0) Env.ok_nil G_ok mix 300 6 Try.func17 (by kernel_rfl) rfl (by kernel_rfl) (by kernel_rfl) rfl ?_
  simp [Try.f17]
  obtain ⟨pre1, pre2, pre3⟩ := hpre
  refine loop_inv (fun p : Nat => p ≤ l.length ∧ l.take p = (mkL mk_TSlot 3 k l.length).take p) (fun p => [(0, encLTSlot l), (1, dI (k + 3 * p)), (5, dI p)]) (fun _ => []) 1 (fun p => l.length - p) 0 100 (by simp) (by simp) (by simp) ?_
  intro p ⟨hp, hi⟩
  simp
  refine ⟨fun hlt => ?_, fun hge => ?_⟩
  · have hx := mkL_get (f := mk_TSlot) (m := 3) (k := k) (d := default) hlt
    by_cases he : l[p]?.getD default = mk_TSlot (k + 3 * (p : Int))
    · generalize hA : Again _ _ _ _ _ _ _ = A
      have hAA : A := by rw [← hA]; exact Again.mk (p + 1) ⟨by omega, take_eq_step hi (by omega) (by simp; omega) (by rw [hx]; exact he)⟩ (by simp; omega) (by first | omega | (simp; omega))
      clear hA
      simp only [he, mk_TSlot]
      repeat' (first | exact hAA | omega | refine And.intro ?_ ?_ | intro _)
      all_goals first | (exfalso; exact absurd trivial (by assumption)) | (exfalso; omega)
    · have hne : ¬ l = mkL mk_TSlot 3 k l.length := fun e => he (by rw [← hx]; exact congrArg (fun z => z[p]?.getD default) e)
      generalize Again _ _ _ _ _ _ _ = A
      repeat' (first | omega | rfl | refine And.intro ?_ ?_ | intro _)
      all_goals first | (exfalso; apply hne; assumption) | (exfalso; apply he; obtain ⟨x, hq⟩ : ∃ x, l[p]?.getD default = x := ⟨_, rfl⟩; simp only [hq] at *; obtain ⟨x1, x2, x3⟩ := x; simp [mk_TSlot] at *; omega)
  · have h4 := take_eq_full hi hge (by simp; omega)
    rw [if_pos h4]; omega
theorem c17_ok : c17.ok Try.prog := mkCon_ok fun ⟨l, k⟩ hpre => c17_pc l k hpre
def isFree (s : TSlot) : Bool := decide (s.Thing = 0)
/-- (loop.example/g03007/impl.Slot).isFree -/
noncomputable def c50 : Con := mkCon 50 false (α := TSlot) (fun x => (fun (s : TSlot) => [encTSlot s]) x) (fun _ => []) (fun x => (fun (s : TSlot) => True) x) (fun x => (fun (s : TSlot) => (dB (isFree s) : D)) x) (fun x => (fun (s : TSlot) => []) x)
@[simp] theorem c50_f : c50.f = 50 := rfl
@[simp] theorem c50_own : c50.own = false := rfl
theorem c50_inj : ∀ u_ v_ : TSlot, ((fun x => (fun (s : TSlot) => [encTSlot s]) x) u_).map nz = ((fun x => (fun (s : TSlot) => [encTSlot s]) x) v_).map nz → u_ = v_ := by
  intro u_ v_ h
  obtain ⟨s_Id, s_Size, s_Thing⟩ := u_
  obtain ⟨s_Id', s_Size', s_Thing'⟩ := v_
  simp [nz_lit, nz1_lit, nz_agg, nz_sl, nz1_sl, encTSlot] at h
  first | (simp [h]; done) | (obtain ⟨⟩ := h; simp_all; done) | simp_all
@[simp] theorem c50_fn (s_Id : Int) (s_Size : Int) (s_Thing : Int) : c50.fn [.agg [.lit (.int .i64 s_Id), .lit (.int .i64 s_Size), .lit (.int .i64 s_Thing)]] [] = some ((fun (s : TSlot) => True) ⟨s_Id, s_Size, s_Thing⟩, (fun (s : TSlot) => (dB (isFree s) : D)) ⟨s_Id, s_Size, s_Thing⟩, (fun (s : TSlot) => []) ⟨s_Id, s_Size, s_Thing⟩) :=
  mkCon_fn (fun x y h _ => c50_inj x y h) (⟨s_Id, s_Size, s_Thing⟩ : TSlot) (by simp [nz, nz1, ML_nil, encTSlot]) rfl
theorem c50_pc (s : TSlot) : PCo Try.prog 50 [encTSlot s] (Tab.of []) (dB (isFree s)) (Tab.of []) := by
  obtain ⟨s_Id, s_Size, s_Thing⟩ := s
  refine pco_of_run [] (E := ⟨[], [], []⟩) (m := false) (base := 0) Env.ok_nil G_ok mix 300 6 Try.func50 (by kernel_rfl) rfl (by kernel_rfl) (by kernel_rfl) rfl ?_
  simp [Try.f50]
  first | done | rfl
theorem c50_ok : c50.ok Try.prog := mkCon_ok fun s hpre => c50_pc s
def mLargest (l : List TSlot) : Int := l.foldl (fun n s => if s.Thing = 0 then max n s.Size else n) 0
theorem mLargest_at {l : List TSlot} {p : Nat} (h : p < l.length) : mLargest (l.take (p + 1)) = if (l[p]?.getD default).Thing = 0 then max (mLargest (l.take p)) (l[p]?.getD default).Size else mLargest (l.take p) := by
  simp only [mLargest]; rw [foldl_at (d := default) h]
end Go.Proofs.Ytdemoobiiijmoaa
