/- Contracts of the functions that the laws run. -/
import Derived.Test.Ytadipfpojlceeaach01a
import Derived.Test.YtadipfpojlceeaaEngB
namespace Go.Proofs.Ytadipfpojlceeaa
open Go Go.Eng
set_option linter.unusedSimpArgs false
set_option linter.unusedVariables false
set_option maxRecDepth 10000
set_option maxHeartbeats 1000000
/-- loop.example/g03007/laws.toInner -/
noncomputable def c131 : Con := mkCon 131 false (α := TInner) (fun x => (fun (a : TInner) => [encTInner a]) x) (fun _ => []) (fun x => (fun (a : TInner) => True) x) (fun x => (fun (a : TInner) => (encTInner a : D)) x) (fun x => (fun (a : TInner) => []) x)
@[simp] theorem c131_f : c131.f = 131 := rfl
@[simp] theorem c131_own : c131.own = false := rfl
theorem c131_inj : ∀ u_ v_ : TInner, ((fun x => (fun (a : TInner) => [encTInner a]) x) u_).map nz = ((fun x => (fun (a : TInner) => [encTInner a]) x) v_).map nz → u_ = v_ := by
  intro u_ v_ h
  obtain ⟨a_Outer, a_Thing⟩ := u_
  obtain ⟨a_Outer', a_Thing'⟩ := v_
  simp [nz_lit, nz1_lit, nz_agg, nz_sl, nz1_sl, encTInner] at h
  first | (simp [h]; done) | (obtain ⟨⟩ := h; simp_all; done) | simp_all
@[simp] theorem c131_fn (a_Outer : Int) (a_Thing : Int) : c131.fn [.agg [.lit (.int .i64 a_Outer), .lit (.int .i64 a_Thing)]] [] = some ((fun (a : TInner) => True) ⟨a_Outer, a_Thing⟩, (fun (a : TInner) => (encTInner a : D)) ⟨a_Outer, a_Thing⟩, (fun (a : TInner) => []) ⟨a_Outer, a_Thing⟩) :=
  mkCon_fn (fun x y h _ => c131_inj x y h) (⟨a_Outer, a_Thing⟩ : TInner) (by simp [nz, nz1, ML_nil, encTInner]) rfl
theorem c131_pc (a : TInner) : PCo Try.prog 131 [encTInner a] (Tab.of []) (encTInner a) (Tab.of []) := by
  obtain ⟨a_Outer, a_Thing⟩ := a
  refine pco_of_run [] (E := ⟨[], []⟩) (m := false) (base := 0) Env.ok_nil G_ok mix 300 6 Try.func131 (by kernel_rfl) rfl (by kernel_rfl) (by kernel_rfl) rfl ?_
  simp [Try.f131]
  all_goals first | omega | (rw [Bool.eq_iff_iff]; simp; omega) | grind
theorem c131_ok : c131.ok Try.prog := mkCon_ok fun a hpre => c131_pc a
/-- loop.example/g03007/laws.eqInner -/
noncomputable def c133 : Con := mkCon 133 false (α := TInner × TInner) (fun x => (fun (a : TInner) (b : TInner) => [encTInner a, encTInner b]) x.1 x.2) (fun _ => []) (fun x => (fun (a : TInner) (b : TInner) => True) x.1 x.2) (fun x => (fun (a : TInner) (b : TInner) => (dB (decide (a = b)) : D)) x.1 x.2) (fun x => (fun (a : TInner) (b : TInner) => []) x.1 x.2)
@[simp] theorem c133_f : c133.f = 133 := rfl
@[simp] theorem c133_own : c133.own = false := rfl
theorem c133_inj : ∀ u_ v_ : TInner × TInner, ((fun x => (fun (a : TInner) (b : TInner) => [encTInner a, encTInner b]) x.1 x.2) u_).map nz = ((fun x => (fun (a : TInner) (b : TInner) => [encTInner a, encTInner b]) x.1 x.2) v_).map nz → u_ = v_ := by
  intro u_ v_ h
  obtain ⟨⟨a_Outer, a_Thing⟩, ⟨b_Outer, b_Thing⟩⟩ := u_
  obtain ⟨⟨a_Outer', a_Thing'⟩, ⟨b_Outer', b_Thing'⟩⟩ := v_
  simp [nz_lit, nz1_lit, nz_agg, nz_sl, nz1_sl, encTInner] at h
  first | (simp [h]; done) | (obtain ⟨⟩ := h; simp_all; done) | simp_all
@[simp] theorem c133_fn (a_Outer : Int) (a_Thing : Int) (b_Outer : Int) (b_Thing : Int) : c133.fn [.agg [.lit (.int .i64 a_Outer), .lit (.int .i64 a_Thing)], .agg [.lit (.int .i64 b_Outer), .lit (.int .i64 b_Thing)]] [] = some ((fun (a : TInner) (b : TInner) => True) ⟨a_Outer, a_Thing⟩ ⟨b_Outer, b_Thing⟩, (fun (a : TInner) (b : TInner) => (dB (decide (a = b)) : D)) ⟨a_Outer, a_Thing⟩ ⟨b_Outer, b_Thing⟩, (fun (a : TInner) (b : TInner) => []) ⟨a_Outer, a_Thing⟩ ⟨b_Outer, b_Thing⟩) :=
  mkCon_fn (fun x y h _ => c133_inj x y h) ((⟨a_Outer, a_Thing⟩, ⟨b_Outer, b_Thing⟩) : TInner × TInner) (by simp [nz, nz1, ML_nil, encTInner]) rfl
theorem c133_pc (a : TInner) (b : TInner) : PCo Try.prog 133 [encTInner a, encTInner b] (Tab.of []) (dB (decide (a = b))) (Tab.of []) := by
  obtain ⟨a_Outer, a_Thing⟩ := a
  obtain ⟨b_Outer, b_Thing⟩ := b
  refine pco_of_run [] (E := ⟨[], []⟩) (m := false) (base := 0) Env.ok_nil G_ok mix 300 6 Try.func133 (by kernel_rfl) rfl (by kernel_rfl) (by kernel_rfl) rfl ?_
  simp [Try.f133]
  all_goals first | omega | (rw [Bool.eq_iff_iff]; simp; omega) | grind
theorem c133_ok : c133.ok Try.prog := mkCon_ok fun ⟨a, b⟩ hpre => c133_pc a b
/-- loop.example/g03007/laws.szInnerS -/
noncomputable def c44 : Con := mkCon 44 false (α := (List TInner) × Int) (fun x => (fun (l : List TInner) (left : Int) => [encLTInner l, dI left]) x.1 x.2) (fun _ => []) (fun x => (fun (l : List TInner) (left : Int) => l.length ≤ maxLen ∧ 0 ≤ left ∧ left ≤ 1099511627776) x.1 x.2) (fun x => (fun (l : List TInner) (left : Int) => (dI (if left - l.length < 0 then -1 else left - l.length) : D)) x.1 x.2) (fun x => (fun (l : List TInner) (left : Int) => []) x.1 x.2)
@[simp] theorem c44_f : c44.f = 44 := rfl
@[simp] theorem c44_own : c44.own = false := rfl
theorem c44_inj : ∀ u_ v_ : (List TInner) × Int, ((fun x => (fun (l : List TInner) (left : Int) => [encLTInner l, dI left]) x.1 x.2) u_).map nz = ((fun x => (fun (l : List TInner) (left : Int) => [encLTInner l, dI left]) x.1 x.2) v_).map nz → u_ = v_ := by
  intro u_ v_ h
  obtain ⟨l, left⟩ := u_
  obtain ⟨l', left'⟩ := v_
  simp [nz_lit, nz1_lit, nz_agg, nz_sl, nz1_sl, encLTInner] at h
  first | (simp [h]; done) | (obtain ⟨⟩ := h; simp_all; done) | simp_all
@[simp] theorem c44_fn (l : List TInner) (left : Int) : c44.fn [.sl false 2 yTInner (ML encTInner l), .lit (.int .i64 left)] [] = some ((fun (l : List TInner) (left : Int) => l.length ≤ maxLen ∧ 0 ≤ left ∧ left ≤ 1099511627776) l left, (fun (l : List TInner) (left : Int) => (dI (if left - l.length < 0 then -1 else left - l.length) : D)) l left, (fun (l : List TInner) (left : Int) => []) l left) :=
  mkCon_fn (fun x y h _ => c44_inj x y h) ((l, left) : (List TInner) × Int) (by simp [nz, nz1, ML_nil, encLTInner]) rfl
@[simp] theorem c44_fn1 (s_l : Nat) (z_l : D) (left : Int) : c44.fn [.sl false s_l z_l [], .lit (.int .i64 left)] [] = some ((fun (l : List TInner) (left : Int) => l.length ≤ maxLen ∧ 0 ≤ left ∧ left ≤ 1099511627776) [] left, (fun (l : List TInner) (left : Int) => (dI (if left - l.length < 0 then -1 else left - l.length) : D)) [] left, (fun (l : List TInner) (left : Int) => []) [] left) :=
  mkCon_fn (fun x y h _ => c44_inj x y h) (([], left) : (List TInner) × Int) (by simp [nz, nz1, ML_nil, encLTInner]) rfl
theorem c44_pc (l : List TInner) (left : Int) (hpre : l.length ≤ maxLen ∧ 0 ≤ left ∧ left ≤ 1099511627776) : PCo Try.prog 44 [encLTInner l, dI left] (Tab.of []) (dI (if left - l.length < 0 then -1 else left - l.length)) (Tab.of []) := by
  refine pco_of_run [] (E := ⟨[], []⟩) (m := false) (base := 0) Env.ok_nil G_ok mix 300 6 Try.func44 (by kernel_rfl) rfl (by kernel_rfl) (by kernel_rfl) rfl ?_
  simp [Try.f44]
  simp [maxLen] at hpre
  all_goals omega
theorem c44_ok : c44.ok Try.prog := mkCon_ok fun ⟨l, left⟩ hpre => c44_pc l left hpre
/-- loop.example/g03007/laws.toInnerS -/
noncomputable def c46 : Con := mkCon 46 false (α := (List TInner)) (fun x => (fun (l : List TInner) => [encLTInner l]) x) (fun _ => []) (fun x => (fun (l : List TInner) => l.length ≤ 1099511627776) x) (fun x => (fun (l : List TInner) => (encLTInner l : D)) x) (fun x => (fun (l : List TInner) => []) x)
@[simp] theorem c46_f : c46.f = 46 := rfl
@[simp] theorem c46_own : c46.own = false := rfl
theorem c46_inj : ∀ u_ v_ : (List TInner), ((fun x => (fun (l : List TInner) => [encLTInner l]) x) u_).map nz = ((fun x => (fun (l : List TInner) => [encLTInner l]) x) v_).map nz → u_ = v_ := by
  intro u_ v_ h
  obtain l := u_
  obtain l' := v_
  simp [nz_lit, nz1_lit, nz_agg, nz_sl, nz1_sl, encLTInner] at h
  first | (simp [h]; done) | (obtain ⟨⟩ := h; simp_all; done) | simp_all
@[simp] theorem c46_fn (l : List TInner) : c46.fn [.sl false 2 yTInner (ML encTInner l)] [] = some ((fun (l : List TInner) => l.length ≤ 1099511627776) l, (fun (l : List TInner) => (encLTInner l : D)) l, (fun (l : List TInner) => []) l) :=
  mkCon_fn (fun x y h _ => c46_inj x y h) (l : (List TInner)) (by simp [nz, nz1, ML_nil, encLTInner]) rfl
@[simp] theorem c46_fn1 (s_l : Nat) (z_l : D) : c46.fn [.sl false s_l z_l []] [] = some ((fun (l : List TInner) => l.length ≤ 1099511627776) [], (fun (l : List TInner) => (encLTInner l : D)) [], (fun (l : List TInner) => []) []) :=
  mkCon_fn (fun x y h _ => c46_inj x y h) ([] : (List TInner)) (by simp [nz, nz1, ML_nil, encLTInner]) rfl
theorem c46_pc (l : List TInner) (hpre : l.length ≤ 1099511627776) : PCo Try.prog 46 [encLTInner l] (Tab.of []) (encLTInner l) (Tab.of []) := by
  refine pco_of_run [] (E := ⟨[c131], []⟩) (m := false) (base := 0) (Env.ok_cons c131_ok Env.ok_nil) G_ok mix 300 6 Try.func46 (by kernel_rfl) rfl (by kernel_rfl) (by kernel_rfl) rfl ?_
  simp [Try.f46]
  refine ⟨by omega, ?_⟩
  refine loop_inv (fun p : Nat => p ≤ l.length) (fun p => [(0, encLTInner l), (3, .own (0, 1) 2 0 l.length), (4, dI p)]) (fun p => [((0, 1), .arr false 2 yTInner (ML encTInner (l.take p ++ List.replicate (l.length - p) ⟨0, 0⟩)))]) 2 (fun p => l.length - p) 0 100 (by simp) (by simp) (by first | (simp; done) | (simp; simp only [ML, List.map_replicate]; rfl)) ?_
  intro p hp
  simp
  refine ⟨fun hlt => ⟨by omega, by omega, Again.mk (p + 1) (by omega) (by simp [fill_step hlt]) (by first | omega | (simp; omega))⟩, fun hge => ?_⟩
  have : p = l.length := by omega
  subst this
  simp
theorem c46_ok : c46.ok Try.prog := mkCon_ok fun l hpre => c46_pc l hpre
/-- loop.example/g03007/laws.eqInnerS -/
noncomputable def c48 : Con := mkCon 48 false (α := (List TInner) × (List TInner)) (fun x => (fun (a : List TInner) (b : List TInner) => [encLTInner a, encLTInner b]) x.1 x.2) (fun _ => []) (fun x => (fun (a : List TInner) (b : List TInner) => a.length ≤ 1099511627776 ∧ b.length ≤ 1099511627776) x.1 x.2) (fun x => (fun (a : List TInner) (b : List TInner) => (dB (decide (a = b)) : D)) x.1 x.2) (fun x => (fun (a : List TInner) (b : List TInner) => []) x.1 x.2)
@[simp] theorem c48_f : c48.f = 48 := rfl
@[simp] theorem c48_own : c48.own = false := rfl
theorem c48_inj : ∀ u_ v_ : (List TInner) × (List TInner), ((fun x => (fun (a : List TInner) (b : List TInner) => [encLTInner a, encLTInner b]) x.1 x.2) u_).map nz = ((fun x => (fun (a : List TInner) (b : List TInner) => [encLTInner a, encLTInner b]) x.1 x.2) v_).map nz → u_ = v_ := by
  intro u_ v_ h
  obtain ⟨a, b⟩ := u_
  obtain ⟨a', b'⟩ := v_
  simp [nz_lit, nz1_lit, nz_agg, nz_sl, nz1_sl, encLTInner] at h
  first | (simp [h]; done) | (obtain ⟨⟩ := h; simp_all; done) | simp_all
@[simp] theorem c48_fn (a : List TInner) (b : List TInner) : c48.fn [.sl false 2 yTInner (ML encTInner a), .sl false 2 yTInner (ML encTInner b)] [] = some ((fun (a : List TInner) (b : List TInner) => a.length ≤ 1099511627776 ∧ b.length ≤ 1099511627776) a b, (fun (a : List TInner) (b : List TInner) => (dB (decide (a = b)) : D)) a b, (fun (a : List TInner) (b : List TInner) => []) a b) :=
  mkCon_fn (fun x y h _ => c48_inj x y h) ((a, b) : (List TInner) × (List TInner)) (by simp [nz, nz1, ML_nil, encLTInner]) rfl
@[simp] theorem c48_fn1 (s_a : Nat) (z_a : D) (b : List TInner) : c48.fn [.sl false s_a z_a [], .sl false 2 yTInner (ML encTInner b)] [] = some ((fun (a : List TInner) (b : List TInner) => a.length ≤ 1099511627776 ∧ b.length ≤ 1099511627776) [] b, (fun (a : List TInner) (b : List TInner) => (dB (decide (a = b)) : D)) [] b, (fun (a : List TInner) (b : List TInner) => []) [] b) :=
  mkCon_fn (fun x y h _ => c48_inj x y h) (([], b) : (List TInner) × (List TInner)) (by simp [nz, nz1, ML_nil, encLTInner]) rfl
@[simp] theorem c48_fn2 (a : List TInner) (s_b : Nat) (z_b : D) : c48.fn [.sl false 2 yTInner (ML encTInner a), .sl false s_b z_b []] [] = some ((fun (a : List TInner) (b : List TInner) => a.length ≤ 1099511627776 ∧ b.length ≤ 1099511627776) a [], (fun (a : List TInner) (b : List TInner) => (dB (decide (a = b)) : D)) a [], (fun (a : List TInner) (b : List TInner) => []) a []) :=
  mkCon_fn (fun x y h _ => c48_inj x y h) ((a, []) : (List TInner) × (List TInner)) (by simp [nz, nz1, ML_nil, encLTInner]) rfl
@[simp] theorem c48_fn3 (s_a : Nat) (z_a : D) (s_b : Nat) (z_b : D) : c48.fn [.sl false s_a z_a [], .sl false s_b z_b []] [] = some ((fun (a : List TInner) (b : List TInner) => a.length ≤ 1099511627776 ∧ b.length ≤ 1099511627776) [] [], (fun (a : List TInner) (b : List TInner) => (dB (decide (a = b)) : D)) [] [], (fun (a : List TInner) (b : List TInner) => []) [] []) :=
  mkCon_fn (fun x y h _ => c48_inj x y h) (([], []) : (List TInner) × (List TInner)) (by simp [nz, nz1, ML_nil, encLTInner]) rfl
theorem c48_pc (a : List TInner) (b : List TInner) (hpre : a.length ≤ 1099511627776 ∧ b.length ≤ 1099511627776) : PCo Try.prog 48 [encLTInner a, encLTInner b] (Tab.of []) (dB (decide (a = b))) (Tab.of []) := by
  refine pco_of_run [] (E := ⟨[c133], []⟩) (m := false) (base := 0) (Env.ok_cons c133_ok Env.ok_nil) G_ok mix 300 6 Try.func48 (by kernel_rfl) rfl (by kernel_rfl) (by kernel_rfl) rfl ?_
  simp [Try.f48]
  obtain ⟨pre1, pre2⟩ := hpre
  refine ⟨fun h => ?_, fun h => by intro e; subst e; exact absurd rfl h⟩
  refine loop_inv (fun p : Nat => p ≤ a.length ∧ a.take p = b.take p) (fun p => [(0, encLTInner a), (1, encLTInner b), (5, dI p)]) (fun _ => []) 1 (fun p => a.length - p) 0 100 (by simp) (by simp) (by simp) ?_
  intro p ⟨hp, hi⟩
  simp
  refine ⟨fun hlt => ⟨by omega, fun h2 => ⟨by omega, Again.mk (p + 1) ⟨by omega, take_eq_step hi (by omega) (by omega) h2⟩ (by simp) (by first | omega | (simp; omega))⟩, fun h2 => by intro e; subst e; exact absurd rfl h2⟩, fun hge => ?_⟩
  exact take_eq_full hi (by omega) (by omega)
theorem c48_ok : c48.ok Try.prog := mkCon_ok fun ⟨a, b⟩ hpre => c48_pc a b hpre
@[simp] def nInner (x : TInner) : Int := x.Thing
/-- loop.example/g03007/impl.innerOf$1 -/
noncomputable def c192 : Con := mkCon 192 false (α := TInner × Int) (fun x => (fun (x : TInner) (n : Int) => ([encTInner x, .el (dI n)] : List D)) x.1 x.2) (fun x => (fun (x : TInner) (n : Int) => ([] : List (Nm × OO))) x.1 x.2) (fun x => (fun (x : TInner) (n : Int) => True) x.1 x.2) (fun x => (fun (x : TInner) (n : Int) => (dB (wantN nInner n x) : D)) x.1 x.2) (fun x => (fun (x : TInner) (n : Int) => ([] : List (Nm × OO))) x.1 x.2)
@[simp] theorem c192_f : c192.f = 192 := rfl
@[simp] theorem c192_own : c192.own = false := rfl
theorem c192_inj : ∀ u_ v_ : TInner × Int, ((fun x => (fun (x : TInner) (n : Int) => ([encTInner x, .el (dI n)] : List D)) x.1 x.2) u_).map nz = ((fun x => (fun (x : TInner) (n : Int) => ([encTInner x, .el (dI n)] : List D)) x.1 x.2) v_).map nz → (fun x => (fun (x : TInner) (n : Int) => ([] : List (Nm × OO))) x.1 x.2) u_ = (fun x => (fun (x : TInner) (n : Int) => ([] : List (Nm × OO))) x.1 x.2) v_ → u_ = v_ := by
  intro u_ v_ h h2_
  obtain ⟨⟨x_Outer, x_Thing⟩, n⟩ := u_
  obtain ⟨⟨x_Outer', x_Thing'⟩, n'⟩ := v_
  simp [nz_lit, nz1_lit, nz_agg, nz_sl, nz1_sl, nz_sx, nz_el, nz1_el, nz_own, nz1_own, nz_ptr, nz_fn, nz_iface] at h h2_
  first | (simp [h, h2_]; done) | simp_all | grind
@[simp] theorem c192_fn (x_Outer : Int) (x_Thing : Int) (n : Int) : c192.fn ([.agg [.lit (.int .i64 x_Outer), .lit (.int .i64 x_Thing)], .el (dI n)]) ([]) = some (True, dB (wantN nInner n (⟨x_Outer, x_Thing⟩ : TInner)), []) :=
  mkCon_fn c192_inj ((⟨x_Outer, x_Thing⟩, n) : TInner × Int) rfl rfl
theorem c192_pc (x : TInner) (n : Int) : PCo Try.prog 192 ([encTInner x, .el (dI n)]) (Tab.of ([])) (dB (wantN nInner n x)) (Tab.of ([])) := by
  refine pco_of_run [] (E := ⟨[], []⟩) (m := false) (base := 0) Env.ok_nil G_ok mix 300 6 Try.func192 (by kernel_rfl) rfl (by kernel_rfl) (by kernel_rfl) rfl ?_
  simp [Try.f192]
  simp [wantN]; first | done | rfl
theorem c192_ok : c192.ok Try.prog := mkCon_ok fun ⟨x, n⟩ hpre => c192_pc x n
/-- slices.IndexFunc[[]loop.example/g03007/impl.Inne -/
noncomputable def c191 : Con := mkCon 191 false (α := (List TInner) × Int) (fun x => (fun (l : List TInner) (n : Int) => ([encLTInner l, .fn (.func 192) [] [.el (dI n)]] : List D)) x.1 x.2) (fun x => (fun (l : List TInner) (n : Int) => ([] : List (Nm × OO))) x.1 x.2) (fun x => (fun (l : List TInner) (n : Int) => l.length ≤ 1099511627776) x.1 x.2) (fun x => (fun (l : List TInner) (n : Int) => (dI (indexBy (wantN nInner n) 0 l) : D)) x.1 x.2) (fun x => (fun (l : List TInner) (n : Int) => ([] : List (Nm × OO))) x.1 x.2)
@[simp] theorem c191_f : c191.f = 191 := rfl
@[simp] theorem c191_own : c191.own = false := rfl
theorem c191_inj : ∀ u_ v_ : (List TInner) × Int, ((fun x => (fun (l : List TInner) (n : Int) => ([encLTInner l, .fn (.func 192) [] [.el (dI n)]] : List D)) x.1 x.2) u_).map nz = ((fun x => (fun (l : List TInner) (n : Int) => ([encLTInner l, .fn (.func 192) [] [.el (dI n)]] : List D)) x.1 x.2) v_).map nz → (fun x => (fun (l : List TInner) (n : Int) => ([] : List (Nm × OO))) x.1 x.2) u_ = (fun x => (fun (l : List TInner) (n : Int) => ([] : List (Nm × OO))) x.1 x.2) v_ → u_ = v_ := by
  intro u_ v_ h h2_
  obtain ⟨l, n⟩ := u_
  obtain ⟨l', n'⟩ := v_
  simp [nz_lit, nz1_lit, nz_agg, nz_sl, nz1_sl, nz_sx, nz_el, nz1_el, nz_own, nz1_own, nz_ptr, nz_fn, nz_iface] at h h2_
  first | (simp [h, h2_]; done) | simp_all | grind
@[simp] theorem c191_fn (l : List TInner) (n : Int) : c191.fn ([(.sl false 2 yTInner (ML encTInner l)), .fn (.func 192) [] [.el (dI n)]]) ([]) = some (l.length ≤ 1099511627776, dI (indexBy (wantN nInner n) 0 l), []) :=
  mkCon_fn c191_inj ((l, n) : (List TInner) × Int) rfl rfl
theorem c191_pc (l : List TInner) (n : Int) (hpre : l.length ≤ 1099511627776) : PCo Try.prog 191 ([encLTInner l, .fn (.func 192) [] [.el (dI n)]]) (Tab.of ([])) (dI (indexBy (wantN nInner n) 0 l)) (Tab.of ([])) := by
  refine pco_of_run [] (E := ⟨[c192], []⟩) (m := false) (base := 0) (Env.ok_cons c192_ok Env.ok_nil) G_ok mix 300 6 Try.func191 (by kernel_rfl) rfl (by kernel_rfl) (by kernel_rfl) rfl ?_
  simp [Try.f191]
  refine loop_inv (fun p : Nat => p ≤ l.length ∧ indexBy (wantN nInner n) 0 l = indexBy (wantN nInner n) p (l.drop p)) (fun p => [(0, encLTInner l), (1, .fn (.func 192) [] [.el (dI n)]), (7, dI l.length), (8, dI p)]) (fun _ => []) 1 (fun p => l.length - p) 0 400 (by simp) (by simp) (by simp) ?_
  intro p ⟨hp, hi⟩
  simp
  refine ⟨fun hlt => ?_, fun hge => ?_⟩
  · rw [indexBy_at (d := default) hlt] at hi
    repeat' (first | omega | refine And.intro ?_ ?_ | intro _)
    all_goals first | exact Again.mk (p + 1) ⟨by omega, by rw [hi]; grind⟩ (by simp) (by first | omega | (simp; omega)) | (rw [hi]; grind)
  · rw [hi, indexBy_end hge]
theorem c191_ok : c191.ok Try.prog := mkCon_ok fun ⟨l, n⟩ hpre => c191_pc l n hpre
/-- loop.example/g03007/impl.innerOf -/
noncomputable def c132 : Con := mkCon 132 false (α := (List TInner) × Int) (fun x => (fun (l : List TInner) (n : Int) => [encLTInner l, dI n]) x.1 x.2) (fun _ => []) (fun x => (fun (l : List TInner) (n : Int) => l.length ≤ 1099511627776) x.1 x.2) (fun x => (fun (l : List TInner) (n : Int) => (dI (indexBy (wantN nInner n) 0 l) : D)) x.1 x.2) (fun x => (fun (l : List TInner) (n : Int) => []) x.1 x.2)
@[simp] theorem c132_f : c132.f = 132 := rfl
@[simp] theorem c132_own : c132.own = false := rfl
theorem c132_inj : ∀ u_ v_ : (List TInner) × Int, ((fun x => (fun (l : List TInner) (n : Int) => [encLTInner l, dI n]) x.1 x.2) u_).map nz = ((fun x => (fun (l : List TInner) (n : Int) => [encLTInner l, dI n]) x.1 x.2) v_).map nz → u_ = v_ := by
  intro u_ v_ h
  obtain ⟨l, n⟩ := u_
  obtain ⟨l', n'⟩ := v_
  simp [nz_lit, nz1_lit, nz_agg, nz_sl, nz1_sl, encLTInner] at h
  first | (simp [h]; done) | (obtain ⟨⟩ := h; simp_all; done) | simp_all
@[simp] theorem c132_fn (l : List TInner) (n : Int) : c132.fn [.sl false 2 yTInner (ML encTInner l), .lit (.int .i64 n)] [] = some ((fun (l : List TInner) (n : Int) => l.length ≤ 1099511627776) l n, (fun (l : List TInner) (n : Int) => (dI (indexBy (wantN nInner n) 0 l) : D)) l n, (fun (l : List TInner) (n : Int) => []) l n) :=
  mkCon_fn (fun x y h _ => c132_inj x y h) ((l, n) : (List TInner) × Int) (by simp [nz, nz1, ML_nil, encLTInner]) rfl
@[simp] theorem c132_fn1 (s_l : Nat) (z_l : D) (n : Int) : c132.fn [.sl false s_l z_l [], .lit (.int .i64 n)] [] = some ((fun (l : List TInner) (n : Int) => l.length ≤ 1099511627776) [] n, (fun (l : List TInner) (n : Int) => (dI (indexBy (wantN nInner n) 0 l) : D)) [] n, (fun (l : List TInner) (n : Int) => []) [] n) :=
  mkCon_fn (fun x y h _ => c132_inj x y h) (([], n) : (List TInner) × Int) (by simp [nz, nz1, ML_nil, encLTInner]) rfl
theorem c132_pc (l : List TInner) (n : Int) (hpre : l.length ≤ 1099511627776) : PCo Try.prog 132 [encLTInner l, dI n] (Tab.of []) (dI (indexBy (wantN nInner n) 0 l)) (Tab.of []) := by
  refine pco_of_run [] (E := ⟨[c191, c192], []⟩) (m := false) (base := 0) (Env.ok_cons c191_ok (Env.ok_cons c192_ok Env.ok_nil)) G_ok mix 300 6 Try.func132 (by kernel_rfl) rfl (by kernel_rfl) (by kernel_rfl) rfl ?_
  simp [Try.f132]
  exact hpre
theorem c132_ok : c132.ok Try.prog := mkCon_ok fun ⟨l, n⟩ hpre => c132_pc l n hpre
def lookO (t : Int) : List TInner → Int
  | [] => 0
  | x :: r => if x.Thing = t then x.Outer else lookO t r
theorem lookO_at {t : Int} {l : List TInner} {p : Nat} (h : p < l.length) : lookO t (l.drop p) = if (l[p]?.getD default).Thing = t then (l[p]?.getD default).Outer else lookO t (l.drop (p + 1)) := by
  rw [drop_at (d := default) h, lookO]
theorem lookO_end {t : Int} {l : List TInner} {p : Nat} (h : l.length ≤ p) : lookO t (l.drop p) = 0 := by
  rw [List.drop_eq_nil_of_le h, lookO]
theorem lookO_index {t : Int} : ∀ (l : List TInner) (i : Int), 0 ≤ i → (indexBy (wantN nInner t) i l < 0 ∧ lookO t l = 0) ∨ ∃ k : Nat, k < l.length ∧ indexBy (wantN nInner t) i l = i + k ∧ lookO t l = (l[k]?.getD default).Outer
  | [], i, h => by simp [indexBy, lookO]
  | x :: r, i, h => by
    simp only [indexBy, lookO]
    by_cases hw : x.Thing = t
    · rw [if_pos (by simp [wantN, hw]), if_pos hw]; exact .inr ⟨0, by simp, by simp, by simp⟩
    · rw [if_neg (by simp [wantN, hw]), if_neg hw]
      rcases lookO_index r (i + 1) (by omega) with h1 | ⟨k, h1, h2, h3⟩
      · exact .inl h1
      · exact .inr ⟨k + 1, by simp; omega, by rw [h2]; push_cast; omega, by simpa using h3⟩
/-- loop.example/g03007/impl.OuterOf -/
noncomputable def c47 : Con := mkCon 47 false (α := (List TInner) × Int) (fun x => (fun (l : List TInner) (t : Int) => [encLTInner l, dI t]) x.1 x.2) (fun _ => []) (fun x => (fun (l : List TInner) (t : Int) => l.length ≤ 1099511627776) x.1 x.2) (fun x => (fun (l : List TInner) (t : Int) => (dI (lookO t l) : D)) x.1 x.2) (fun x => (fun (l : List TInner) (t : Int) => []) x.1 x.2)
@[simp] theorem c47_f : c47.f = 47 := rfl
@[simp] theorem c47_own : c47.own = false := rfl
theorem c47_inj : ∀ u_ v_ : (List TInner) × Int, ((fun x => (fun (l : List TInner) (t : Int) => [encLTInner l, dI t]) x.1 x.2) u_).map nz = ((fun x => (fun (l : List TInner) (t : Int) => [encLTInner l, dI t]) x.1 x.2) v_).map nz → u_ = v_ := by
  intro u_ v_ h
  obtain ⟨l, t⟩ := u_
  obtain ⟨l', t'⟩ := v_
  simp [nz_lit, nz1_lit, nz_agg, nz_sl, nz1_sl, encLTInner] at h
  first | (simp [h]; done) | (obtain ⟨⟩ := h; simp_all; done) | simp_all
@[simp] theorem c47_fn (l : List TInner) (t : Int) : c47.fn [.sl false 2 yTInner (ML encTInner l), .lit (.int .i64 t)] [] = some ((fun (l : List TInner) (t : Int) => l.length ≤ 1099511627776) l t, (fun (l : List TInner) (t : Int) => (dI (lookO t l) : D)) l t, (fun (l : List TInner) (t : Int) => []) l t) :=
  mkCon_fn (fun x y h _ => c47_inj x y h) ((l, t) : (List TInner) × Int) (by simp [nz, nz1, ML_nil, encLTInner]) rfl
@[simp] theorem c47_fn1 (s_l : Nat) (z_l : D) (t : Int) : c47.fn [.sl false s_l z_l [], .lit (.int .i64 t)] [] = some ((fun (l : List TInner) (t : Int) => l.length ≤ 1099511627776) [] t, (fun (l : List TInner) (t : Int) => (dI (lookO t l) : D)) [] t, (fun (l : List TInner) (t : Int) => []) [] t) :=
  mkCon_fn (fun x y h _ => c47_inj x y h) (([], t) : (List TInner) × Int) (by simp [nz, nz1, ML_nil, encLTInner]) rfl
theorem c47_pc (l : List TInner) (t : Int) (hpre : l.length ≤ 1099511627776) : PCo Try.prog 47 [encLTInner l, dI t] (Tab.of []) (dI (lookO t l)) (Tab.of []) := by
  refine pco_of_run [] (E := ⟨[c132], []⟩) (m := false) (base := 0) (Env.ok_cons c132_ok Env.ok_nil) G_ok mix 300 6 Try.func47 (by kernel_rfl) rfl (by kernel_rfl) (by kernel_rfl) rfl ?_
  simp [Try.f47]
  refine ⟨hpre, ?_⟩
  rcases lookO_index (t := t) l 0 (by omega) with ⟨h1, h2⟩ | ⟨k, h1, h2, h3⟩
  · rw [h2]; exact ⟨fun _ => rfl, fun h => absurd h (by omega)⟩
  · rw [h2, h3]; exact ⟨fun h => by omega, fun _ => ⟨by omega, by simp⟩⟩
theorem c47_ok : c47.ok Try.prog := mkCon_ok fun ⟨l, t⟩ hpre => c47_pc l t hpre
/-- loop.example/g03007/spec.OuterOf -/
noncomputable def c45 : Con := mkCon 45 false (α := (List TInner) × Int) (fun x => (fun (l : List TInner) (t : Int) => [encLTInner l, dI t]) x.1 x.2) (fun _ => []) (fun x => (fun (l : List TInner) (t : Int) => l.length ≤ 1099511627776) x.1 x.2) (fun x => (fun (l : List TInner) (t : Int) => (dI (lookO t l) : D)) x.1 x.2) (fun x => (fun (l : List TInner) (t : Int) => []) x.1 x.2)
@[simp] theorem c45_f : c45.f = 45 := rfl
@[simp] theorem c45_own : c45.own = false := rfl
theorem c45_inj : ∀ u_ v_ : (List TInner) × Int, ((fun x => (fun (l : List TInner) (t : Int) => [encLTInner l, dI t]) x.1 x.2) u_).map nz = ((fun x => (fun (l : List TInner) (t : Int) => [encLTInner l, dI t]) x.1 x.2) v_).map nz → u_ = v_ := by
  intro u_ v_ h
  obtain ⟨l, t⟩ := u_
  obtain ⟨l', t'⟩ := v_
  simp [nz_lit, nz1_lit, nz_agg, nz_sl, nz1_sl, encLTInner] at h
  first | (simp [h]; done) | (obtain ⟨⟩ := h; simp_all; done) | simp_all
@[simp] theorem c45_fn (l : List TInner) (t : Int) : c45.fn [.sl false 2 yTInner (ML encTInner l), .lit (.int .i64 t)] [] = some ((fun (l : List TInner) (t : Int) => l.length ≤ 1099511627776) l t, (fun (l : List TInner) (t : Int) => (dI (lookO t l) : D)) l t, (fun (l : List TInner) (t : Int) => []) l t) :=
  mkCon_fn (fun x y h _ => c45_inj x y h) ((l, t) : (List TInner) × Int) (by simp [nz, nz1, ML_nil, encLTInner]) rfl
@[simp] theorem c45_fn1 (s_l : Nat) (z_l : D) (t : Int) : c45.fn [.sl false s_l z_l [], .lit (.int .i64 t)] [] = some ((fun (l : List TInner) (t : Int) => l.length ≤ 1099511627776) [] t, (fun (l : List TInner) (t : Int) => (dI (lookO t l) : D)) [] t, (fun (l : List TInner) (t : Int) => []) [] t) :=
  mkCon_fn (fun x y h _ => c45_inj x y h) (([], t) : (List TInner) × Int) (by simp [nz, nz1, ML_nil, encLTInner]) rfl
theorem c45_pc (l : List TInner) (t : Int) (hpre : l.length ≤ 1099511627776) : PCo Try.prog 45 [encLTInner l, dI t] (Tab.of []) (dI (lookO t l)) (Tab.of []) := by
  refine pco_of_run [] (E := ⟨[], []⟩) (m := false) (base := 0) Env.ok_nil G_ok mix 300 6 Try.func45 (by kernel_rfl) rfl (by kernel_rfl) (by kernel_rfl) rfl ?_
  simp [Try.f45]
  refine loop_inv (fun p : Nat => p ≤ l.length ∧ lookO t l = lookO t (l.drop p)) (fun p => [(0, encLTInner l), (1, dI t), (5, dI p)]) (fun _ => []) 1 (fun p => l.length - p) 0 400 (by simp) (by simp) (by simp) ?_
  intro p ⟨hp, hi⟩
  simp
  refine ⟨fun hlt => ?_, fun hge => ?_⟩
  · rw [lookO_at hlt] at hi
    repeat' (first | omega | refine And.intro ?_ ?_ | intro _)
    all_goals first | exact Again.mk (p + 1) ⟨by omega, by rw [hi]; grind⟩ (by simp) (by first | omega | (simp; omega)) | (rw [hi]; grind)
  · rw [hi, lookO_end hge]
theorem c45_ok : c45.ok Try.prog := mkCon_ok fun ⟨l, t⟩ hpre => c45_pc l t hpre
/-- loop.example/g03007/laws.FnExactOuterOf -/
theorem law7 (l : List TInner) (wl : wfLTInner l) (t : Int) (wt : inR .i64 t) : PCo Try.prog 7 [encLTInner l, dI t] (Tab.of []) (dB true) (Tab.of []) := by
  refine pco_of_run [] (E := ⟨[c44, c45, c46, c47, c48], []⟩) (m := false) (base := 0) (Env.ok_cons c44_ok (Env.ok_cons c45_ok (Env.ok_cons c46_ok (Env.ok_cons c47_ok (Env.ok_cons c48_ok Env.ok_nil))))) G_ok mix 400 6 Try.func7 (by kernel_rfl) rfl (by kernel_rfl) (by kernel_rfl) rfl ?_
  simp [Try.f7]
  have h_l : l.length ≤ maxLen := wl.1
  repeat' (first | omega | assumption | refine And.intro ?_ ?_ | intro _)
  all_goals first | omega | grind | (split at * <;> omega)
theorem law7_pc (D0 : D) (h0 : Sh G 9 47 D0) (D1 : D) (h1 : Sh G 9 3 D1) : PC Try.prog 7 [D0, D1] (dB true) [] := by
  obtain ⟨l, rfl, wl⟩ := sh47 (n := 6) h0
  obtain ⟨t, rfl, wt⟩ := sh3 (n := 8) h1
  exact law7 l wl t wt

end Go.Proofs.Ytadipfpojlceeaa
