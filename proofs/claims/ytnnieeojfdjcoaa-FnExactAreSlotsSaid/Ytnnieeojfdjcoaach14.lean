/- Contracts of the functions that the laws run. -/
import Derived.Test.Ytnnieeojfdjcoaach04
import Derived.Test.YtnnieeojfdjcoaaEngB
namespace Go.Proofs.Ytnnieeojfdjcoaa
open Go Go.Eng
set_option linter.unusedSimpArgs false
set_option linter.unusedVariables false
set_option maxRecDepth 10000
set_option maxHeartbeats 1000000
/-- loop.example/g03007/laws.toSlot -/
noncomputable def c145 : Con := mkCon 145 false (α := TSlot) (fun x => (fun (a : TSlot) => [encTSlot a]) x) (fun _ => []) (fun x => (fun (a : TSlot) => True) x) (fun x => (fun (a : TSlot) => (encTSlot a : D)) x) (fun x => (fun (a : TSlot) => []) x)
@[simp] theorem c145_f : c145.f = 145 := rfl
@[simp] theorem c145_own : c145.own = false := rfl
theorem c145_inj : ∀ u_ v_ : TSlot, ((fun x => (fun (a : TSlot) => [encTSlot a]) x) u_).map nz = ((fun x => (fun (a : TSlot) => [encTSlot a]) x) v_).map nz → u_ = v_ := by
  intro u_ v_ h
  obtain ⟨a_Id, a_Size, a_Thing⟩ := u_
  obtain ⟨a_Id', a_Size', a_Thing'⟩ := v_
  simp [nz_lit, nz1_lit, nz_agg, nz_sl, nz1_sl, encTSlot] at h
  first | (simp [h]; done) | (obtain ⟨⟩ := h; simp_all; done) | simp_all
@[simp] theorem c145_fn (a_Id : Int) (a_Size : Int) (a_Thing : Int) : c145.fn [.agg [.lit (.int .i64 a_Id), .lit (.int .i64 a_Size), .lit (.int .i64 a_Thing)]] [] = some ((fun (a : TSlot) => True) ⟨a_Id, a_Size, a_Thing⟩, (fun (a : TSlot) => (encTSlot a : D)) ⟨a_Id, a_Size, a_Thing⟩, (fun (a : TSlot) => []) ⟨a_Id, a_Size, a_Thing⟩) :=
  mkCon_fn (fun x y h _ => c145_inj x y h) (⟨a_Id, a_Size, a_Thing⟩ : TSlot) (by simp [nz, nz1, ML_nil, encTSlot]) rfl
theorem c145_pc (a : TSlot) : PCo Try.prog 145 [encTSlot a] (Tab.of []) (encTSlot a) (Tab.of []) := by
  obtain ⟨a_Id, a_Size, a_Thing⟩ := a
  refine pco_of_run [] (E := ⟨[], []⟩) (m := false) (base := 0) Env.ok_nil G_ok mix 300 6 Try.func145 (by kernel_rfl) rfl (by kernel_rfl) (by kernel_rfl) rfl ?_
  simp [Try.f145]
  all_goals first | omega | (rw [Bool.eq_iff_iff]; simp; omega) | grind
theorem c145_ok : c145.ok Try.prog := mkCon_ok fun a hpre => c145_pc a
/-- loop.example/g03007/laws.eqSlot -/
noncomputable def c150 : Con := mkCon 150 false (α := TSlot × TSlot) (fun x => (fun (a : TSlot) (b : TSlot) => [encTSlot a, encTSlot b]) x.1 x.2) (fun _ => []) (fun x => (fun (a : TSlot) (b : TSlot) => True) x.1 x.2) (fun x => (fun (a : TSlot) (b : TSlot) => (dB (decide (a = b)) : D)) x.1 x.2) (fun x => (fun (a : TSlot) (b : TSlot) => []) x.1 x.2)
@[simp] theorem c150_f : c150.f = 150 := rfl
@[simp] theorem c150_own : c150.own = false := rfl
theorem c150_inj : ∀ u_ v_ : TSlot × TSlot, ((fun x => (fun (a : TSlot) (b : TSlot) => [encTSlot a, encTSlot b]) x.1 x.2) u_).map nz = ((fun x => (fun (a : TSlot) (b : TSlot) => [encTSlot a, encTSlot b]) x.1 x.2) v_).map nz → u_ = v_ := by
  intro u_ v_ h
  obtain ⟨⟨a_Id, a_Size, a_Thing⟩, ⟨b_Id, b_Size, b_Thing⟩⟩ := u_
  obtain ⟨⟨a_Id', a_Size', a_Thing'⟩, ⟨b_Id', b_Size', b_Thing'⟩⟩ := v_
  simp [nz_lit, nz1_lit, nz_agg, nz_sl, nz1_sl, encTSlot] at h
  first | (simp [h]; done) | (obtain ⟨⟩ := h; simp_all; done) | simp_all
@[simp] theorem c150_fn (a_Id : Int) (a_Size : Int) (a_Thing : Int) (b_Id : Int) (b_Size : Int) (b_Thing : Int) : c150.fn [.agg [.lit (.int .i64 a_Id), .lit (.int .i64 a_Size), .lit (.int .i64 a_Thing)], .agg [.lit (.int .i64 b_Id), .lit (.int .i64 b_Size), .lit (.int .i64 b_Thing)]] [] = some ((fun (a : TSlot) (b : TSlot) => True) ⟨a_Id, a_Size, a_Thing⟩ ⟨b_Id, b_Size, b_Thing⟩, (fun (a : TSlot) (b : TSlot) => (dB (decide (a = b)) : D)) ⟨a_Id, a_Size, a_Thing⟩ ⟨b_Id, b_Size, b_Thing⟩, (fun (a : TSlot) (b : TSlot) => []) ⟨a_Id, a_Size, a_Thing⟩ ⟨b_Id, b_Size, b_Thing⟩) :=
  mkCon_fn (fun x y h _ => c150_inj x y h) ((⟨a_Id, a_Size, a_Thing⟩, ⟨b_Id, b_Size, b_Thing⟩) : TSlot × TSlot) (by simp [nz, nz1, ML_nil, encTSlot]) rfl
theorem c150_pc (a : TSlot) (b : TSlot) : PCo Try.prog 150 [encTSlot a, encTSlot b] (Tab.of []) (dB (decide (a = b))) (Tab.of []) := by
  obtain ⟨a_Id, a_Size, a_Thing⟩ := a
  obtain ⟨b_Id, b_Size, b_Thing⟩ := b
  refine pco_of_run [] (E := ⟨[], []⟩) (m := false) (base := 0) Env.ok_nil G_ok mix 300 6 Try.func150 (by kernel_rfl) rfl (by kernel_rfl) (by kernel_rfl) rfl ?_
  simp [Try.f150]
  all_goals first | omega | (rw [Bool.eq_iff_iff]; simp; omega) | grind
theorem c150_ok : c150.ok Try.prog := mkCon_ok fun ⟨a, b⟩ hpre => c150_pc a b
/-- loop.example/g03007/laws.szSlotS -/
noncomputable def c86 : Con := mkCon 86 false (α := (List TSlot) × Int) (fun x => (fun (l : List TSlot) (left : Int) => [encLTSlot l, dI left]) x.1 x.2) (fun _ => []) (fun x => (fun (l : List TSlot) (left : Int) => l.length ≤ maxLen ∧ 0 ≤ left ∧ left ≤ 1099511627776) x.1 x.2) (fun x => (fun (l : List TSlot) (left : Int) => (dI (if left - l.length < 0 then -1 else left - l.length) : D)) x.1 x.2) (fun x => (fun (l : List TSlot) (left : Int) => []) x.1 x.2)
@[simp] theorem c86_f : c86.f = 86 := rfl
@[simp] theorem c86_own : c86.own = false := rfl
theorem c86_inj : ∀ u_ v_ : (List TSlot) × Int, ((fun x => (fun (l : List TSlot) (left : Int) => [encLTSlot l, dI left]) x.1 x.2) u_).map nz = ((fun x => (fun (l : List TSlot) (left : Int) => [encLTSlot l, dI left]) x.1 x.2) v_).map nz → u_ = v_ := by
  intro u_ v_ h
  obtain ⟨l, left⟩ := u_
  obtain ⟨l', left'⟩ := v_
  simp [nz_lit, nz1_lit, nz_agg, nz_sl, nz1_sl, encLTSlot] at h
  first | (simp [h]; done) | (obtain ⟨⟩ := h; simp_all; done) | simp_all
@[simp] theorem c86_fn (l : List TSlot) (left : Int) : c86.fn [.sl false 3 yTSlot (ML encTSlot l), .lit (.int .i64 left)] [] = some ((fun (l : List TSlot) (left : Int) => l.length ≤ maxLen ∧ 0 ≤ left ∧ left ≤ 1099511627776) l left, (fun (l : List TSlot) (left : Int) => (dI (if left - l.length < 0 then -1 else left - l.length) : D)) l left, (fun (l : List TSlot) (left : Int) => []) l left) :=
  mkCon_fn (fun x y h _ => c86_inj x y h) ((l, left) : (List TSlot) × Int) (by simp [nz, nz1, ML_nil, encLTSlot]) rfl
@[simp] theorem c86_fn1 (s_l : Nat) (z_l : D) (left : Int) : c86.fn [.sl false s_l z_l [], .lit (.int .i64 left)] [] = some ((fun (l : List TSlot) (left : Int) => l.length ≤ maxLen ∧ 0 ≤ left ∧ left ≤ 1099511627776) [] left, (fun (l : List TSlot) (left : Int) => (dI (if left - l.length < 0 then -1 else left - l.length) : D)) [] left, (fun (l : List TSlot) (left : Int) => []) [] left) :=
  mkCon_fn (fun x y h _ => c86_inj x y h) (([], left) : (List TSlot) × Int) (by simp [nz, nz1, ML_nil, encLTSlot]) rfl
theorem c86_pc (l : List TSlot) (left : Int) (hpre : l.length ≤ maxLen ∧ 0 ≤ left ∧ left ≤ 1099511627776) : PCo Try.prog 86 [encLTSlot l, dI left] (Tab.of []) (dI (if left - l.length < 0 then -1 else left - l.length)) (Tab.of []) := by
  refine pco_of_run [] (E := ⟨[], []⟩) (m := false) (base := 0) Env.ok_nil G_ok mix 300 6 Try.func86 (by kernel_rfl) rfl (by kernel_rfl) (by kernel_rfl) rfl ?_
  simp [Try.f86]
  simp [maxLen] at hpre
  all_goals omega
theorem c86_ok : c86.ok Try.prog := mkCon_ok fun ⟨l, left⟩ hpre => c86_pc l left hpre
/-- loop.example/g03007/laws.toSlotS -/
noncomputable def c88 : Con := mkCon 88 false (α := (List TSlot)) (fun x => (fun (l : List TSlot) => [encLTSlot l]) x) (fun _ => []) (fun x => (fun (l : List TSlot) => l.length ≤ 1099511627776) x) (fun x => (fun (l : List TSlot) => (encLTSlot l : D)) x) (fun x => (fun (l : List TSlot) => []) x)
@[simp] theorem c88_f : c88.f = 88 := rfl
@[simp] theorem c88_own : c88.own = false := rfl
theorem c88_inj : ∀ u_ v_ : (List TSlot), ((fun x => (fun (l : List TSlot) => [encLTSlot l]) x) u_).map nz = ((fun x => (fun (l : List TSlot) => [encLTSlot l]) x) v_).map nz → u_ = v_ := by
  intro u_ v_ h
  obtain l := u_
  obtain l' := v_
  simp [nz_lit, nz1_lit, nz_agg, nz_sl, nz1_sl, encLTSlot] at h
  first | (simp [h]; done) | (obtain ⟨⟩ := h; simp_all; done) | simp_all
@[simp] theorem c88_fn (l : List TSlot) : c88.fn [.sl false 3 yTSlot (ML encTSlot l)] [] = some ((fun (l : List TSlot) => l.length ≤ 1099511627776) l, (fun (l : List TSlot) => (encLTSlot l : D)) l, (fun (l : List TSlot) => []) l) :=
  mkCon_fn (fun x y h _ => c88_inj x y h) (l : (List TSlot)) (by simp [nz, nz1, ML_nil, encLTSlot]) rfl
@[simp] theorem c88_fn1 (s_l : Nat) (z_l : D) : c88.fn [.sl false s_l z_l []] [] = some ((fun (l : List TSlot) => l.length ≤ 1099511627776) [], (fun (l : List TSlot) => (encLTSlot l : D)) [], (fun (l : List TSlot) => []) []) :=
  mkCon_fn (fun x y h _ => c88_inj x y h) ([] : (List TSlot)) (by simp [nz, nz1, ML_nil, encLTSlot]) rfl
theorem c88_pc (l : List TSlot) (hpre : l.length ≤ 1099511627776) : PCo Try.prog 88 [encLTSlot l] (Tab.of []) (encLTSlot l) (Tab.of []) := by
  refine pco_of_run [] (E := ⟨[c145], []⟩) (m := false) (base := 0) (Env.ok_cons c145_ok Env.ok_nil) G_ok mix 300 6 Try.func88 (by kernel_rfl) rfl (by kernel_rfl) (by kernel_rfl) rfl ?_
  simp [Try.f88]
  refine ⟨by omega, ?_⟩
  refine loop_inv (fun p : Nat => p ≤ l.length) (fun p => [(0, encLTSlot l), (3, .own (0, 1) 3 0 l.length), (4, dI p)]) (fun p => [((0, 1), .arr false 3 yTSlot (ML encTSlot (l.take p ++ List.replicate (l.length - p) ⟨0, 0, 0⟩)))]) 2 (fun p => l.length - p) 0 100 (by simp) (by simp) (by first | (simp; done) | (simp; simp only [ML, List.map_replicate]; rfl)) ?_
  intro p hp
  simp
  refine ⟨fun hlt => ⟨by omega, by omega, Again.mk (p + 1) (by omega) (by simp [fill_step hlt]) (by first | omega | (simp; omega))⟩, fun hge => ?_⟩
  have : p = l.length := by omega
  subst this
  simp
theorem c88_ok : c88.ok Try.prog := mkCon_ok fun l hpre => c88_pc l hpre
/-- loop.example/g03007/laws.eqSlotS -/
noncomputable def c90 : Con := mkCon 90 false (α := (List TSlot) × (List TSlot)) (fun x => (fun (a : List TSlot) (b : List TSlot) => [encLTSlot a, encLTSlot b]) x.1 x.2) (fun _ => []) (fun x => (fun (a : List TSlot) (b : List TSlot) => a.length ≤ 1099511627776 ∧ b.length ≤ 1099511627776) x.1 x.2) (fun x => (fun (a : List TSlot) (b : List TSlot) => (dB (decide (a = b)) : D)) x.1 x.2) (fun x => (fun (a : List TSlot) (b : List TSlot) => []) x.1 x.2)
@[simp] theorem c90_f : c90.f = 90 := rfl
@[simp] theorem c90_own : c90.own = false := rfl
theorem c90_inj : ∀ u_ v_ : (List TSlot) × (List TSlot), ((fun x => (fun (a : List TSlot) (b : List TSlot) => [encLTSlot a, encLTSlot b]) x.1 x.2) u_).map nz = ((fun x => (fun (a : List TSlot) (b : List TSlot) => [encLTSlot a, encLTSlot b]) x.1 x.2) v_).map nz → u_ = v_ := by
  intro u_ v_ h
  obtain ⟨a, b⟩ := u_
  obtain ⟨a', b'⟩ := v_
  simp [nz_lit, nz1_lit, nz_agg, nz_sl, nz1_sl, encLTSlot] at h
  first | (simp [h]; done) | (obtain ⟨⟩ := h; simp_all; done) | simp_all
@[simp] theorem c90_fn (a : List TSlot) (b : List TSlot) : c90.fn [.sl false 3 yTSlot (ML encTSlot a), .sl false 3 yTSlot (ML encTSlot b)] [] = some ((fun (a : List TSlot) (b : List TSlot) => a.length ≤ 1099511627776 ∧ b.length ≤ 1099511627776) a b, (fun (a : List TSlot) (b : List TSlot) => (dB (decide (a = b)) : D)) a b, (fun (a : List TSlot) (b : List TSlot) => []) a b) :=
  mkCon_fn (fun x y h _ => c90_inj x y h) ((a, b) : (List TSlot) × (List TSlot)) (by simp [nz, nz1, ML_nil, encLTSlot]) rfl
@[simp] theorem c90_fn1 (s_a : Nat) (z_a : D) (b : List TSlot) : c90.fn [.sl false s_a z_a [], .sl false 3 yTSlot (ML encTSlot b)] [] = some ((fun (a : List TSlot) (b : List TSlot) => a.length ≤ 1099511627776 ∧ b.length ≤ 1099511627776) [] b, (fun (a : List TSlot) (b : List TSlot) => (dB (decide (a = b)) : D)) [] b, (fun (a : List TSlot) (b : List TSlot) => []) [] b) :=
  mkCon_fn (fun x y h _ => c90_inj x y h) (([], b) : (List TSlot) × (List TSlot)) (by simp [nz, nz1, ML_nil, encLTSlot]) rfl
@[simp] theorem c90_fn2 (a : List TSlot) (s_b : Nat) (z_b : D) : c90.fn [.sl false 3 yTSlot (ML encTSlot a), .sl false s_b z_b []] [] = some ((fun (a : List TSlot) (b : List TSlot) => a.length ≤ 1099511627776 ∧ b.length ≤ 1099511627776) a [], (fun (a : List TSlot) (b : List TSlot) => (dB (decide (a = b)) : D)) a [], (fun (a : List TSlot) (b : List TSlot) => []) a []) :=
  mkCon_fn (fun x y h _ => c90_inj x y h) ((a, []) : (List TSlot) × (List TSlot)) (by simp [nz, nz1, ML_nil, encLTSlot]) rfl
@[simp] theorem c90_fn3 (s_a : Nat) (z_a : D) (s_b : Nat) (z_b : D) : c90.fn [.sl false s_a z_a [], .sl false s_b z_b []] [] = some ((fun (a : List TSlot) (b : List TSlot) => a.length ≤ 1099511627776 ∧ b.length ≤ 1099511627776) [] [], (fun (a : List TSlot) (b : List TSlot) => (dB (decide (a = b)) : D)) [] [], (fun (a : List TSlot) (b : List TSlot) => []) [] []) :=
  mkCon_fn (fun x y h _ => c90_inj x y h) (([], []) : (List TSlot) × (List TSlot)) (by simp [nz, nz1, ML_nil, encLTSlot]) rfl
theorem c90_pc (a : List TSlot) (b : List TSlot) (hpre : a.length ≤ 1099511627776 ∧ b.length ≤ 1099511627776) : PCo Try.prog 90 [encLTSlot a, encLTSlot b] (Tab.of []) (dB (decide (a = b))) (Tab.of []) := by
  refine pco_of_run [] (E := ⟨[c150], []⟩) (m := false) (base := 0) (Env.ok_cons c150_ok Env.ok_nil) G_ok mix 300 6 Try.func90 (by kernel_rfl) rfl (by kernel_rfl) (by kernel_rfl) rfl ?_
  simp [Try.f90]
  obtain ⟨pre1, pre2⟩ := hpre
  refine ⟨fun h => ?_, fun h => by intro e; subst e; exact absurd rfl h⟩
  refine loop_inv (fun p : Nat => p ≤ a.length ∧ a.take p = b.take p) (fun p => [(0, encLTSlot a), (1, encLTSlot b), (5, dI p)]) (fun _ => []) 1 (fun p => a.length - p) 0 100 (by simp) (by simp) (by simp) ?_
  intro p ⟨hp, hi⟩
  simp
  refine ⟨fun hlt => ⟨by omega, fun h2 => ⟨by omega, Again.mk (p + 1) ⟨by omega, take_eq_step hi (by omega) (by omega) h2⟩ (by simp) (by first | omega | (simp; omega))⟩, fun h2 => by intro e; subst e; exact absurd rfl h2⟩, fun hge => ?_⟩
  exact take_eq_full hi (by omega) (by omega)
theorem c90_ok : c90.ok Try.prog := mkCon_ok fun ⟨a, b⟩ hpre => c90_pc a b hpre
def isFree (s : TSlot) : Bool := decide (s.Thing = 0)
/-- (loop.example/g03007/impl.Slot).isFree -/
noncomputable def c157 : Con := mkCon 157 false (α := TSlot) (fun x => (fun (s : TSlot) => [encTSlot s]) x) (fun _ => []) (fun x => (fun (s : TSlot) => True) x) (fun x => (fun (s : TSlot) => (dB (isFree s) : D)) x) (fun x => (fun (s : TSlot) => []) x)
@[simp] theorem c157_f : c157.f = 157 := rfl
@[simp] theorem c157_own : c157.own = false := rfl
theorem c157_inj : ∀ u_ v_ : TSlot, ((fun x => (fun (s : TSlot) => [encTSlot s]) x) u_).map nz = ((fun x => (fun (s : TSlot) => [encTSlot s]) x) v_).map nz → u_ = v_ := by
  intro u_ v_ h
  obtain ⟨s_Id, s_Size, s_Thing⟩ := u_
  obtain ⟨s_Id', s_Size', s_Thing'⟩ := v_
  simp [nz_lit, nz1_lit, nz_agg, nz_sl, nz1_sl, encTSlot] at h
  first | (simp [h]; done) | (obtain ⟨⟩ := h; simp_all; done) | simp_all
@[simp] theorem c157_fn (s_Id : Int) (s_Size : Int) (s_Thing : Int) : c157.fn [.agg [.lit (.int .i64 s_Id), .lit (.int .i64 s_Size), .lit (.int .i64 s_Thing)]] [] = some ((fun (s : TSlot) => True) ⟨s_Id, s_Size, s_Thing⟩, (fun (s : TSlot) => (dB (isFree s) : D)) ⟨s_Id, s_Size, s_Thing⟩, (fun (s : TSlot) => []) ⟨s_Id, s_Size, s_Thing⟩) :=
  mkCon_fn (fun x y h _ => c157_inj x y h) (⟨s_Id, s_Size, s_Thing⟩ : TSlot) (by simp [nz, nz1, ML_nil, encTSlot]) rfl
theorem c157_pc (s : TSlot) : PCo Try.prog 157 [encTSlot s] (Tab.of []) (dB (isFree s)) (Tab.of []) := by
  obtain ⟨s_Id, s_Size, s_Thing⟩ := s
  refine pco_of_run [] (E := ⟨[], []⟩) (m := false) (base := 0) Env.ok_nil G_ok mix 300 6 Try.func157 (by kernel_rfl) rfl (by kernel_rfl) (by kernel_rfl) rfl ?_
  simp [Try.f157]
  first | done | rfl
theorem c157_ok : c157.ok Try.prog := mkCon_ok fun s hpre => c157_pc s
/-- loop.example/g03007/impl.countWhere[loop.example/g03007/impl.Slot] -/
noncomputable def c156 : Con := mkCon 156 false (α := (List TSlot)) (fun x => (fun (l : List TSlot) => ([encLTSlot l, .fn (.func 157) [] []] : List D)) x) (fun x => (fun (l : List TSlot) => ([] : List (Nm × OO))) x) (fun x => (fun (l : List TSlot) => l.length ≤ 1099511627776) x) (fun x => (fun (l : List TSlot) => (dI (l.countP isFree) : D)) x) (fun x => (fun (l : List TSlot) => ([] : List (Nm × OO))) x)
@[simp] theorem c156_f : c156.f = 156 := rfl
@[simp] theorem c156_own : c156.own = false := rfl
theorem c156_inj : ∀ u_ v_ : (List TSlot), ((fun x => (fun (l : List TSlot) => ([encLTSlot l, .fn (.func 157) [] []] : List D)) x) u_).map nz = ((fun x => (fun (l : List TSlot) => ([encLTSlot l, .fn (.func 157) [] []] : List D)) x) v_).map nz → (fun x => (fun (l : List TSlot) => ([] : List (Nm × OO))) x) u_ = (fun x => (fun (l : List TSlot) => ([] : List (Nm × OO))) x) v_ → u_ = v_ := by
  intro u_ v_ h h2_
  obtain l := u_
  obtain l' := v_
  simp [nz_lit, nz1_lit, nz_agg, nz_sl, nz1_sl, nz_sx, nz_el, nz1_el, nz_own, nz1_own, nz_ptr, nz_fn, nz_iface] at h h2_
  first | (simp [h, h2_]; done) | simp_all | grind
@[simp] theorem c156_fn (l : List TSlot) : c156.fn ([(.sl false 3 yTSlot (ML encTSlot l)), .fn (.func 157) [] []]) ([]) = some (l.length ≤ 1099511627776, dI (l.countP isFree), []) :=
  mkCon_fn c156_inj (l : (List TSlot)) rfl rfl
theorem c156_pc (l : List TSlot) (hpre : l.length ≤ 1099511627776) : PCo Try.prog 156 ([encLTSlot l, .fn (.func 157) [] []]) (Tab.of ([])) (dI (l.countP isFree)) (Tab.of ([])) := by
  refine pco_of_run [] (E := ⟨[c157], []⟩) (m := false) (base := 0) (Env.ok_cons c157_ok Env.ok_nil) G_ok mix 300 6 Try.func156 (by kernel_rfl) rfl (by kernel_rfl) (by kernel_rfl) rfl ?_
  simp [Try.f156]
  refine loop_inv (fun p : Nat => p ≤ l.length) (fun p => [(1, .fn (.func 157) [] []), (5, dI ((l.take p).countP isFree)), (8, encLTSlot l), (9, dI l.length), (10, dI p)]) (fun _ => []) 1 (fun p => l.length - p) 0 400 (by simp) (by simp) (by simp) ?_
  intro p hp
  simp
  refine ⟨fun hlt => ?_, fun hge => ?_⟩
  · have hs := countP_at (want := isFree) (d := default) hlt
    have hb := countP_take (want := isFree) (l := l) (p := p)
    repeat' (first | omega | refine And.intro ?_ ?_ | intro _)
    all_goals (rename_i hw; refine Again.mk (p + 1) (by omega) (by simp [hs, hw]) (by first | omega | (simp; omega)))
  · rw [List.take_of_length_le hge]
theorem c156_ok : c156.ok Try.prog := mkCon_ok fun l hpre => c156_pc l hpre
/-- loop.example/g03007/impl.FreeSlots -/
noncomputable def c103 : Con := mkCon 103 false (α := (List TSlot)) (fun x => (fun (l : List TSlot) => [encLTSlot l]) x) (fun _ => []) (fun x => (fun (l : List TSlot) => l.length ≤ 1099511627776) x) (fun x => (fun (l : List TSlot) => (dI (l.countP isFree) : D)) x) (fun x => (fun (l : List TSlot) => []) x)
@[simp] theorem c103_f : c103.f = 103 := rfl
@[simp] theorem c103_own : c103.own = false := rfl
theorem c103_inj : ∀ u_ v_ : (List TSlot), ((fun x => (fun (l : List TSlot) => [encLTSlot l]) x) u_).map nz = ((fun x => (fun (l : List TSlot) => [encLTSlot l]) x) v_).map nz → u_ = v_ := by
  intro u_ v_ h
  obtain l := u_
  obtain l' := v_
  simp [nz_lit, nz1_lit, nz_agg, nz_sl, nz1_sl, encLTSlot] at h
  first | (simp [h]; done) | (obtain ⟨⟩ := h; simp_all; done) | simp_all
@[simp] theorem c103_fn (l : List TSlot) : c103.fn [.sl false 3 yTSlot (ML encTSlot l)] [] = some ((fun (l : List TSlot) => l.length ≤ 1099511627776) l, (fun (l : List TSlot) => (dI (l.countP isFree) : D)) l, (fun (l : List TSlot) => []) l) :=
  mkCon_fn (fun x y h _ => c103_inj x y h) (l : (List TSlot)) (by simp [nz, nz1, ML_nil, encLTSlot]) rfl
@[simp] theorem c103_fn1 (s_l : Nat) (z_l : D) : c103.fn [.sl false s_l z_l []] [] = some ((fun (l : List TSlot) => l.length ≤ 1099511627776) [], (fun (l : List TSlot) => (dI (l.countP isFree) : D)) [], (fun (l : List TSlot) => []) []) :=
  mkCon_fn (fun x y h _ => c103_inj x y h) ([] : (List TSlot)) (by simp [nz, nz1, ML_nil, encLTSlot]) rfl
theorem c103_pc (l : List TSlot) (hpre : l.length ≤ 1099511627776) : PCo Try.prog 103 [encLTSlot l] (Tab.of []) (dI (l.countP isFree)) (Tab.of []) := by
  refine pco_of_run [] (E := ⟨[c156, c157, c157], []⟩) (m := false) (base := 0) (Env.ok_cons c156_ok (Env.ok_cons c157_ok (Env.ok_cons c157_ok Env.ok_nil))) G_ok mix 300 6 Try.func103 (by kernel_rfl) rfl (by kernel_rfl) (by kernel_rfl) rfl ?_
  simp [Try.f103]
  exact hpre
theorem c103_ok : c103.ok Try.prog := mkCon_ok fun l hpre => c103_pc l hpre
/-- loop.example/g03007/spec.FreeSlots -/
noncomputable def c102 : Con := mkCon 102 false (α := (List TSlot)) (fun x => (fun (l : List TSlot) => [encLTSlot l]) x) (fun _ => []) (fun x => (fun (l : List TSlot) => l.length ≤ 1099511627776) x) (fun x => (fun (l : List TSlot) => (dI (l.countP isFree) : D)) x) (fun x => (fun (l : List TSlot) => []) x)
@[simp] theorem c102_f : c102.f = 102 := rfl
@[simp] theorem c102_own : c102.own = false := rfl
theorem c102_inj : ∀ u_ v_ : (List TSlot), ((fun x => (fun (l : List TSlot) => [encLTSlot l]) x) u_).map nz = ((fun x => (fun (l : List TSlot) => [encLTSlot l]) x) v_).map nz → u_ = v_ := by
  intro u_ v_ h
  obtain l := u_
  obtain l' := v_
  simp [nz_lit, nz1_lit, nz_agg, nz_sl, nz1_sl, encLTSlot] at h
  first | (simp [h]; done) | (obtain ⟨⟩ := h; simp_all; done) | simp_all
@[simp] theorem c102_fn (l : List TSlot) : c102.fn [.sl false 3 yTSlot (ML encTSlot l)] [] = some ((fun (l : List TSlot) => l.length ≤ 1099511627776) l, (fun (l : List TSlot) => (dI (l.countP isFree) : D)) l, (fun (l : List TSlot) => []) l) :=
  mkCon_fn (fun x y h _ => c102_inj x y h) (l : (List TSlot)) (by simp [nz, nz1, ML_nil, encLTSlot]) rfl
@[simp] theorem c102_fn1 (s_l : Nat) (z_l : D) : c102.fn [.sl false s_l z_l []] [] = some ((fun (l : List TSlot) => l.length ≤ 1099511627776) [], (fun (l : List TSlot) => (dI (l.countP isFree) : D)) [], (fun (l : List TSlot) => []) []) :=
  mkCon_fn (fun x y h _ => c102_inj x y h) ([] : (List TSlot)) (by simp [nz, nz1, ML_nil, encLTSlot]) rfl
theorem c102_pc (l : List TSlot) (hpre : l.length ≤ 1099511627776) : PCo Try.prog 102 [encLTSlot l] (Tab.of []) (dI (l.countP isFree)) (Tab.of []) := by
  refine pco_of_run [] (E := ⟨[], []⟩) (m := false) (base := 0) Env.ok_nil G_ok mix 300 6 Try.func102 (by kernel_rfl) rfl (by kernel_rfl) (by kernel_rfl) rfl ?_
  simp [Try.f102]
  refine loop_inv (fun p : Nat => p ≤ l.length) (fun p => [(0, encLTSlot l), (3, dI ((l.take p).countP isFree)), (4, dI p)]) (fun _ => []) 1 (fun p => l.length - p) 0 400 (by simp) (by simp) (by simp) ?_
  intro p hp
  simp
  refine ⟨fun hlt => ?_, fun hge => ?_⟩
  · have hs := countP_at (want := isFree) (d := default) hlt
    have hb := countP_take (want := isFree) (l := l) (p := p)
    repeat' (first | omega | refine And.intro ?_ ?_ | intro _)
    all_goals (rename_i hw; refine Again.mk (p + 1) (by omega) (by simp [hs, isFree, hw]) (by first | omega | (simp; omega)))
  · rw [List.take_of_length_le hge]
theorem c102_ok : c102.ok Try.prog := mkCon_ok fun l hpre => c102_pc l hpre
/-- loop.example/g03007/laws.FnExactFreeSlots -/
theorem law26 (l : List TSlot) (wl : wfLTSlot l) : PCo Try.prog 26 [encLTSlot l] (Tab.of []) (dB true) (Tab.of []) := by
  refine pco_of_run [] (E := ⟨[c86, c88, c90, c102, c103], []⟩) (m := false) (base := 0) (Env.ok_cons c86_ok (Env.ok_cons c88_ok (Env.ok_cons c90_ok (Env.ok_cons c102_ok (Env.ok_cons c103_ok Env.ok_nil))))) G_ok mix 400 6 Try.func26 (by kernel_rfl) rfl (by kernel_rfl) (by kernel_rfl) rfl ?_
  simp [Try.f26]
  have h_l : l.length ≤ maxLen := wl.1
  repeat' (first | omega | assumption | refine And.intro ?_ ?_ | intro _)
  all_goals first | omega | grind | (split at * <;> omega)
theorem law26_pc (D0 : D) (h0 : Sh G 9 79 D0) : PC Try.prog 26 [D0] (dB true) [] := by
  obtain ⟨l, rfl, wl⟩ := sh79 (n := 6) h0
  exact law26 l wl
def mLargest (l : List TSlot) : Int := l.foldl (fun n s => if s.Thing = 0 then max n s.Size else n) 0
theorem mLargest_at {l : List TSlot} {p : Nat} (h : p < l.length) : mLargest (l.take (p + 1)) = if (l[p]?.getD default).Thing = 0 then max (mLargest (l.take p)) (l[p]?.getD default).Size else mLargest (l.take p) := by
  simp only [mLargest]; rw [foldl_at (d := default) h]
/-- loop.example/g03007/spec.LargestFree -/
noncomputable def c116 : Con := mkCon 116 false (α := (List TSlot)) (fun x => (fun (l : List TSlot) => [encLTSlot l]) x) (fun _ => []) (fun x => (fun (l : List TSlot) => l.length ≤ 1099511627776) x) (fun x => (fun (l : List TSlot) => (dI (mLargest l) : D)) x) (fun x => (fun (l : List TSlot) => []) x)
@[simp] theorem c116_f : c116.f = 116 := rfl
@[simp] theorem c116_own : c116.own = false := rfl
theorem c116_inj : ∀ u_ v_ : (List TSlot), ((fun x => (fun (l : List TSlot) => [encLTSlot l]) x) u_).map nz = ((fun x => (fun (l : List TSlot) => [encLTSlot l]) x) v_).map nz → u_ = v_ := by
  intro u_ v_ h
  obtain l := u_
  obtain l' := v_
  simp [nz_lit, nz1_lit, nz_agg, nz_sl, nz1_sl, encLTSlot] at h
  first | (simp [h]; done) | (obtain ⟨⟩ := h; simp_all; done) | simp_all
@[simp] theorem c116_fn (l : List TSlot) : c116.fn [.sl false 3 yTSlot (ML encTSlot l)] [] = some ((fun (l : List TSlot) => l.length ≤ 1099511627776) l, (fun (l : List TSlot) => (dI (mLargest l) : D)) l, (fun (l : List TSlot) => []) l) :=
  mkCon_fn (fun x y h _ => c116_inj x y h) (l : (List TSlot)) (by simp [nz, nz1, ML_nil, encLTSlot]) rfl
@[simp] theorem c116_fn1 (s_l : Nat) (z_l : D) : c116.fn [.sl false s_l z_l []] [] = some ((fun (l : List TSlot) => l.length ≤ 1099511627776) [], (fun (l : List TSlot) => (dI (mLargest l) : D)) [], (fun (l : List TSlot) => []) []) :=
  mkCon_fn (fun x y h _ => c116_inj x y h) ([] : (List TSlot)) (by simp [nz, nz1, ML_nil, encLTSlot]) rfl
theorem c116_pc (l : List TSlot) (hpre : l.length ≤ 1099511627776) : PCo Try.prog 116 [encLTSlot l] (Tab.of []) (dI (mLargest l)) (Tab.of []) := by
  refine pco_of_run [] (E := ⟨[c166], []⟩) (m := false) (base := 0) (Env.ok_cons c166_ok Env.ok_nil) G_ok mix 300 6 Try.func116 (by kernel_rfl) rfl (by kernel_rfl) (by kernel_rfl) rfl ?_
  simp [Try.f116]
  refine loop_inv (fun p : Nat => p ≤ l.length) (fun p => [(0, encLTSlot l), (3, dI (mLargest (l.take p))), (4, dI p)]) (fun _ => []) 1 (fun p => l.length - p) 0 400 (by simp) (by simp) (by simp [mLargest]) ?_
  intro p hp
  simp
  refine ⟨fun hlt => ?_, fun hge => ?_⟩
  · have hs := mLargest_at hlt
    repeat' (first | omega | refine And.intro ?_ ?_ | intro _)
    all_goals (rename_i hw; refine Again.mk (p + 1) (by omega) (by simp [hs, hw]) (by first | omega | (simp; omega)))
  · rw [List.take_of_length_le hge]
theorem c116_ok : c116.ok Try.prog := mkCon_ok fun l hpre => c116_pc l hpre
/-- loop.example/g03007/impl.LargestFree -/
noncomputable def c117 : Con := mkCon 117 false (α := (List TSlot)) (fun x => (fun (l : List TSlot) => [encLTSlot l]) x) (fun _ => []) (fun x => (fun (l : List TSlot) => l.length ≤ 1099511627776) x) (fun x => (fun (l : List TSlot) => (dI (mLargest l) : D)) x) (fun x => (fun (l : List TSlot) => []) x)
@[simp] theorem c117_f : c117.f = 117 := rfl
@[simp] theorem c117_own : c117.own = false := rfl
theorem c117_inj : ∀ u_ v_ : (List TSlot), ((fun x => (fun (l : List TSlot) => [encLTSlot l]) x) u_).map nz = ((fun x => (fun (l : List TSlot) => [encLTSlot l]) x) v_).map nz → u_ = v_ := by
  intro u_ v_ h
  obtain l := u_
  obtain l' := v_
  simp [nz_lit, nz1_lit, nz_agg, nz_sl, nz1_sl, encLTSlot] at h
  first | (simp [h]; done) | (obtain ⟨⟩ := h; simp_all; done) | simp_all
@[simp] theorem c117_fn (l : List TSlot) : c117.fn [.sl false 3 yTSlot (ML encTSlot l)] [] = some ((fun (l : List TSlot) => l.length ≤ 1099511627776) l, (fun (l : List TSlot) => (dI (mLargest l) : D)) l, (fun (l : List TSlot) => []) l) :=
  mkCon_fn (fun x y h _ => c117_inj x y h) (l : (List TSlot)) (by simp [nz, nz1, ML_nil, encLTSlot]) rfl
@[simp] theorem c117_fn1 (s_l : Nat) (z_l : D) : c117.fn [.sl false s_l z_l []] [] = some ((fun (l : List TSlot) => l.length ≤ 1099511627776) [], (fun (l : List TSlot) => (dI (mLargest l) : D)) [], (fun (l : List TSlot) => []) []) :=
  mkCon_fn (fun x y h _ => c117_inj x y h) ([] : (List TSlot)) (by simp [nz, nz1, ML_nil, encLTSlot]) rfl
theorem c117_pc (l : List TSlot) (hpre : l.length ≤ 1099511627776) : PCo Try.prog 117 [encLTSlot l] (Tab.of []) (dI (mLargest l)) (Tab.of []) := by
  refine pco_of_run [] (E := ⟨[c157, c167, c157], []⟩) (m := false) (base := 0) (Env.ok_cons c157_ok (Env.ok_cons c167_ok (Env.ok_cons c157_ok Env.ok_nil))) G_ok mix 300 6 Try.func117 (by kernel_rfl) rfl (by kernel_rfl) (by kernel_rfl) rfl ?_
  simp [Try.f117]
  refine loop_inv (fun p : Nat => p ≤ l.length) (fun p => [(3, dI (mLargest (l.take p))), (6, encLTSlot l), (7, dI l.length), (8, dI p)]) (fun _ => []) 1 (fun p => l.length - p) 0 400 (by simp) (by simp) (by simp [mLargest]) ?_
  intro p hp
  simp
  refine ⟨fun hlt => ?_, fun hge => ?_⟩
  · have hs := mLargest_at hlt
    repeat' (first | omega | refine And.intro ?_ ?_ | intro _)
    all_goals (rename_i hw; simp only [isFree, decide_eq_true_eq, decide_eq_false_iff_not] at hw; refine Again.mk (p + 1) (by omega) (by simp [hs, hw]) (by first | omega | (simp; omega)))
  · rw [List.take_of_length_le hge]
theorem c117_ok : c117.ok Try.prog := mkCon_ok fun l hpre => c117_pc l hpre
/-- loop.example/g03007/laws.FnExactLargestFree -/
theorem law31 (l : List TSlot) (wl : wfLTSlot l) : PCo Try.prog 31 [encLTSlot l] (Tab.of []) (dB true) (Tab.of []) := by
  refine pco_of_run [] (E := ⟨[c86, c88, c90, c116, c117], []⟩) (m := false) (base := 0) (Env.ok_cons c86_ok (Env.ok_cons c88_ok (Env.ok_cons c90_ok (Env.ok_cons c116_ok (Env.ok_cons c117_ok Env.ok_nil))))) G_ok mix 400 6 Try.func31 (by kernel_rfl) rfl (by kernel_rfl) (by kernel_rfl) rfl ?_
  simp [Try.f31]
  have h_l : l.length ≤ maxLen := wl.1
  repeat' (first | omega | assumption | refine And.intro ?_ ?_ | intro _)
  all_goals first | omega | grind | (split at * <;> omega)
theorem law31_pc (D0 : D) (h0 : Sh G 9 79 D0) : PC Try.prog 31 [D0] (dB true) [] := by
  obtain ⟨l, rfl, wl⟩ := sh79 (n := 6) h0
  exact law31 l wl

end Go.Proofs.Ytnnieeojfdjcoaa
