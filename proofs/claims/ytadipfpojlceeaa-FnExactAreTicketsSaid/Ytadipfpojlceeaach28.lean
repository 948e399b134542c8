/- Contracts of the functions that the laws run. -/
import Derived.Test.Ytadipfpojlceeaach01
import Derived.Test.YtadipfpojlceeaaEngB
namespace Go.Proofs.Ytadipfpojlceeaa
open Go Go.Eng
set_option linter.unusedSimpArgs false
set_option linter.unusedVariables false
set_option maxRecDepth 10000
set_option maxHeartbeats 1000000
/-- loop.example/g03007/laws.toTicket -/
noncomputable def c140 : Con := mkCon 140 false (α := TTicket) (fun x => (fun (a : TTicket) => [encTTicket a]) x) (fun _ => []) (fun x => (fun (a : TTicket) => True) x) (fun x => (fun (a : TTicket) => (encTTicket a : D)) x) (fun x => (fun (a : TTicket) => []) x)
@[simp] theorem c140_f : c140.f = 140 := rfl
@[simp] theorem c140_own : c140.own = false := rfl
theorem c140_inj : ∀ u_ v_ : TTicket, ((fun x => (fun (a : TTicket) => [encTTicket a]) x) u_).map nz = ((fun x => (fun (a : TTicket) => [encTTicket a]) x) v_).map nz → u_ = v_ := by
  intro u_ v_ h
  obtain ⟨a_Id, a_At, a_Hour⟩ := u_
  obtain ⟨a_Id', a_At', a_Hour'⟩ := v_
  simp [nz_lit, nz1_lit, nz_agg, nz_sl, nz1_sl, encTTicket] at h
  first | (simp [h]; done) | (obtain ⟨⟩ := h; simp_all; done) | simp_all
@[simp] theorem c140_fn (a_Id : Int) (a_At : Int) (a_Hour : Int) : c140.fn [.agg [.lit (.int .i64 a_Id), .lit (.int .i64 a_At), .lit (.int .i64 a_Hour)]] [] = some ((fun (a : TTicket) => True) ⟨a_Id, a_At, a_Hour⟩, (fun (a : TTicket) => (encTTicket a : D)) ⟨a_Id, a_At, a_Hour⟩, (fun (a : TTicket) => []) ⟨a_Id, a_At, a_Hour⟩) :=
  mkCon_fn (fun x y h _ => c140_inj x y h) (⟨a_Id, a_At, a_Hour⟩ : TTicket) (by simp [nz, nz1, ML_nil, encTTicket]) rfl
theorem c140_pc (a : TTicket) : PCo Try.prog 140 [encTTicket a] (Tab.of []) (encTTicket a) (Tab.of []) := by
  obtain ⟨a_Id, a_At, a_Hour⟩ := a
  refine pco_of_run [] (E := ⟨[], []⟩) (m := false) (base := 0) Env.ok_nil G_ok mix 300 6 Try.func140 (by kernel_rfl) rfl (by kernel_rfl) (by kernel_rfl) rfl ?_
  simp [Try.f140]
  all_goals first | omega | (rw [Bool.eq_iff_iff]; simp; omega) | grind
theorem c140_ok : c140.ok Try.prog := mkCon_ok fun a hpre => c140_pc a
/-- loop.example/g03007/laws.eqTicket -/
noncomputable def c144 : Con := mkCon 144 false (α := TTicket × TTicket) (fun x => (fun (a : TTicket) (b : TTicket) => [encTTicket a, encTTicket b]) x.1 x.2) (fun _ => []) (fun x => (fun (a : TTicket) (b : TTicket) => True) x.1 x.2) (fun x => (fun (a : TTicket) (b : TTicket) => (dB (decide (a = b)) : D)) x.1 x.2) (fun x => (fun (a : TTicket) (b : TTicket) => []) x.1 x.2)
@[simp] theorem c144_f : c144.f = 144 := rfl
@[simp] theorem c144_own : c144.own = false := rfl
theorem c144_inj : ∀ u_ v_ : TTicket × TTicket, ((fun x => (fun (a : TTicket) (b : TTicket) => [encTTicket a, encTTicket b]) x.1 x.2) u_).map nz = ((fun x => (fun (a : TTicket) (b : TTicket) => [encTTicket a, encTTicket b]) x.1 x.2) v_).map nz → u_ = v_ := by
  intro u_ v_ h
  obtain ⟨⟨a_Id, a_At, a_Hour⟩, ⟨b_Id, b_At, b_Hour⟩⟩ := u_
  obtain ⟨⟨a_Id', a_At', a_Hour'⟩, ⟨b_Id', b_At', b_Hour'⟩⟩ := v_
  simp [nz_lit, nz1_lit, nz_agg, nz_sl, nz1_sl, encTTicket] at h
  first | (simp [h]; done) | (obtain ⟨⟩ := h; simp_all; done) | simp_all
@[simp] theorem c144_fn (a_Id : Int) (a_At : Int) (a_Hour : Int) (b_Id : Int) (b_At : Int) (b_Hour : Int) : c144.fn [.agg [.lit (.int .i64 a_Id), .lit (.int .i64 a_At), .lit (.int .i64 a_Hour)], .agg [.lit (.int .i64 b_Id), .lit (.int .i64 b_At), .lit (.int .i64 b_Hour)]] [] = some ((fun (a : TTicket) (b : TTicket) => True) ⟨a_Id, a_At, a_Hour⟩ ⟨b_Id, b_At, b_Hour⟩, (fun (a : TTicket) (b : TTicket) => (dB (decide (a = b)) : D)) ⟨a_Id, a_At, a_Hour⟩ ⟨b_Id, b_At, b_Hour⟩, (fun (a : TTicket) (b : TTicket) => []) ⟨a_Id, a_At, a_Hour⟩ ⟨b_Id, b_At, b_Hour⟩) :=
  mkCon_fn (fun x y h _ => c144_inj x y h) ((⟨a_Id, a_At, a_Hour⟩, ⟨b_Id, b_At, b_Hour⟩) : TTicket × TTicket) (by simp [nz, nz1, ML_nil, encTTicket]) rfl
theorem c144_pc (a : TTicket) (b : TTicket) : PCo Try.prog 144 [encTTicket a, encTTicket b] (Tab.of []) (dB (decide (a = b))) (Tab.of []) := by
  obtain ⟨a_Id, a_At, a_Hour⟩ := a
  obtain ⟨b_Id, b_At, b_Hour⟩ := b
  refine pco_of_run [] (E := ⟨[], []⟩) (m := false) (base := 0) Env.ok_nil G_ok mix 300 6 Try.func144 (by kernel_rfl) rfl (by kernel_rfl) (by kernel_rfl) rfl ?_
  simp [Try.f144]
  all_goals first | omega | (rw [Bool.eq_iff_iff]; simp; omega) | grind
theorem c144_ok : c144.ok Try.prog := mkCon_ok fun ⟨a, b⟩ hpre => c144_pc a b
/-- loop.example/g03007/laws.szTicketS -/
noncomputable def c63 : Con := mkCon 63 false (α := (List TTicket) × Int) (fun x => (fun (l : List TTicket) (left : Int) => [encLTTicket l, dI left]) x.1 x.2) (fun _ => []) (fun x => (fun (l : List TTicket) (left : Int) => l.length ≤ maxLen ∧ 0 ≤ left ∧ left ≤ 1099511627776) x.1 x.2) (fun x => (fun (l : List TTicket) (left : Int) => (dI (if left - l.length < 0 then -1 else left - l.length) : D)) x.1 x.2) (fun x => (fun (l : List TTicket) (left : Int) => []) x.1 x.2)
@[simp] theorem c63_f : c63.f = 63 := rfl
@[simp] theorem c63_own : c63.own = false := rfl
theorem c63_inj : ∀ u_ v_ : (List TTicket) × Int, ((fun x => (fun (l : List TTicket) (left : Int) => [encLTTicket l, dI left]) x.1 x.2) u_).map nz = ((fun x => (fun (l : List TTicket) (left : Int) => [encLTTicket l, dI left]) x.1 x.2) v_).map nz → u_ = v_ := by
  intro u_ v_ h
  obtain ⟨l, left⟩ := u_
  obtain ⟨l', left'⟩ := v_
  simp [nz_lit, nz1_lit, nz_agg, nz_sl, nz1_sl, encLTTicket] at h
  first | (simp [h]; done) | (obtain ⟨⟩ := h; simp_all; done) | simp_all
@[simp] theorem c63_fn (l : List TTicket) (left : Int) : c63.fn [.sl false 3 yTTicket (ML encTTicket l), .lit (.int .i64 left)] [] = some ((fun (l : List TTicket) (left : Int) => l.length ≤ maxLen ∧ 0 ≤ left ∧ left ≤ 1099511627776) l left, (fun (l : List TTicket) (left : Int) => (dI (if left - l.length < 0 then -1 else left - l.length) : D)) l left, (fun (l : List TTicket) (left : Int) => []) l left) :=
  mkCon_fn (fun x y h _ => c63_inj x y h) ((l, left) : (List TTicket) × Int) (by simp [nz, nz1, ML_nil, encLTTicket]) rfl
@[simp] theorem c63_fn1 (s_l : Nat) (z_l : D) (left : Int) : c63.fn [.sl false s_l z_l [], .lit (.int .i64 left)] [] = some ((fun (l : List TTicket) (left : Int) => l.length ≤ maxLen ∧ 0 ≤ left ∧ left ≤ 1099511627776) [] left, (fun (l : List TTicket) (left : Int) => (dI (if left - l.length < 0 then -1 else left - l.length) : D)) [] left, (fun (l : List TTicket) (left : Int) => []) [] left) :=
  mkCon_fn (fun x y h _ => c63_inj x y h) (([], left) : (List TTicket) × Int) (by simp [nz, nz1, ML_nil, encLTTicket]) rfl
theorem c63_pc (l : List TTicket) (left : Int) (hpre : l.length ≤ maxLen ∧ 0 ≤ left ∧ left ≤ 1099511627776) : PCo Try.prog 63 [encLTTicket l, dI left] (Tab.of []) (dI (if left - l.length < 0 then -1 else left - l.length)) (Tab.of []) := by
  refine pco_of_run [] (E := ⟨[], []⟩) (m := false) (base := 0) Env.ok_nil G_ok mix 300 6 Try.func63 (by kernel_rfl) rfl (by kernel_rfl) (by kernel_rfl) rfl ?_
  simp [Try.f63]
  simp [maxLen] at hpre
  all_goals omega
theorem c63_ok : c63.ok Try.prog := mkCon_ok fun ⟨l, left⟩ hpre => c63_pc l left hpre
/-- loop.example/g03007/laws.toTicketS -/
noncomputable def c65 : Con := mkCon 65 false (α := (List TTicket)) (fun x => (fun (l : List TTicket) => [encLTTicket l]) x) (fun _ => []) (fun x => (fun (l : List TTicket) => l.length ≤ 1099511627776) x) (fun x => (fun (l : List TTicket) => (encLTTicket l : D)) x) (fun x => (fun (l : List TTicket) => []) x)
@[simp] theorem c65_f : c65.f = 65 := rfl
@[simp] theorem c65_own : c65.own = false := rfl
theorem c65_inj : ∀ u_ v_ : (List TTicket), ((fun x => (fun (l : List TTicket) => [encLTTicket l]) x) u_).map nz = ((fun x => (fun (l : List TTicket) => [encLTTicket l]) x) v_).map nz → u_ = v_ := by
  intro u_ v_ h
  obtain l := u_
  obtain l' := v_
  simp [nz_lit, nz1_lit, nz_agg, nz_sl, nz1_sl, encLTTicket] at h
  first | (simp [h]; done) | (obtain ⟨⟩ := h; simp_all; done) | simp_all
@[simp] theorem c65_fn (l : List TTicket) : c65.fn [.sl false 3 yTTicket (ML encTTicket l)] [] = some ((fun (l : List TTicket) => l.length ≤ 1099511627776) l, (fun (l : List TTicket) => (encLTTicket l : D)) l, (fun (l : List TTicket) => []) l) :=
  mkCon_fn (fun x y h _ => c65_inj x y h) (l : (List TTicket)) (by simp [nz, nz1, ML_nil, encLTTicket]) rfl
@[simp] theorem c65_fn1 (s_l : Nat) (z_l : D) : c65.fn [.sl false s_l z_l []] [] = some ((fun (l : List TTicket) => l.length ≤ 1099511627776) [], (fun (l : List TTicket) => (encLTTicket l : D)) [], (fun (l : List TTicket) => []) []) :=
  mkCon_fn (fun x y h _ => c65_inj x y h) ([] : (List TTicket)) (by simp [nz, nz1, ML_nil, encLTTicket]) rfl
theorem c65_pc (l : List TTicket) (hpre : l.length ≤ 1099511627776) : PCo Try.prog 65 [encLTTicket l] (Tab.of []) (encLTTicket l) (Tab.of []) := by
  refine pco_of_run [] (E := ⟨[c140], []⟩) (m := false) (base := 0) (Env.ok_cons c140_ok Env.ok_nil) G_ok mix 300 6 Try.func65 (by kernel_rfl) rfl (by kernel_rfl) (by kernel_rfl) rfl ?_
  simp [Try.f65]
  refine ⟨by omega, ?_⟩
  refine loop_inv (fun p : Nat => p ≤ l.length) (fun p => [(0, encLTTicket l), (3, .own (0, 1) 3 0 l.length), (4, dI p)]) (fun p => [((0, 1), .arr false 3 yTTicket (ML encTTicket (l.take p ++ List.replicate (l.length - p) ⟨0, 0, 0⟩)))]) 2 (fun p => l.length - p) 0 100 (by simp) (by simp) (by first | (simp; done) | (simp; simp only [ML, List.map_replicate]; rfl)) ?_
  intro p hp
  simp
  refine ⟨fun hlt => ⟨by omega, by omega, Again.mk (p + 1) (by omega) (by simp [fill_step hlt]) (by first | omega | (simp; omega))⟩, fun hge => ?_⟩
  have : p = l.length := by omega
  subst this
  simp
theorem c65_ok : c65.ok Try.prog := mkCon_ok fun l hpre => c65_pc l hpre
/-- loop.example/g03007/laws.eqTicketS -/
noncomputable def c67 : Con := mkCon 67 false (α := (List TTicket) × (List TTicket)) (fun x => (fun (a : List TTicket) (b : List TTicket) => [encLTTicket a, encLTTicket b]) x.1 x.2) (fun _ => []) (fun x => (fun (a : List TTicket) (b : List TTicket) => a.length ≤ 1099511627776 ∧ b.length ≤ 1099511627776) x.1 x.2) (fun x => (fun (a : List TTicket) (b : List TTicket) => (dB (decide (a = b)) : D)) x.1 x.2) (fun x => (fun (a : List TTicket) (b : List TTicket) => []) x.1 x.2)
@[simp] theorem c67_f : c67.f = 67 := rfl
@[simp] theorem c67_own : c67.own = false := rfl
theorem c67_inj : ∀ u_ v_ : (List TTicket) × (List TTicket), ((fun x => (fun (a : List TTicket) (b : List TTicket) => [encLTTicket a, encLTTicket b]) x.1 x.2) u_).map nz = ((fun x => (fun (a : List TTicket) (b : List TTicket) => [encLTTicket a, encLTTicket b]) x.1 x.2) v_).map nz → u_ = v_ := by
  intro u_ v_ h
  obtain ⟨a, b⟩ := u_
  obtain ⟨a', b'⟩ := v_
  simp [nz_lit, nz1_lit, nz_agg, nz_sl, nz1_sl, encLTTicket] at h
  first | (simp [h]; done) | (obtain ⟨⟩ := h; simp_all; done) | simp_all
@[simp] theorem c67_fn (a : List TTicket) (b : List TTicket) : c67.fn [.sl false 3 yTTicket (ML encTTicket a), .sl false 3 yTTicket (ML encTTicket b)] [] = some ((fun (a : List TTicket) (b : List TTicket) => a.length ≤ 1099511627776 ∧ b.length ≤ 1099511627776) a b, (fun (a : List TTicket) (b : List TTicket) => (dB (decide (a = b)) : D)) a b, (fun (a : List TTicket) (b : List TTicket) => []) a b) :=
  mkCon_fn (fun x y h _ => c67_inj x y h) ((a, b) : (List TTicket) × (List TTicket)) (by simp [nz, nz1, ML_nil, encLTTicket]) rfl
@[simp] theorem c67_fn1 (s_a : Nat) (z_a : D) (b : List TTicket) : c67.fn [.sl false s_a z_a [], .sl false 3 yTTicket (ML encTTicket b)] [] = some ((fun (a : List TTicket) (b : List TTicket) => a.length ≤ 1099511627776 ∧ b.length ≤ 1099511627776) [] b, (fun (a : List TTicket) (b : List TTicket) => (dB (decide (a = b)) : D)) [] b, (fun (a : List TTicket) (b : List TTicket) => []) [] b) :=
  mkCon_fn (fun x y h _ => c67_inj x y h) (([], b) : (List TTicket) × (List TTicket)) (by simp [nz, nz1, ML_nil, encLTTicket]) rfl
@[simp] theorem c67_fn2 (a : List TTicket) (s_b : Nat) (z_b : D) : c67.fn [.sl false 3 yTTicket (ML encTTicket a), .sl false s_b z_b []] [] = some ((fun (a : List TTicket) (b : List TTicket) => a.length ≤ 1099511627776 ∧ b.length ≤ 1099511627776) a [], (fun (a : List TTicket) (b : List TTicket) => (dB (decide (a = b)) : D)) a [], (fun (a : List TTicket) (b : List TTicket) => []) a []) :=
  mkCon_fn (fun x y h _ => c67_inj x y h) ((a, []) : (List TTicket) × (List TTicket)) (by simp [nz, nz1, ML_nil, encLTTicket]) rfl
@[simp] theorem c67_fn3 (s_a : Nat) (z_a : D) (s_b : Nat) (z_b : D) : c67.fn [.sl false s_a z_a [], .sl false s_b z_b []] [] = some ((fun (a : List TTicket) (b : List TTicket) => a.length ≤ 1099511627776 ∧ b.length ≤ 1099511627776) [] [], (fun (a : List TTicket) (b : List TTicket) => (dB (decide (a = b)) : D)) [] [], (fun (a : List TTicket) (b : List TTicket) => []) [] []) :=
  mkCon_fn (fun x y h _ => c67_inj x y h) (([], []) : (List TTicket) × (List TTicket)) (by simp [nz, nz1, ML_nil, encLTTicket]) rfl
theorem c67_pc (a : List TTicket) (b : List TTicket) (hpre : a.length ≤ 1099511627776 ∧ b.length ≤ 1099511627776) : PCo Try.prog 67 [encLTTicket a, encLTTicket b] (Tab.of []) (dB (decide (a = b))) (Tab.of []) := by
  refine pco_of_run [] (E := ⟨[c144], []⟩) (m := false) (base := 0) (Env.ok_cons c144_ok Env.ok_nil) G_ok mix 300 6 Try.func67 (by kernel_rfl) rfl (by kernel_rfl) (by kernel_rfl) rfl ?_
  simp [Try.f67]
  obtain ⟨pre1, pre2⟩ := hpre
  refine ⟨fun h => ?_, fun h => by intro e; subst e; exact absurd rfl h⟩
  refine loop_inv (fun p : Nat => p ≤ a.length ∧ a.take p = b.take p) (fun p => [(0, encLTTicket a), (1, encLTTicket b), (5, dI p)]) (fun _ => []) 1 (fun p => a.length - p) 0 100 (by simp) (by simp) (by simp) ?_
  intro p ⟨hp, hi⟩
  simp
  refine ⟨fun hlt => ⟨by omega, fun h2 => ⟨by omega, Again.mk (p + 1) ⟨by omega, take_eq_step hi (by omega) (by omega) h2⟩ (by simp) (by first | omega | (simp; omega))⟩, fun h2 => by intro e; subst e; exact absurd rfl h2⟩, fun hge => ?_⟩
  exact take_eq_full hi (by omega) (by omega)
theorem c67_ok : c67.ok Try.prog := mkCon_ok fun ⟨a, b⟩ hpre => c67_pc a b hpre
def mIsTicket (x : TTicket) : Bool := mIn x.Id 1 999 && mIn x.At 0 100000 && mIn x.Hour (-1) 100000
@[simp] def nTicket (x : TTicket) : Int := x.Id
/-- loop.example/g03007/impl.isTicket -/
noncomputable def c143 : Con := mkCon 143 false (α := TTicket) (fun x => (fun (x : TTicket) => [encTTicket x]) x) (fun _ => []) (fun x => (fun (x : TTicket) => True) x) (fun x => (fun (x : TTicket) => (dB (mIsTicket x) : D)) x) (fun x => (fun (x : TTicket) => []) x)
@[simp] theorem c143_f : c143.f = 143 := rfl
@[simp] theorem c143_own : c143.own = false := rfl
theorem c143_inj : ∀ u_ v_ : TTicket, ((fun x => (fun (x : TTicket) => [encTTicket x]) x) u_).map nz = ((fun x => (fun (x : TTicket) => [encTTicket x]) x) v_).map nz → u_ = v_ := by
  intro u_ v_ h
  obtain ⟨x_Id, x_At, x_Hour⟩ := u_
  obtain ⟨x_Id', x_At', x_Hour'⟩ := v_
  simp [nz_lit, nz1_lit, nz_agg, nz_sl, nz1_sl, encTTicket] at h
  first | (simp [h]; done) | (obtain ⟨⟩ := h; simp_all; done) | simp_all
@[simp] theorem c143_fn (x_Id : Int) (x_At : Int) (x_Hour : Int) : c143.fn [.agg [.lit (.int .i64 x_Id), .lit (.int .i64 x_At), .lit (.int .i64 x_Hour)]] [] = some ((fun (x : TTicket) => True) ⟨x_Id, x_At, x_Hour⟩, (fun (x : TTicket) => (dB (mIsTicket x) : D)) ⟨x_Id, x_At, x_Hour⟩, (fun (x : TTicket) => []) ⟨x_Id, x_At, x_Hour⟩) :=
  mkCon_fn (fun x y h _ => c143_inj x y h) (⟨x_Id, x_At, x_Hour⟩ : TTicket) (by simp [nz, nz1, ML_nil, encTTicket]) rfl
theorem c143_pc (x : TTicket) : PCo Try.prog 143 [encTTicket x] (Tab.of []) (dB (mIsTicket x)) (Tab.of []) := by
  obtain ⟨x_Id, x_At, x_Hour⟩ := x
  refine pco_of_run [] (E := ⟨[c124], []⟩) (m := false) (base := 0) (Env.ok_cons c124_ok Env.ok_nil) G_ok mix 300 6 Try.func143 (by kernel_rfl) rfl (by kernel_rfl) (by kernel_rfl) rfl ?_
  simp [Try.f143]
  simp [mIsTicket]
  first | done | first | rfl | omega | (rw [Bool.eq_iff_iff]; simp; done) | (rw [Bool.eq_iff_iff]; simp; omega) | (rw [Bool.eq_iff_iff]; simp; grind) | grind
theorem c143_ok : c143.ok Try.prog := mkCon_ok fun x hpre => c143_pc x
def mAreTickets (l : List TTicket) : Bool := decide (l.length ≤ 30) && ascBy mIsTicket nTicket none l
/-- loop.example/g03007/spec.AreTickets -/
noncomputable def c64 : Con := mkCon 64 false (α := (List TTicket)) (fun x => (fun (l : List TTicket) => [encLTTicket l]) x) (fun _ => []) (fun x => (fun (l : List TTicket) => l.length ≤ 1099511627776) x) (fun x => (fun (l : List TTicket) => (dB (mAreTickets l) : D)) x) (fun x => (fun (l : List TTicket) => []) x)
@[simp] theorem c64_f : c64.f = 64 := rfl
@[simp] theorem c64_own : c64.own = false := rfl
theorem c64_inj : ∀ u_ v_ : (List TTicket), ((fun x => (fun (l : List TTicket) => [encLTTicket l]) x) u_).map nz = ((fun x => (fun (l : List TTicket) => [encLTTicket l]) x) v_).map nz → u_ = v_ := by
  intro u_ v_ h
  obtain l := u_
  obtain l' := v_
  simp [nz_lit, nz1_lit, nz_agg, nz_sl, nz1_sl, encLTTicket] at h
  first | (simp [h]; done) | (obtain ⟨⟩ := h; simp_all; done) | simp_all
@[simp] theorem c64_fn (l : List TTicket) : c64.fn [.sl false 3 yTTicket (ML encTTicket l)] [] = some ((fun (l : List TTicket) => l.length ≤ 1099511627776) l, (fun (l : List TTicket) => (dB (mAreTickets l) : D)) l, (fun (l : List TTicket) => []) l) :=
  mkCon_fn (fun x y h _ => c64_inj x y h) (l : (List TTicket)) (by simp [nz, nz1, ML_nil, encLTTicket]) rfl
@[simp] theorem c64_fn1 (s_l : Nat) (z_l : D) : c64.fn [.sl false s_l z_l []] [] = some ((fun (l : List TTicket) => l.length ≤ 1099511627776) [], (fun (l : List TTicket) => (dB (mAreTickets l) : D)) [], (fun (l : List TTicket) => []) []) :=
  mkCon_fn (fun x y h _ => c64_inj x y h) ([] : (List TTicket)) (by simp [nz, nz1, ML_nil, encLTTicket]) rfl
theorem c64_pc (l : List TTicket) (hpre : l.length ≤ 1099511627776) : PCo Try.prog 64 [encLTTicket l] (Tab.of []) (dB (mAreTickets l)) (Tab.of []) := by
  refine pco_of_run [] (E := ⟨[c121], []⟩) (m := false) (base := 0) (Env.ok_cons c121_ok Env.ok_nil) G_ok mix 300 6 Try.func64 (by kernel_rfl) rfl (by kernel_rfl) (by kernel_rfl) rfl ?_
  simp [Try.f64]
  refine loop_inv (fun p : Nat => p ≤ l.length ∧ ascBy mIsTicket nTicket none l = ascBy mIsTicket nTicket (prevO nTicket l p) (l.drop p)) (fun p => [(0, encLTTicket l), (3, dI p)]) (fun _ => []) 1 (fun p => l.length - p) 0 400 (by simp) (by simp) (by simp) ?_
  intro p ⟨hp, hi⟩
  simp
  refine ⟨fun hlt => ?_, fun hge => ?_⟩
  · rw [ascBy_at hlt] at hi; simp only [nTicket, mIsTicket] at hi
    repeat' (first | omega | refine And.intro ?_ ?_ | intro _)
    all_goals first | exact Again.mk (p + 1) ⟨by omega, by rw [hi]; grind⟩ (by simp) (by first | omega | (simp; omega)) | (rw [mAreTickets, hi]; grind)
  · rw [mAreTickets, hi, ascBy_end hge]; simp; omega
theorem c64_ok : c64.ok Try.prog := mkCon_ok fun l hpre => c64_pc l hpre
/-- loop.example/g03007/impl.ticketsInOrder -/
noncomputable def c141 : Con := mkCon 141 false (α := (List TTicket)) (fun x => (fun (l : List TTicket) => [encLTTicket l]) x) (fun _ => []) (fun x => (fun (l : List TTicket) => True) x) (fun x => (fun (l : List TTicket) => (.agg [.sl false 3 yTTicket (ML encTTicket l), .fn (.func 194) [] []] : D)) x) (fun x => (fun (l : List TTicket) => []) x)
@[simp] theorem c141_f : c141.f = 141 := rfl
@[simp] theorem c141_own : c141.own = false := rfl
theorem c141_inj : ∀ u_ v_ : (List TTicket), ((fun x => (fun (l : List TTicket) => [encLTTicket l]) x) u_).map nz = ((fun x => (fun (l : List TTicket) => [encLTTicket l]) x) v_).map nz → u_ = v_ := by
  intro u_ v_ h
  obtain l := u_
  obtain l' := v_
  simp [nz_lit, nz1_lit, nz_agg, nz_sl, nz1_sl, encLTTicket] at h
  first | (simp [h]; done) | (obtain ⟨⟩ := h; simp_all; done) | simp_all
@[simp] theorem c141_fn (l : List TTicket) : c141.fn [.sl false 3 yTTicket (ML encTTicket l)] [] = some ((fun (l : List TTicket) => True) l, (fun (l : List TTicket) => (.agg [.sl false 3 yTTicket (ML encTTicket l), .fn (.func 194) [] []] : D)) l, (fun (l : List TTicket) => []) l) :=
  mkCon_fn (fun x y h _ => c141_inj x y h) (l : (List TTicket)) (by simp [nz, nz1, ML_nil, encLTTicket]) rfl
@[simp] theorem c141_fn1 (s_l : Nat) (z_l : D) : c141.fn [.sl false s_l z_l []] [] = some ((fun (l : List TTicket) => True) [], (fun (l : List TTicket) => (.agg [.sl false 3 yTTicket (ML encTTicket l), .fn (.func 194) [] []] : D)) [], (fun (l : List TTicket) => []) []) :=
  mkCon_fn (fun x y h _ => c141_inj x y h) ([] : (List TTicket)) (by simp [nz, nz1, ML_nil, encLTTicket]) rfl
theorem c141_pc (l : List TTicket) : PCo Try.prog 141 [encLTTicket l] (Tab.of []) (.agg [.sl false 3 yTTicket (ML encTTicket l), .fn (.func 194) [] []]) (Tab.of []) := by
  refine pco_of_run [] (E := ⟨[], []⟩) (m := false) (base := 0) Env.ok_nil G_ok mix 300 6 Try.func141 (by kernel_rfl) rfl (by kernel_rfl) (by kernel_rfl) rfl ?_
  simp [Try.f141]
  all_goals first | omega | (rw [Bool.eq_iff_iff]; simp; omega) | grind
theorem c141_ok : c141.ok Try.prog := mkCon_ok fun l hpre => c141_pc l
/-- loop.example/g03007/impl.ticketsInOrder$1 -/
noncomputable def c194 : Con := mkCon 194 false (α := TTicket) (fun x => (fun (x : TTicket) => [encTTicket x]) x) (fun _ => []) (fun x => (fun (x : TTicket) => True) x) (fun x => (fun (x : TTicket) => (dI (nTicket x) : D)) x) (fun x => (fun (x : TTicket) => []) x)
@[simp] theorem c194_f : c194.f = 194 := rfl
@[simp] theorem c194_own : c194.own = false := rfl
theorem c194_inj : ∀ u_ v_ : TTicket, ((fun x => (fun (x : TTicket) => [encTTicket x]) x) u_).map nz = ((fun x => (fun (x : TTicket) => [encTTicket x]) x) v_).map nz → u_ = v_ := by
  intro u_ v_ h
  obtain ⟨x_Id, x_At, x_Hour⟩ := u_
  obtain ⟨x_Id', x_At', x_Hour'⟩ := v_
  simp [nz_lit, nz1_lit, nz_agg, nz_sl, nz1_sl, encTTicket] at h
  first | (simp [h]; done) | (obtain ⟨⟩ := h; simp_all; done) | simp_all
@[simp] theorem c194_fn (x_Id : Int) (x_At : Int) (x_Hour : Int) : c194.fn [.agg [.lit (.int .i64 x_Id), .lit (.int .i64 x_At), .lit (.int .i64 x_Hour)]] [] = some ((fun (x : TTicket) => True) ⟨x_Id, x_At, x_Hour⟩, (fun (x : TTicket) => (dI (nTicket x) : D)) ⟨x_Id, x_At, x_Hour⟩, (fun (x : TTicket) => []) ⟨x_Id, x_At, x_Hour⟩) :=
  mkCon_fn (fun x y h _ => c194_inj x y h) (⟨x_Id, x_At, x_Hour⟩ : TTicket) (by simp [nz, nz1, ML_nil, encTTicket]) rfl
theorem c194_pc (x : TTicket) : PCo Try.prog 194 [encTTicket x] (Tab.of []) (dI (nTicket x)) (Tab.of []) := by
  obtain ⟨x_Id, x_At, x_Hour⟩ := x
  refine pco_of_run [] (E := ⟨[], []⟩) (m := false) (base := 0) Env.ok_nil G_ok mix 300 6 Try.func194 (by kernel_rfl) rfl (by kernel_rfl) (by kernel_rfl) rfl ?_
  simp [Try.f194]
  all_goals first | omega | (rw [Bool.eq_iff_iff]; simp; omega) | grind
theorem c194_ok : c194.ok Try.prog := mkCon_ok fun x hpre => c194_pc x
/-- (loop.example/g03007/impl.sortedList[loop.example/g03007/impl.Ticket]).isValid -/
noncomputable def c142 : Con := mkCon 142 false (α := (List TTicket) × Int) (fun x => (fun (l : List TTicket) (lim : Int) => ([.agg [.sl false 3 yTTicket (ML encTTicket l), .fn (.func 194) [] []], dI lim, .fn (.func 143) [] []] : List D)) x.1 x.2) (fun x => (fun (l : List TTicket) (lim : Int) => ([] : List (Nm × OO))) x.1 x.2) (fun x => (fun (l : List TTicket) (lim : Int) => l.length ≤ 1099511627776) x.1 x.2) (fun x => (fun (l : List TTicket) (lim : Int) => (dB (decide (l.length ≤ lim) && ascBy mIsTicket nTicket none l) : D)) x.1 x.2) (fun x => (fun (l : List TTicket) (lim : Int) => ([] : List (Nm × OO))) x.1 x.2)
@[simp] theorem c142_f : c142.f = 142 := rfl
@[simp] theorem c142_own : c142.own = false := rfl
theorem c142_inj : ∀ u_ v_ : (List TTicket) × Int, ((fun x => (fun (l : List TTicket) (lim : Int) => ([.agg [.sl false 3 yTTicket (ML encTTicket l), .fn (.func 194) [] []], dI lim, .fn (.func 143) [] []] : List D)) x.1 x.2) u_).map nz = ((fun x => (fun (l : List TTicket) (lim : Int) => ([.agg [.sl false 3 yTTicket (ML encTTicket l), .fn (.func 194) [] []], dI lim, .fn (.func 143) [] []] : List D)) x.1 x.2) v_).map nz → (fun x => (fun (l : List TTicket) (lim : Int) => ([] : List (Nm × OO))) x.1 x.2) u_ = (fun x => (fun (l : List TTicket) (lim : Int) => ([] : List (Nm × OO))) x.1 x.2) v_ → u_ = v_ := by
  intro u_ v_ h h2_
  obtain ⟨l, lim⟩ := u_
  obtain ⟨l', lim'⟩ := v_
  simp [nz_lit, nz1_lit, nz_agg, nz_sl, nz1_sl, nz_sx, nz_el, nz1_el, nz_own, nz1_own, nz_ptr, nz_fn, nz_iface] at h h2_
  first | (simp [h, h2_]; done) | simp_all | grind
@[simp] theorem c142_fn (l : List TTicket) (lim : Int) : c142.fn ([.agg [.sl false 3 yTTicket (ML encTTicket l), .fn (.func 194) [] []], dI lim, .fn (.func 143) [] []]) ([]) = some (l.length ≤ 1099511627776, dB (decide (l.length ≤ lim) && ascBy mIsTicket nTicket none l), []) :=
  mkCon_fn c142_inj ((l, lim) : (List TTicket) × Int) rfl rfl
theorem c142_pc (l : List TTicket) (lim : Int) (hpre : l.length ≤ 1099511627776) : PCo Try.prog 142 ([.agg [.sl false 3 yTTicket (ML encTTicket l), .fn (.func 194) [] []], dI lim, .fn (.func 143) [] []]) (Tab.of ([])) (dB (decide (l.length ≤ lim) && ascBy mIsTicket nTicket none l)) (Tab.of ([])) := by
  refine pco_of_run [6] (E := ⟨[c194, c143], []⟩) (m := false) (base := 0) (Env.ok_cons c194_ok (Env.ok_cons c143_ok Env.ok_nil)) G_ok mix 300 6 Try.func142 (by kernel_rfl) rfl (by kernel_rfl) (by kernel_rfl) rfl ?_
  simp [Try.f142]
  refine ⟨fun h h2 => by omega, fun hlim => ?_⟩
  refine loop_inv (fun p : Nat => p ≤ l.length ∧ ascBy mIsTicket nTicket none l = ascBy mIsTicket nTicket (prevO nTicket l p) (l.drop p)) (fun p => [(2, .fn (.func 143) [] []), (3, .ptr (0, 1) 0), (6, dB false), (15, .sl false 3 yTTicket (ML encTTicket l)), (16, dI l.length), (17, dI p)]) (fun _ => [((0, 1), .box (.agg [.sl false 3 yTTicket (ML encTTicket l), .fn (.func 194) [] []]))]) 2 (fun p => l.length - p) 0 400 (by simp) (by simp) (by simp) ?_
  intro p ⟨hp, hi⟩
  simp
  refine ⟨fun hlt => ?_, fun hge => ?_⟩
  · rw [ascBy_at hlt] at hi; simp only [nTicket, wantN] at hi
    repeat' (first | omega | refine And.intro ?_ ?_ | intro _)
    all_goals first | exact Again.mk (p + 1) ⟨by omega, by rw [hi]; grind⟩ (by simp) (by first | omega | (simp; omega)) | (rw [hi]; grind)
  · rw [hi, ascBy_end hge]; simp; omega
theorem c142_ok : c142.ok Try.prog := mkCon_ok fun ⟨l, lim⟩ hpre => c142_pc l lim hpre
/-- loop.example/g03007/impl.AreTickets -/
noncomputable def c66 : Con := mkCon 66 false (α := (List TTicket)) (fun x => (fun (l : List TTicket) => [encLTTicket l]) x) (fun _ => []) (fun x => (fun (l : List TTicket) => l.length ≤ 1099511627776) x) (fun x => (fun (l : List TTicket) => (dB (mAreTickets l) : D)) x) (fun x => (fun (l : List TTicket) => []) x)
@[simp] theorem c66_f : c66.f = 66 := rfl
@[simp] theorem c66_own : c66.own = false := rfl
theorem c66_inj : ∀ u_ v_ : (List TTicket), ((fun x => (fun (l : List TTicket) => [encLTTicket l]) x) u_).map nz = ((fun x => (fun (l : List TTicket) => [encLTTicket l]) x) v_).map nz → u_ = v_ := by
  intro u_ v_ h
  obtain l := u_
  obtain l' := v_
  simp [nz_lit, nz1_lit, nz_agg, nz_sl, nz1_sl, encLTTicket] at h
  first | (simp [h]; done) | (obtain ⟨⟩ := h; simp_all; done) | simp_all
@[simp] theorem c66_fn (l : List TTicket) : c66.fn [.sl false 3 yTTicket (ML encTTicket l)] [] = some ((fun (l : List TTicket) => l.length ≤ 1099511627776) l, (fun (l : List TTicket) => (dB (mAreTickets l) : D)) l, (fun (l : List TTicket) => []) l) :=
  mkCon_fn (fun x y h _ => c66_inj x y h) (l : (List TTicket)) (by simp [nz, nz1, ML_nil, encLTTicket]) rfl
@[simp] theorem c66_fn1 (s_l : Nat) (z_l : D) : c66.fn [.sl false s_l z_l []] [] = some ((fun (l : List TTicket) => l.length ≤ 1099511627776) [], (fun (l : List TTicket) => (dB (mAreTickets l) : D)) [], (fun (l : List TTicket) => []) []) :=
  mkCon_fn (fun x y h _ => c66_inj x y h) ([] : (List TTicket)) (by simp [nz, nz1, ML_nil, encLTTicket]) rfl
theorem c66_pc (l : List TTicket) (hpre : l.length ≤ 1099511627776) : PCo Try.prog 66 [encLTTicket l] (Tab.of []) (dB (mAreTickets l)) (Tab.of []) := by
  refine pco_of_run [] (E := ⟨[c141, c142, c143, c143], []⟩) (m := false) (base := 0) (Env.ok_cons c141_ok (Env.ok_cons c142_ok (Env.ok_cons c143_ok (Env.ok_cons c143_ok Env.ok_nil)))) G_ok mix 300 6 Try.func66 (by kernel_rfl) rfl (by kernel_rfl) (by kernel_rfl) rfl ?_
  simp [Try.f66]
  have h : ((l.length : Int) ≤ 30) ↔ l.length ≤ 30 := by omega
  simp [mAreTickets, h, hpre]
theorem c66_ok : c66.ok Try.prog := mkCon_ok fun l hpre => c66_pc l hpre
/-- loop.example/g03007/laws.FnExactAreTickets -/
theorem law14 (l : List TTicket) (wl : wfLTTicket l) : PCo Try.prog 14 [encLTTicket l] (Tab.of []) (dB true) (Tab.of []) := by
  refine pco_of_run [] (E := ⟨[c63, c64, c65, c66, c67], []⟩) (m := false) (base := 0) (Env.ok_cons c63_ok (Env.ok_cons c64_ok (Env.ok_cons c65_ok (Env.ok_cons c66_ok (Env.ok_cons c67_ok Env.ok_nil))))) G_ok mix 400 6 Try.func14 (by kernel_rfl) rfl (by kernel_rfl) (by kernel_rfl) rfl ?_
  simp [Try.f14]
  have h_l : l.length ≤ maxLen := wl.1
  repeat' (first | omega | assumption | refine And.intro ?_ ?_ | intro _)
  all_goals first | omega | grind | (split at * <;> omega)
theorem law14_pc (D0 : D) (h0 : Sh G 9 64 D0) : PC Try.prog 14 [D0] (dB true) [] := by
  obtain ⟨l, rfl, wl⟩ := sh64 (n := 6) h0
  exact law14 l wl
/-- (loop.example/g03007/impl.sortedList[loop.example/g03007/impl.Ticket]).indexOf$1 -/
noncomputable def c196 : Con := mkCon 196 false (α := TTicket × (List TTicket) × Int) (fun x => (fun (x : TTicket) (l : List TTicket) (n : Int) => ([encTTicket x, .el (.agg [.sl false 3 yTTicket (ML encTTicket l), .fn (.func 194) [] []]), .el (dI n)] : List D)) x.1 x.2.1 x.2.2) (fun x => (fun (x : TTicket) (l : List TTicket) (n : Int) => ([] : List (Nm × OO))) x.1 x.2.1 x.2.2) (fun x => (fun (x : TTicket) (l : List TTicket) (n : Int) => True) x.1 x.2.1 x.2.2) (fun x => (fun (x : TTicket) (l : List TTicket) (n : Int) => (dB (wantN nTicket n x) : D)) x.1 x.2.1 x.2.2) (fun x => (fun (x : TTicket) (l : List TTicket) (n : Int) => ([] : List (Nm × OO))) x.1 x.2.1 x.2.2)
@[simp] theorem c196_f : c196.f = 196 := rfl
@[simp] theorem c196_own : c196.own = false := rfl
theorem c196_inj : ∀ u_ v_ : TTicket × (List TTicket) × Int, ((fun x => (fun (x : TTicket) (l : List TTicket) (n : Int) => ([encTTicket x, .el (.agg [.sl false 3 yTTicket (ML encTTicket l), .fn (.func 194) [] []]), .el (dI n)] : List D)) x.1 x.2.1 x.2.2) u_).map nz = ((fun x => (fun (x : TTicket) (l : List TTicket) (n : Int) => ([encTTicket x, .el (.agg [.sl false 3 yTTicket (ML encTTicket l), .fn (.func 194) [] []]), .el (dI n)] : List D)) x.1 x.2.1 x.2.2) v_).map nz → (fun x => (fun (x : TTicket) (l : List TTicket) (n : Int) => ([] : List (Nm × OO))) x.1 x.2.1 x.2.2) u_ = (fun x => (fun (x : TTicket) (l : List TTicket) (n : Int) => ([] : List (Nm × OO))) x.1 x.2.1 x.2.2) v_ → u_ = v_ := by
  intro u_ v_ h h2_
  obtain ⟨⟨x_Id, x_At, x_Hour⟩, l, n⟩ := u_
  obtain ⟨⟨x_Id', x_At', x_Hour'⟩, l', n'⟩ := v_
  simp [nz_lit, nz1_lit, nz_agg, nz_sl, nz1_sl, nz_sx, nz_el, nz1_el, nz_own, nz1_own, nz_ptr, nz_fn, nz_iface] at h h2_
  first | (simp [h, h2_]; done) | simp_all | grind
@[simp] theorem c196_fn (x_Id : Int) (x_At : Int) (x_Hour : Int) (l : List TTicket) (n : Int) : c196.fn ([.agg [.lit (.int .i64 x_Id), .lit (.int .i64 x_At), .lit (.int .i64 x_Hour)], .el (.agg [.sl false 3 yTTicket (ML encTTicket l), .fn (.func 194) [] []]), .el (dI n)]) ([]) = some (True, dB (wantN nTicket n (⟨x_Id, x_At, x_Hour⟩ : TTicket)), []) :=
  mkCon_fn c196_inj ((⟨x_Id, x_At, x_Hour⟩, l, n) : TTicket × (List TTicket) × Int) rfl rfl
theorem c196_pc (x : TTicket) (l : List TTicket) (n : Int) : PCo Try.prog 196 ([encTTicket x, .el (.agg [.sl false 3 yTTicket (ML encTTicket l), .fn (.func 194) [] []]), .el (dI n)]) (Tab.of ([])) (dB (wantN nTicket n x)) (Tab.of ([])) := by
  refine pco_of_run [1] (E := ⟨[c194], []⟩) (m := false) (base := 0) (Env.ok_cons c194_ok Env.ok_nil) G_ok mix 300 6 Try.func196 (by kernel_rfl) rfl (by kernel_rfl) (by kernel_rfl) rfl ?_
  simp [Try.f196]
  simp [wantN]; first | done | rfl
theorem c196_ok : c196.ok Try.prog := mkCon_ok fun ⟨x, l, n⟩ hpre => c196_pc x l n
/-- slices.IndexFunc[[]loop.example/g03007/impl.Ticke -/
noncomputable def c195_i : Con := mkCon 195 false (α := (List TTicket) × (List TTicket) × Int) (fun x => (fun (l : List TTicket) (l2 : List TTicket) (n : Int) => ([.sl false 3 yTTicket (ML encTTicket l), .fn (.func 196) [] [.el (.agg [.sl false 3 yTTicket (ML encTTicket l2), .fn (.func 194) [] []]), .el (dI n)]] : List D)) x.1 x.2.1 x.2.2) (fun x => (fun (l : List TTicket) (l2 : List TTicket) (n : Int) => ([] : List (Nm × OO))) x.1 x.2.1 x.2.2) (fun x => (fun (l : List TTicket) (l2 : List TTicket) (n : Int) => l.length ≤ 1099511627776) x.1 x.2.1 x.2.2) (fun x => (fun (l : List TTicket) (l2 : List TTicket) (n : Int) => (dI (indexBy (wantN nTicket n) 0 l) : D)) x.1 x.2.1 x.2.2) (fun x => (fun (l : List TTicket) (l2 : List TTicket) (n : Int) => ([] : List (Nm × OO))) x.1 x.2.1 x.2.2)
@[simp] theorem c195_i_f : c195_i.f = 195 := rfl
@[simp] theorem c195_i_own : c195_i.own = false := rfl
theorem c195_i_inj : ∀ u_ v_ : (List TTicket) × (List TTicket) × Int, ((fun x => (fun (l : List TTicket) (l2 : List TTicket) (n : Int) => ([.sl false 3 yTTicket (ML encTTicket l), .fn (.func 196) [] [.el (.agg [.sl false 3 yTTicket (ML encTTicket l2), .fn (.func 194) [] []]), .el (dI n)]] : List D)) x.1 x.2.1 x.2.2) u_).map nz = ((fun x => (fun (l : List TTicket) (l2 : List TTicket) (n : Int) => ([.sl false 3 yTTicket (ML encTTicket l), .fn (.func 196) [] [.el (.agg [.sl false 3 yTTicket (ML encTTicket l2), .fn (.func 194) [] []]), .el (dI n)]] : List D)) x.1 x.2.1 x.2.2) v_).map nz → (fun x => (fun (l : List TTicket) (l2 : List TTicket) (n : Int) => ([] : List (Nm × OO))) x.1 x.2.1 x.2.2) u_ = (fun x => (fun (l : List TTicket) (l2 : List TTicket) (n : Int) => ([] : List (Nm × OO))) x.1 x.2.1 x.2.2) v_ → u_ = v_ := by
  intro u_ v_ h h2_
  obtain ⟨l, l2, n⟩ := u_
  obtain ⟨l', l2', n'⟩ := v_
  simp [nz_lit, nz1_lit, nz_agg, nz_sl, nz1_sl, nz_sx, nz_el, nz1_el, nz_own, nz1_own, nz_ptr, nz_fn, nz_iface] at h h2_
  first | (simp [h, h2_]; done) | simp_all | grind
@[simp] theorem c195_i_fn (l : List TTicket) (l2 : List TTicket) (n : Int) : c195_i.fn ([.sl false 3 yTTicket (ML encTTicket l), .fn (.func 196) [] [.el (.agg [.sl false 3 yTTicket (ML encTTicket l2), .fn (.func 194) [] []]), .el (dI n)]]) ([]) = some (l.length ≤ 1099511627776, dI (indexBy (wantN nTicket n) 0 l), []) :=
  mkCon_fn c195_i_inj ((l, l2, n) : (List TTicket) × (List TTicket) × Int) rfl rfl
theorem c195_i_pc (l : List TTicket) (l2 : List TTicket) (n : Int) (hpre : l.length ≤ 1099511627776) : PCo Try.prog 195 ([.sl false 3 yTTicket (ML encTTicket l), .fn (.func 196) [] [.el (.agg [.sl false 3 yTTicket (ML encTTicket l2), .fn (.func 194) [] []]), .el (dI n)]]) (Tab.of ([])) (dI (indexBy (wantN nTicket n) 0 l)) (Tab.of ([])) := by
  refine pco_of_run [] (E := ⟨[c196], []⟩) (m := false) (base := 0) (Env.ok_cons c196_ok Env.ok_nil) G_ok mix 300 6 Try.func195 (by kernel_rfl) rfl (by kernel_rfl) (by kernel_rfl) rfl ?_
  simp [Try.f195]
  refine loop_inv (fun p : Nat => p ≤ l.length ∧ indexBy (wantN nTicket n) 0 l = indexBy (wantN nTicket n) p (l.drop p)) (fun p => [(0, .sl false 3 yTTicket (ML encTTicket l)), (1, .fn (.func 196) [] [.el (.agg [.sl false 3 yTTicket (ML encTTicket l2), .fn (.func 194) [] []]), .el (dI n)]), (7, dI l.length), (8, dI p)]) (fun _ => []) 1 (fun p => l.length - p) 0 400 (by simp) (by simp) (by simp) ?_
  intro p ⟨hp, hi⟩
  simp
  refine ⟨fun hlt => ?_, fun hge => ?_⟩
  · rw [indexBy_at (d := default) hlt] at hi
    repeat' (first | omega | refine And.intro ?_ ?_ | intro _)
    all_goals first | exact Again.mk (p + 1) ⟨by omega, by rw [hi]; grind⟩ (by simp) (by first | omega | (simp; omega)) | (rw [hi]; grind)
  · rw [hi, indexBy_end hge]
theorem c195_i_ok : c195_i.ok Try.prog := mkCon_ok fun ⟨l, l2, n⟩ hpre => c195_i_pc l l2 n hpre
noncomputable def c195 : Con := selCon 195 false [([196], c195_i)]
@[simp] theorem c195_f : c195.f = 195 := rfl
@[simp] theorem c195_own : c195.own = false := rfl
@[simp] theorem c195_fn0 (l : List TTicket) (l2 : List TTicket) (n : Int) : c195.fn ([.sl false 3 yTTicket (ML encTTicket l), .fn (.func 196) [] [.el (.agg [.sl false 3 yTTicket (ML encTTicket l2), .fn (.func 194) [] []]), .el (dI n)]]) ([]) = some (l.length ≤ 1099511627776, dI (indexBy (wantN nTicket n) 0 l), []) := by
  rw [c195, selCon_fn]
  have h : selK [([196], c195_i)] (keyDs ([.sl false 3 yTTicket (ML encTTicket l), .fn (.func 196) [] [.el (.agg [.sl false 3 yTTicket (ML encTTicket l2), .fn (.func 194) [] []]), .el (dI n)]])) = some c195_i := by simp
  rw [h]
  exact c195_i_fn l l2 n
theorem c195_ok : c195.ok Try.prog := selCon_ok fun p hp => by
  simp only [List.mem_cons, List.not_mem_nil, or_false] at hp
  rcases hp with rfl
  · exact ⟨rfl, c195_i_ok⟩
/-- (loop.example/g03007/impl.sortedList[loop.example/g03007/impl.Ticket]).indexOf -/
noncomputable def c145 : Con := mkCon 145 false (α := (List TTicket) × Int) (fun x => (fun (l : List TTicket) (n : Int) => ([.agg [.sl false 3 yTTicket (ML encTTicket l), .fn (.func 194) [] []], dI n] : List D)) x.1 x.2) (fun x => (fun (l : List TTicket) (n : Int) => ([] : List (Nm × OO))) x.1 x.2) (fun x => (fun (l : List TTicket) (n : Int) => l.length ≤ 1099511627776) x.1 x.2) (fun x => (fun (l : List TTicket) (n : Int) => (dI (indexBy (wantN nTicket n) 0 l) : D)) x.1 x.2) (fun x => (fun (l : List TTicket) (n : Int) => ([] : List (Nm × OO))) x.1 x.2)
@[simp] theorem c145_f : c145.f = 145 := rfl
@[simp] theorem c145_own : c145.own = false := rfl
theorem c145_inj : ∀ u_ v_ : (List TTicket) × Int, ((fun x => (fun (l : List TTicket) (n : Int) => ([.agg [.sl false 3 yTTicket (ML encTTicket l), .fn (.func 194) [] []], dI n] : List D)) x.1 x.2) u_).map nz = ((fun x => (fun (l : List TTicket) (n : Int) => ([.agg [.sl false 3 yTTicket (ML encTTicket l), .fn (.func 194) [] []], dI n] : List D)) x.1 x.2) v_).map nz → (fun x => (fun (l : List TTicket) (n : Int) => ([] : List (Nm × OO))) x.1 x.2) u_ = (fun x => (fun (l : List TTicket) (n : Int) => ([] : List (Nm × OO))) x.1 x.2) v_ → u_ = v_ := by
  intro u_ v_ h h2_
  obtain ⟨l, n⟩ := u_
  obtain ⟨l', n'⟩ := v_
  simp [nz_lit, nz1_lit, nz_agg, nz_sl, nz1_sl, nz_sx, nz_el, nz1_el, nz_own, nz1_own, nz_ptr, nz_fn, nz_iface] at h h2_
  first | (simp [h, h2_]; done) | simp_all | grind
@[simp] theorem c145_fn (l : List TTicket) (n : Int) : c145.fn ([.agg [.sl false 3 yTTicket (ML encTTicket l), .fn (.func 194) [] []], dI n]) ([]) = some (l.length ≤ 1099511627776, dI (indexBy (wantN nTicket n) 0 l), []) :=
  mkCon_fn c145_inj ((l, n) : (List TTicket) × Int) rfl rfl
theorem c145_pc (l : List TTicket) (n : Int) (hpre : l.length ≤ 1099511627776) : PCo Try.prog 145 ([.agg [.sl false 3 yTTicket (ML encTTicket l), .fn (.func 194) [] []], dI n]) (Tab.of ([])) (dI (indexBy (wantN nTicket n) 0 l)) (Tab.of ([])) := by
  refine pco_of_run [] (E := ⟨[c195, c196], []⟩) (m := false) (base := 0) (Env.ok_cons c195_ok (Env.ok_cons c196_ok Env.ok_nil)) G_ok mix 300 6 Try.func145 (by kernel_rfl) rfl (by kernel_rfl) (by kernel_rfl) rfl ?_
  simp [Try.f145]
  all_goals first | omega | (rw [Bool.eq_iff_iff]; simp; omega) | grind
theorem c145_ok : c145.ok Try.prog := mkCon_ok fun ⟨l, n⟩ hpre => c145_pc l n hpre
def hasApp (x : TTicket) : Bool := !decide (x.Hour = -1)
/-- (loop.example/g03007/impl.Ticket).hasAppointment -/
noncomputable def c146 : Con := mkCon 146 false (α := TTicket) (fun x => (fun (x : TTicket) => [encTTicket x]) x) (fun _ => []) (fun x => (fun (x : TTicket) => True) x) (fun x => (fun (x : TTicket) => (dB (hasApp x) : D)) x) (fun x => (fun (x : TTicket) => []) x)
@[simp] theorem c146_f : c146.f = 146 := rfl
@[simp] theorem c146_own : c146.own = false := rfl
theorem c146_inj : ∀ u_ v_ : TTicket, ((fun x => (fun (x : TTicket) => [encTTicket x]) x) u_).map nz = ((fun x => (fun (x : TTicket) => [encTTicket x]) x) v_).map nz → u_ = v_ := by
  intro u_ v_ h
  obtain ⟨x_Id, x_At, x_Hour⟩ := u_
  obtain ⟨x_Id', x_At', x_Hour'⟩ := v_
  simp [nz_lit, nz1_lit, nz_agg, nz_sl, nz1_sl, encTTicket] at h
  first | (simp [h]; done) | (obtain ⟨⟩ := h; simp_all; done) | simp_all
@[simp] theorem c146_fn (x_Id : Int) (x_At : Int) (x_Hour : Int) : c146.fn [.agg [.lit (.int .i64 x_Id), .lit (.int .i64 x_At), .lit (.int .i64 x_Hour)]] [] = some ((fun (x : TTicket) => True) ⟨x_Id, x_At, x_Hour⟩, (fun (x : TTicket) => (dB (hasApp x) : D)) ⟨x_Id, x_At, x_Hour⟩, (fun (x : TTicket) => []) ⟨x_Id, x_At, x_Hour⟩) :=
  mkCon_fn (fun x y h _ => c146_inj x y h) (⟨x_Id, x_At, x_Hour⟩ : TTicket) (by simp [nz, nz1, ML_nil, encTTicket]) rfl
theorem c146_pc (x : TTicket) : PCo Try.prog 146 [encTTicket x] (Tab.of []) (dB (hasApp x)) (Tab.of []) := by
  obtain ⟨x_Id, x_At, x_Hour⟩ := x
  refine pco_of_run [] (E := ⟨[], []⟩) (m := false) (base := 0) Env.ok_nil G_ok mix 300 6 Try.func146 (by kernel_rfl) rfl (by kernel_rfl) (by kernel_rfl) rfl ?_
  simp [Try.f146]
  first | done | rfl | first | rfl | omega | (rw [Bool.eq_iff_iff]; simp; done) | (rw [Bool.eq_iff_iff]; simp; omega) | (rw [Bool.eq_iff_iff]; simp; grind) | grind
theorem c146_ok : c146.ok Try.prog := mkCon_ok fun x hpre => c146_pc x
def isBefore (a : TTicket) (id : Int) (x : TTicket) : Bool := decide (x.Hour = -1) && (decide (x.At < a.At) || decide (x.At = a.At) && decide (x.Id < id))
/-- loop.example/g03007/impl.BeforeIn$1 -/
noncomputable def c148 : Con := mkCon 148 false (α := TTicket × (List TTicket) × Int × Int) (fun x => (fun (x : TTicket) (l : List TTicket) (at_ : Int) (id : Int) => ([encTTicket x, .el (encLTTicket l), .el (dI at_), .el (dI id)] : List D)) x.1 x.2.1 x.2.2.1 x.2.2.2) (fun x => (fun (x : TTicket) (l : List TTicket) (at_ : Int) (id : Int) => ([] : List (Nm × OO))) x.1 x.2.1 x.2.2.1 x.2.2.2) (fun x => (fun (x : TTicket) (l : List TTicket) (at_ : Int) (id : Int) => 0 ≤ at_ ∧ at_ < l.length) x.1 x.2.1 x.2.2.1 x.2.2.2) (fun x => (fun (x : TTicket) (l : List TTicket) (at_ : Int) (id : Int) => (dB (isBefore (l[at_.toNat]?.getD default) id x) : D)) x.1 x.2.1 x.2.2.1 x.2.2.2) (fun x => (fun (x : TTicket) (l : List TTicket) (at_ : Int) (id : Int) => ([] : List (Nm × OO))) x.1 x.2.1 x.2.2.1 x.2.2.2)
@[simp] theorem c148_f : c148.f = 148 := rfl
@[simp] theorem c148_own : c148.own = false := rfl
theorem c148_inj : ∀ u_ v_ : TTicket × (List TTicket) × Int × Int, ((fun x => (fun (x : TTicket) (l : List TTicket) (at_ : Int) (id : Int) => ([encTTicket x, .el (encLTTicket l), .el (dI at_), .el (dI id)] : List D)) x.1 x.2.1 x.2.2.1 x.2.2.2) u_).map nz = ((fun x => (fun (x : TTicket) (l : List TTicket) (at_ : Int) (id : Int) => ([encTTicket x, .el (encLTTicket l), .el (dI at_), .el (dI id)] : List D)) x.1 x.2.1 x.2.2.1 x.2.2.2) v_).map nz → (fun x => (fun (x : TTicket) (l : List TTicket) (at_ : Int) (id : Int) => ([] : List (Nm × OO))) x.1 x.2.1 x.2.2.1 x.2.2.2) u_ = (fun x => (fun (x : TTicket) (l : List TTicket) (at_ : Int) (id : Int) => ([] : List (Nm × OO))) x.1 x.2.1 x.2.2.1 x.2.2.2) v_ → u_ = v_ := by
  intro u_ v_ h h2_
  obtain ⟨⟨x_Id, x_At, x_Hour⟩, l, at_, id⟩ := u_
  obtain ⟨⟨x_Id', x_At', x_Hour'⟩, l', at_', id'⟩ := v_
  simp [nz_lit, nz1_lit, nz_agg, nz_sl, nz1_sl, nz_sx, nz_el, nz1_el, nz_own, nz1_own, nz_ptr, nz_fn, nz_iface] at h h2_
  first | (simp [h, h2_]; done) | simp_all | grind
@[simp] theorem c148_fn (x_Id : Int) (x_At : Int) (x_Hour : Int) (l : List TTicket) (at_ : Int) (id : Int) : c148.fn ([.agg [.lit (.int .i64 x_Id), .lit (.int .i64 x_At), .lit (.int .i64 x_Hour)], .el ((.sl false 3 yTTicket (ML encTTicket l))), .el (dI at_), .el (dI id)]) ([]) = some (0 ≤ at_ ∧ at_ < l.length, dB (isBefore (l[at_.toNat]?.getD default) id (⟨x_Id, x_At, x_Hour⟩ : TTicket)), []) :=
  mkCon_fn c148_inj ((⟨x_Id, x_At, x_Hour⟩, l, at_, id) : TTicket × (List TTicket) × Int × Int) rfl rfl
theorem c148_pc (x : TTicket) (l : List TTicket) (at_ : Int) (id : Int) (hpre : 0 ≤ at_ ∧ at_ < l.length) : PCo Try.prog 148 ([encTTicket x, .el (encLTTicket l), .el (dI at_), .el (dI id)]) (Tab.of ([])) (dB (isBefore (l[at_.toNat]?.getD default) id x)) (Tab.of ([])) := by
  refine pco_of_run [] (E := ⟨[c146, c146], []⟩) (m := false) (base := 0) (Env.ok_cons c146_ok (Env.ok_cons c146_ok Env.ok_nil)) G_ok mix 300 6 Try.func148 (by kernel_rfl) rfl (by kernel_rfl) (by kernel_rfl) rfl ?_
  simp [Try.f148]
  repeat' (first | omega | refine And.intro ?_ ?_ | intro _)
  all_goals (simp only [isBefore, hasApp]; try grind)
theorem c148_ok : c148.ok Try.prog := mkCon_ok fun ⟨x, l, at_, id⟩ hpre => c148_pc x l at_ id hpre
/-- loop.example/g03007/impl.countWhere[loop.example/g03007/impl.Ticket] -/
noncomputable def c147 : Con := mkCon 147 false (α := (List TTicket) × (List TTicket) × Int × Int) (fun x => (fun (l : List TTicket) (l2 : List TTicket) (at_ : Int) (id : Int) => ([encLTTicket l, .fn (.func 148) [] [.el (encLTTicket l2), .el (dI at_), .el (dI id)]] : List D)) x.1 x.2.1 x.2.2.1 x.2.2.2) (fun x => (fun (l : List TTicket) (l2 : List TTicket) (at_ : Int) (id : Int) => ([] : List (Nm × OO))) x.1 x.2.1 x.2.2.1 x.2.2.2) (fun x => (fun (l : List TTicket) (l2 : List TTicket) (at_ : Int) (id : Int) => l.length ≤ 1099511627776 ∧ 0 ≤ at_ ∧ at_ < l2.length) x.1 x.2.1 x.2.2.1 x.2.2.2) (fun x => (fun (l : List TTicket) (l2 : List TTicket) (at_ : Int) (id : Int) => (dI (l.countP (isBefore (l2[at_.toNat]?.getD default) id)) : D)) x.1 x.2.1 x.2.2.1 x.2.2.2) (fun x => (fun (l : List TTicket) (l2 : List TTicket) (at_ : Int) (id : Int) => ([] : List (Nm × OO))) x.1 x.2.1 x.2.2.1 x.2.2.2)
@[simp] theorem c147_f : c147.f = 147 := rfl
@[simp] theorem c147_own : c147.own = false := rfl
theorem c147_inj : ∀ u_ v_ : (List TTicket) × (List TTicket) × Int × Int, ((fun x => (fun (l : List TTicket) (l2 : List TTicket) (at_ : Int) (id : Int) => ([encLTTicket l, .fn (.func 148) [] [.el (encLTTicket l2), .el (dI at_), .el (dI id)]] : List D)) x.1 x.2.1 x.2.2.1 x.2.2.2) u_).map nz = ((fun x => (fun (l : List TTicket) (l2 : List TTicket) (at_ : Int) (id : Int) => ([encLTTicket l, .fn (.func 148) [] [.el (encLTTicket l2), .el (dI at_), .el (dI id)]] : List D)) x.1 x.2.1 x.2.2.1 x.2.2.2) v_).map nz → (fun x => (fun (l : List TTicket) (l2 : List TTicket) (at_ : Int) (id : Int) => ([] : List (Nm × OO))) x.1 x.2.1 x.2.2.1 x.2.2.2) u_ = (fun x => (fun (l : List TTicket) (l2 : List TTicket) (at_ : Int) (id : Int) => ([] : List (Nm × OO))) x.1 x.2.1 x.2.2.1 x.2.2.2) v_ → u_ = v_ := by
  intro u_ v_ h h2_
  obtain ⟨l, l2, at_, id⟩ := u_
  obtain ⟨l', l2', at_', id'⟩ := v_
  simp [nz_lit, nz1_lit, nz_agg, nz_sl, nz1_sl, nz_sx, nz_el, nz1_el, nz_own, nz1_own, nz_ptr, nz_fn, nz_iface] at h h2_
  first | (simp [h, h2_]; done) | simp_all | grind
@[simp] theorem c147_fn (l : List TTicket) (l2 : List TTicket) (at_ : Int) (id : Int) : c147.fn ([(.sl false 3 yTTicket (ML encTTicket l)), .fn (.func 148) [] [.el ((.sl false 3 yTTicket (ML encTTicket l2))), .el (dI at_), .el (dI id)]]) ([]) = some (l.length ≤ 1099511627776 ∧ 0 ≤ at_ ∧ at_ < l2.length, dI (l.countP (isBefore (l2[at_.toNat]?.getD default) id)), []) :=
  mkCon_fn c147_inj ((l, l2, at_, id) : (List TTicket) × (List TTicket) × Int × Int) rfl rfl
theorem c147_pc (l : List TTicket) (l2 : List TTicket) (at_ : Int) (id : Int) (hpre : l.length ≤ 1099511627776 ∧ 0 ≤ at_ ∧ at_ < l2.length) : PCo Try.prog 147 ([encLTTicket l, .fn (.func 148) [] [.el (encLTTicket l2), .el (dI at_), .el (dI id)]]) (Tab.of ([])) (dI (l.countP (isBefore (l2[at_.toNat]?.getD default) id))) (Tab.of ([])) := by
  refine pco_of_run [] (E := ⟨[c148], []⟩) (m := false) (base := 0) (Env.ok_cons c148_ok Env.ok_nil) G_ok mix 300 6 Try.func147 (by kernel_rfl) rfl (by kernel_rfl) (by kernel_rfl) rfl ?_
  simp [Try.f147]
  refine loop_inv (fun p : Nat => p ≤ l.length) (fun p => [(1, .fn (.func 148) [] [.el (encLTTicket l2), .el (dI at_), .el (dI id)]), (5, dI ((l.take p).countP (isBefore (l2[at_.toNat]?.getD default) id))), (8, encLTTicket l), (9, dI l.length), (10, dI p)]) (fun _ => []) 1 (fun p => l.length - p) 0 400 (by simp) (by simp) (by simp) ?_
  intro p hp
  simp
  refine ⟨fun hlt => ?_, fun hge => ?_⟩
  · have hs := countP_at (want := isBefore (l2[at_.toNat]?.getD default) id) (d := default) hlt
    have hb := countP_take (want := isBefore (l2[at_.toNat]?.getD default) id) (l := l) (p := p)
    repeat' (first | omega | refine And.intro ?_ ?_ | intro _)
    all_goals (rename_i hw; refine Again.mk (p + 1) (by omega) (by simp [hs, hw]) (by first | omega | (simp; omega)))
  · rw [List.take_of_length_le hge]
theorem c147_ok : c147.ok Try.prog := mkCon_ok fun ⟨l, l2, at_, id⟩ hpre => c147_pc l l2 at_ id hpre
def mBeforeIn (l : List TTicket) (id : Int) : Int := if indexBy (wantN nTicket id) 0 l < 0 then -1 else if (l[(indexBy (wantN nTicket id) 0 l).toNat]?.getD default).Hour = -1 then l.countP (isBefore (l[(indexBy (wantN nTicket id) 0 l).toNat]?.getD default) id) else -1
/-- loop.example/g03007/impl.BeforeIn -/
noncomputable def c69 : Con := mkCon 69 false (α := (List TTicket) × Int) (fun x => (fun (l : List TTicket) (id : Int) => [encLTTicket l, dI id]) x.1 x.2) (fun _ => []) (fun x => (fun (l : List TTicket) (id : Int) => l.length ≤ 1099511627776) x.1 x.2) (fun x => (fun (l : List TTicket) (id : Int) => (dI (mBeforeIn l id) : D)) x.1 x.2) (fun x => (fun (l : List TTicket) (id : Int) => []) x.1 x.2)
@[simp] theorem c69_f : c69.f = 69 := rfl
@[simp] theorem c69_own : c69.own = false := rfl
theorem c69_inj : ∀ u_ v_ : (List TTicket) × Int, ((fun x => (fun (l : List TTicket) (id : Int) => [encLTTicket l, dI id]) x.1 x.2) u_).map nz = ((fun x => (fun (l : List TTicket) (id : Int) => [encLTTicket l, dI id]) x.1 x.2) v_).map nz → u_ = v_ := by
  intro u_ v_ h
  obtain ⟨l, id⟩ := u_
  obtain ⟨l', id'⟩ := v_
  simp [nz_lit, nz1_lit, nz_agg, nz_sl, nz1_sl, encLTTicket] at h
  first | (simp [h]; done) | (obtain ⟨⟩ := h; simp_all; done) | simp_all
@[simp] theorem c69_fn (l : List TTicket) (id : Int) : c69.fn [.sl false 3 yTTicket (ML encTTicket l), .lit (.int .i64 id)] [] = some ((fun (l : List TTicket) (id : Int) => l.length ≤ 1099511627776) l id, (fun (l : List TTicket) (id : Int) => (dI (mBeforeIn l id) : D)) l id, (fun (l : List TTicket) (id : Int) => []) l id) :=
  mkCon_fn (fun x y h _ => c69_inj x y h) ((l, id) : (List TTicket) × Int) (by simp [nz, nz1, ML_nil, encLTTicket]) rfl
@[simp] theorem c69_fn1 (s_l : Nat) (z_l : D) (id : Int) : c69.fn [.sl false s_l z_l [], .lit (.int .i64 id)] [] = some ((fun (l : List TTicket) (id : Int) => l.length ≤ 1099511627776) [] id, (fun (l : List TTicket) (id : Int) => (dI (mBeforeIn l id) : D)) [] id, (fun (l : List TTicket) (id : Int) => []) [] id) :=
  mkCon_fn (fun x y h _ => c69_inj x y h) (([], id) : (List TTicket) × Int) (by simp [nz, nz1, ML_nil, encLTTicket]) rfl
theorem c69_pc (l : List TTicket) (id : Int) (hpre : l.length ≤ 1099511627776) : PCo Try.prog 69 [encLTTicket l, dI id] (Tab.of []) (dI (mBeforeIn l id)) (Tab.of []) := by
  refine pco_of_run [1] (E := ⟨[c141, c145, c146, c147, c148], []⟩) (m := false) (base := 0) (Env.ok_cons c141_ok (Env.ok_cons c145_ok (Env.ok_cons c146_ok (Env.ok_cons c147_ok (Env.ok_cons c148_ok Env.ok_nil))))) G_ok mix 300 6 Try.func69 (by kernel_rfl) rfl (by kernel_rfl) (by kernel_rfl) rfl ?_
  simp [Try.f69]
  have hb := indexBy_bd (want := wantN nTicket id) l 0
  refine ⟨hpre, by omega, fun h => ?_, fun h1 h2 => ⟨⟨hpre, by omega⟩, ?_⟩⟩
  · simp only [mBeforeIn]
    split
    · rfl
    · rename_i h3
      have h4 := h.resolve_left h3
      simp [hasApp] at h4
      rw [if_neg h4]
  · simp [hasApp] at h2
    simp only [mBeforeIn]
    rw [if_neg (by omega), if_pos h2]
theorem c69_ok : c69.ok Try.prog := mkCon_ok fun ⟨l, id⟩ hpre => c69_pc l id hpre
theorem indexBy_snoc {α : Type} {w : α → Bool} (x : α) : ∀ (l : List α) (i : Int), 0 ≤ i → indexBy w i (l ++ [x]) = if indexBy w i l < 0 then (if w x then i + l.length else -1) else indexBy w i l
  | [], i, _ => by simp [indexBy]
  | y :: r, i, hi => by
    simp only [List.cons_append, indexBy]
    by_cases h : w y = true
    · simp only [h, if_true]; rw [if_neg (by omega)]
    · simp only [h, if_false, Bool.false_eq_true]; rw [indexBy_snoc x r (i + 1) (by omega)]
      simp only [List.length_cons]
      push_cast
      split
      · split <;> omega
      · rfl
theorem indexBy_take_at {α : Type} {w : α → Bool} {l : List α} {p : Nat} {d : α} (h : p < l.length) : indexBy w 0 (l.take (p + 1)) = if indexBy w 0 (l.take p) < 0 then (if w (l[p]?.getD d) then (p : Int) else -1) else indexBy w 0 (l.take p) := by
  rw [take_at (d := d) h, indexBy_snoc _ _ _ (by omega)]
  have : (l.take p).length = p := by simp; omega
  rw [this]; simp
/-- loop.example/g03007/spec.BeforeIn -/
noncomputable def c68 : Con := mkCon 68 false (α := (List TTicket) × Int) (fun x => (fun (l : List TTicket) (id : Int) => [encLTTicket l, dI id]) x.1 x.2) (fun _ => []) (fun x => (fun (l : List TTicket) (id : Int) => l.length ≤ 1099511627776) x.1 x.2) (fun x => (fun (l : List TTicket) (id : Int) => (dI (mBeforeIn l id) : D)) x.1 x.2) (fun x => (fun (l : List TTicket) (id : Int) => []) x.1 x.2)
@[simp] theorem c68_f : c68.f = 68 := rfl
@[simp] theorem c68_own : c68.own = false := rfl
theorem c68_inj : ∀ u_ v_ : (List TTicket) × Int, ((fun x => (fun (l : List TTicket) (id : Int) => [encLTTicket l, dI id]) x.1 x.2) u_).map nz = ((fun x => (fun (l : List TTicket) (id : Int) => [encLTTicket l, dI id]) x.1 x.2) v_).map nz → u_ = v_ := by
  intro u_ v_ h
  obtain ⟨l, id⟩ := u_
  obtain ⟨l', id'⟩ := v_
  simp [nz_lit, nz1_lit, nz_agg, nz_sl, nz1_sl, encLTTicket] at h
  first | (simp [h]; done) | (obtain ⟨⟩ := h; simp_all; done) | simp_all
@[simp] theorem c68_fn (l : List TTicket) (id : Int) : c68.fn [.sl false 3 yTTicket (ML encTTicket l), .lit (.int .i64 id)] [] = some ((fun (l : List TTicket) (id : Int) => l.length ≤ 1099511627776) l id, (fun (l : List TTicket) (id : Int) => (dI (mBeforeIn l id) : D)) l id, (fun (l : List TTicket) (id : Int) => []) l id) :=
  mkCon_fn (fun x y h _ => c68_inj x y h) ((l, id) : (List TTicket) × Int) (by simp [nz, nz1, ML_nil, encLTTicket]) rfl
@[simp] theorem c68_fn1 (s_l : Nat) (z_l : D) (id : Int) : c68.fn [.sl false s_l z_l [], .lit (.int .i64 id)] [] = some ((fun (l : List TTicket) (id : Int) => l.length ≤ 1099511627776) [] id, (fun (l : List TTicket) (id : Int) => (dI (mBeforeIn l id) : D)) [] id, (fun (l : List TTicket) (id : Int) => []) [] id) :=
  mkCon_fn (fun x y h _ => c68_inj x y h) (([], id) : (List TTicket) × Int) (by simp [nz, nz1, ML_nil, encLTTicket]) rfl
theorem c68_pc (l : List TTicket) (id : Int) (hpre : l.length ≤ 1099511627776) : PCo Try.prog 68 [encLTTicket l, dI id] (Tab.of []) (dI (mBeforeIn l id)) (Tab.of []) := by
  refine pco_of_run [] (E := ⟨[], []⟩) (m := false) (base := 0) Env.ok_nil G_ok mix 300 6 Try.func68 (by kernel_rfl) rfl (by kernel_rfl) (by kernel_rfl) rfl ?_
  simp [Try.f68]
  refine loop_inv (fun p : Nat => p ≤ l.length) (fun p => [(0, encLTTicket l), (1, dI id), (5, dI (indexBy (wantN nTicket id) 0 (l.take p))), (6, dI p)]) (fun _ => []) 1 (fun p => l.length - p) 0 400 (by simp) (by simp) (by simp [indexBy]) ?_
  intro p hp
  simp
  refine ⟨fun hlt => ?_, fun hge => ?_⟩
  · have hs := indexBy_take_at (w := wantN nTicket id) (d := default) hlt
    have hb := indexBy_bd (want := wantN nTicket id) (l.take p) 0
    simp only [wantN, nTicket, decide_eq_true_eq] at hs hb
    repeat' (first | omega | refine And.intro ?_ ?_ | intro _)
    all_goals (refine Again.mk (p + 1) (by omega) (by simp [wantN, nTicket] at *; rw [hs]; grind) (by first | omega | (simp; omega)))
  · rw [List.take_of_length_le hge]
    have hb := indexBy_bd (want := wantN nTicket id) l 0
    refine ⟨by omega, fun h => ?_, fun h1 h2 => ?_⟩
    · simp only [mBeforeIn]
      grind
    · have hm : mBeforeIn l id = l.countP (isBefore (l[(indexBy (wantN nTicket id) 0 l).toNat]?.getD default) id) := by
        simp only [mBeforeIn]
        rw [if_neg (by omega), if_pos h2]
      generalize indexBy (wantN nTicket id) 0 l = k at *
      refine loop_inv (fun p : Nat => p ≤ l.length) (fun p => [(0, encLTTicket l), (1, dI id), (5, dI k), (7, dI ((l.take p).countP (isBefore (l[k.toNat]?.getD default) id))), (8, dI p)]) (fun _ => []) 1 (fun p => l.length - p) 0 400 (by simp) (by simp) (by simp) ?_
      intro p hp
      simp
      refine ⟨fun hlt => ?_, fun hge => ?_⟩
      · have hs := countP_at (want := isBefore (l[k.toNat]?.getD default) id) (d := default) hlt
        have hb2 := countP_take (want := isBefore (l[k.toNat]?.getD default) id) (l := l) (p := p)
        have hd : isBefore (l[k.toNat]?.getD default) id (l[p]?.getD default) = (decide ((l[p]?.getD default).Hour = -1) && (decide ((l[p]?.getD default).At < (l[k.toNat]?.getD default).At) || decide ((l[p]?.getD default).At = (l[k.toNat]?.getD default).At) && decide ((l[p]?.getD default).Id < id))) := rfl
        repeat' (first | omega | refine And.intro ?_ ?_ | intro _)
        all_goals (refine Again.mk (p + 1) (by omega) (by simp [hs, hd]; grind) (by first | omega | (simp; omega)))
      · rw [List.take_of_length_le hge, hm]
theorem c68_ok : c68.ok Try.prog := mkCon_ok fun ⟨l, id⟩ hpre => c68_pc l id hpre
/-- loop.example/g03007/laws.FnExactBeforeIn -/
theorem law15 (l : List TTicket) (wl : wfLTTicket l) (id : Int) (wid : inR .i64 id) : PCo Try.prog 15 [encLTTicket l, dI id] (Tab.of []) (dB true) (Tab.of []) := by
  refine pco_of_run [] (E := ⟨[c63, c65, c67, c68, c69], []⟩) (m := false) (base := 0) (Env.ok_cons c63_ok (Env.ok_cons c65_ok (Env.ok_cons c67_ok (Env.ok_cons c68_ok (Env.ok_cons c69_ok Env.ok_nil))))) G_ok mix 400 6 Try.func15 (by kernel_rfl) rfl (by kernel_rfl) (by kernel_rfl) rfl ?_
  simp [Try.f15]
  have h_l : l.length ≤ maxLen := wl.1
  repeat' (first | omega | assumption | refine And.intro ?_ ?_ | intro _)
  all_goals first | omega | grind | (split at * <;> omega)
theorem law15_pc (D0 : D) (h0 : Sh G 9 64 D0) (D1 : D) (h1 : Sh G 9 3 D1) : PC Try.prog 15 [D0, D1] (dB true) [] := by
  obtain ⟨l, rfl, wl⟩ := sh64 (n := 6) h0
  obtain ⟨id, rfl, wid⟩ := sh3 (n := 8) h1
  exact law15 l wl id wid

end Go.Proofs.Ytadipfpojlceeaa
