/- Contracts of the functions that the laws run. -/
import Derived.Test.Ytlpobdjfdbfhaaach08
import Derived.Test.YtlpobdjfdbfhaaaEngB
namespace Go.Proofs.Ytlpobdjfdbfhaaa
open Go Go.Eng
set_option linter.unusedSimpArgs false
set_option linter.unusedVariables false
set_option maxRecDepth 10000
set_option maxHeartbeats 1000000
/-- loop.example/g03007/laws.toStop -/
noncomputable def c172 : Con := mkCon 172 false (α := TStop) (fun x => (fun (a : TStop) => [encTStop a]) x) (fun _ => []) (fun x => (fun (a : TStop) => True) x) (fun x => (fun (a : TStop) => (encTStop a : D)) x) (fun x => (fun (a : TStop) => []) x)
@[simp] theorem c172_f : c172.f = 172 := rfl
@[simp] theorem c172_own : c172.own = false := rfl
theorem c172_inj : ∀ u_ v_ : TStop, ((fun x => (fun (a : TStop) => [encTStop a]) x) u_).map nz = ((fun x => (fun (a : TStop) => [encTStop a]) x) v_).map nz → u_ = v_ := by
  intro u_ v_ h
  obtain ⟨a_Place, a_Arrive, a_Leave⟩ := u_
  obtain ⟨a_Place', a_Arrive', a_Leave'⟩ := v_
  simp [nz_lit, nz1_lit, nz_agg, nz_sl, nz1_sl, encTStop] at h
  first | (simp [h]; done) | (obtain ⟨⟩ := h; simp_all; done) | simp_all
@[simp] theorem c172_fn (a_Place : Int) (a_Arrive : Int) (a_Leave : Int) : c172.fn [.agg [.lit (.int .i64 a_Place), .lit (.int .i64 a_Arrive), .lit (.int .i64 a_Leave)]] [] = some ((fun (a : TStop) => True) ⟨a_Place, a_Arrive, a_Leave⟩, (fun (a : TStop) => (encTStop a : D)) ⟨a_Place, a_Arrive, a_Leave⟩, (fun (a : TStop) => []) ⟨a_Place, a_Arrive, a_Leave⟩) :=
  mkCon_fn (fun x y h _ => c172_inj x y h) (⟨a_Place, a_Arrive, a_Leave⟩ : TStop) (by simp [nz, nz1, ML_nil, encTStop]) rfl
theorem c172_pc (a : TStop) : PCo Try.prog 172 [encTStop a] (Tab.of []) (encTStop a) (Tab.of []) := by
  obtain ⟨a_Place, a_Arrive, a_Leave⟩ := a
  refine pco_of_run [] (E := ⟨[], []⟩) (m := false) (base := 0) Env.ok_nil G_ok mix 300 6 Try.func172 (by kernel_rfl) rfl (by kernel_rfl) (by kernel_rfl) rfl ?_
  simp [Try.f172]
  all_goals first | omega | (rw [Bool.eq_iff_iff]; simp; omega) | grind
theorem c172_ok : c172.ok Try.prog := mkCon_ok fun a hpre => c172_pc a
/-- loop.example/g03007/laws.eqStop -/
noncomputable def c174 : Con := mkCon 174 false (α := TStop × TStop) (fun x => (fun (a : TStop) (b : TStop) => [encTStop a, encTStop b]) x.1 x.2) (fun _ => []) (fun x => (fun (a : TStop) (b : TStop) => True) x.1 x.2) (fun x => (fun (a : TStop) (b : TStop) => (dB (decide (a = b)) : D)) x.1 x.2) (fun x => (fun (a : TStop) (b : TStop) => []) x.1 x.2)
@[simp] theorem c174_f : c174.f = 174 := rfl
@[simp] theorem c174_own : c174.own = false := rfl
theorem c174_inj : ∀ u_ v_ : TStop × TStop, ((fun x => (fun (a : TStop) (b : TStop) => [encTStop a, encTStop b]) x.1 x.2) u_).map nz = ((fun x => (fun (a : TStop) (b : TStop) => [encTStop a, encTStop b]) x.1 x.2) v_).map nz → u_ = v_ := by
  intro u_ v_ h
  obtain ⟨⟨a_Place, a_Arrive, a_Leave⟩, ⟨b_Place, b_Arrive, b_Leave⟩⟩ := u_
  obtain ⟨⟨a_Place', a_Arrive', a_Leave'⟩, ⟨b_Place', b_Arrive', b_Leave'⟩⟩ := v_
  simp [nz_lit, nz1_lit, nz_agg, nz_sl, nz1_sl, encTStop] at h
  first | (simp [h]; done) | (obtain ⟨⟩ := h; simp_all; done) | simp_all
@[simp] theorem c174_fn (a_Place : Int) (a_Arrive : Int) (a_Leave : Int) (b_Place : Int) (b_Arrive : Int) (b_Leave : Int) : c174.fn [.agg [.lit (.int .i64 a_Place), .lit (.int .i64 a_Arrive), .lit (.int .i64 a_Leave)], .agg [.lit (.int .i64 b_Place), .lit (.int .i64 b_Arrive), .lit (.int .i64 b_Leave)]] [] = some ((fun (a : TStop) (b : TStop) => True) ⟨a_Place, a_Arrive, a_Leave⟩ ⟨b_Place, b_Arrive, b_Leave⟩, (fun (a : TStop) (b : TStop) => (dB (decide (a = b)) : D)) ⟨a_Place, a_Arrive, a_Leave⟩ ⟨b_Place, b_Arrive, b_Leave⟩, (fun (a : TStop) (b : TStop) => []) ⟨a_Place, a_Arrive, a_Leave⟩ ⟨b_Place, b_Arrive, b_Leave⟩) :=
  mkCon_fn (fun x y h _ => c174_inj x y h) ((⟨a_Place, a_Arrive, a_Leave⟩, ⟨b_Place, b_Arrive, b_Leave⟩) : TStop × TStop) (by simp [nz, nz1, ML_nil, encTStop]) rfl
theorem c174_pc (a : TStop) (b : TStop) : PCo Try.prog 174 [encTStop a, encTStop b] (Tab.of []) (dB (decide (a = b))) (Tab.of []) := by
  obtain ⟨a_Place, a_Arrive, a_Leave⟩ := a
  obtain ⟨b_Place, b_Arrive, b_Leave⟩ := b
  refine pco_of_run [] (E := ⟨[], []⟩) (m := false) (base := 0) Env.ok_nil G_ok mix 300 6 Try.func174 (by kernel_rfl) rfl (by kernel_rfl) (by kernel_rfl) rfl ?_
  simp [Try.f174]
  all_goals first | omega | (rw [Bool.eq_iff_iff]; simp; omega) | grind
theorem c174_ok : c174.ok Try.prog := mkCon_ok fun ⟨a, b⟩ hpre => c174_pc a b
/-- loop.example/g03007/laws.szStopS -/
noncomputable def c102 : Con := mkCon 102 false (α := (List TStop) × Int) (fun x => (fun (l : List TStop) (left : Int) => [encLTStop l, dI left]) x.1 x.2) (fun _ => []) (fun x => (fun (l : List TStop) (left : Int) => l.length ≤ maxLen ∧ 0 ≤ left ∧ left ≤ 1099511627776) x.1 x.2) (fun x => (fun (l : List TStop) (left : Int) => (dI (if left - l.length < 0 then -1 else left - l.length) : D)) x.1 x.2) (fun x => (fun (l : List TStop) (left : Int) => []) x.1 x.2)
@[simp] theorem c102_f : c102.f = 102 := rfl
@[simp] theorem c102_own : c102.own = false := rfl
theorem c102_inj : ∀ u_ v_ : (List TStop) × Int, ((fun x => (fun (l : List TStop) (left : Int) => [encLTStop l, dI left]) x.1 x.2) u_).map nz = ((fun x => (fun (l : List TStop) (left : Int) => [encLTStop l, dI left]) x.1 x.2) v_).map nz → u_ = v_ := by
  intro u_ v_ h
  obtain ⟨l, left⟩ := u_
  obtain ⟨l', left'⟩ := v_
  simp [nz_lit, nz1_lit, nz_agg, nz_sl, nz1_sl, encLTStop] at h
  first | (simp [h]; done) | (obtain ⟨⟩ := h; simp_all; done) | simp_all
@[simp] theorem c102_fn (l : List TStop) (left : Int) : c102.fn [.sl false 3 yTStop (ML encTStop l), .lit (.int .i64 left)] [] = some ((fun (l : List TStop) (left : Int) => l.length ≤ maxLen ∧ 0 ≤ left ∧ left ≤ 1099511627776) l left, (fun (l : List TStop) (left : Int) => (dI (if left - l.length < 0 then -1 else left - l.length) : D)) l left, (fun (l : List TStop) (left : Int) => []) l left) :=
  mkCon_fn (fun x y h _ => c102_inj x y h) ((l, left) : (List TStop) × Int) (by simp [nz, nz1, ML_nil, encLTStop]) rfl
@[simp] theorem c102_fn1 (s_l : Nat) (z_l : D) (left : Int) : c102.fn [.sl false s_l z_l [], .lit (.int .i64 left)] [] = some ((fun (l : List TStop) (left : Int) => l.length ≤ maxLen ∧ 0 ≤ left ∧ left ≤ 1099511627776) [] left, (fun (l : List TStop) (left : Int) => (dI (if left - l.length < 0 then -1 else left - l.length) : D)) [] left, (fun (l : List TStop) (left : Int) => []) [] left) :=
  mkCon_fn (fun x y h _ => c102_inj x y h) (([], left) : (List TStop) × Int) (by simp [nz, nz1, ML_nil, encLTStop]) rfl
theorem c102_pc (l : List TStop) (left : Int) (hpre : l.length ≤ maxLen ∧ 0 ≤ left ∧ left ≤ 1099511627776) : PCo Try.prog 102 [encLTStop l, dI left] (Tab.of []) (dI (if left - l.length < 0 then -1 else left - l.length)) (Tab.of []) := by
  refine pco_of_run [] (E := ⟨[], []⟩) (m := false) (base := 0) Env.ok_nil G_ok mix 300 6 Try.func102 (by kernel_rfl) rfl (by kernel_rfl) (by kernel_rfl) rfl ?_
  simp [Try.f102]
  simp [maxLen] at hpre
  all_goals omega
theorem c102_ok : c102.ok Try.prog := mkCon_ok fun ⟨l, left⟩ hpre => c102_pc l left hpre
/-- loop.example/g03007/laws.toStopS -/
noncomputable def c104 : Con := mkCon 104 false (α := (List TStop)) (fun x => (fun (l : List TStop) => [encLTStop l]) x) (fun _ => []) (fun x => (fun (l : List TStop) => l.length ≤ 1099511627776) x) (fun x => (fun (l : List TStop) => (encLTStop l : D)) x) (fun x => (fun (l : List TStop) => []) x)
@[simp] theorem c104_f : c104.f = 104 := rfl
@[simp] theorem c104_own : c104.own = false := rfl
theorem c104_inj : ∀ u_ v_ : (List TStop), ((fun x => (fun (l : List TStop) => [encLTStop l]) x) u_).map nz = ((fun x => (fun (l : List TStop) => [encLTStop l]) x) v_).map nz → u_ = v_ := by
  intro u_ v_ h
  obtain l := u_
  obtain l' := v_
  simp [nz_lit, nz1_lit, nz_agg, nz_sl, nz1_sl, encLTStop] at h
  first | (simp [h]; done) | (obtain ⟨⟩ := h; simp_all; done) | simp_all
@[simp] theorem c104_fn (l : List TStop) : c104.fn [.sl false 3 yTStop (ML encTStop l)] [] = some ((fun (l : List TStop) => l.length ≤ 1099511627776) l, (fun (l : List TStop) => (encLTStop l : D)) l, (fun (l : List TStop) => []) l) :=
  mkCon_fn (fun x y h _ => c104_inj x y h) (l : (List TStop)) (by simp [nz, nz1, ML_nil, encLTStop]) rfl
@[simp] theorem c104_fn1 (s_l : Nat) (z_l : D) : c104.fn [.sl false s_l z_l []] [] = some ((fun (l : List TStop) => l.length ≤ 1099511627776) [], (fun (l : List TStop) => (encLTStop l : D)) [], (fun (l : List TStop) => []) []) :=
  mkCon_fn (fun x y h _ => c104_inj x y h) ([] : (List TStop)) (by simp [nz, nz1, ML_nil, encLTStop]) rfl
theorem c104_pc (l : List TStop) (hpre : l.length ≤ 1099511627776) : PCo Try.prog 104 [encLTStop l] (Tab.of []) (encLTStop l) (Tab.of []) := by
  refine pco_of_run [] (E := ⟨[c172], []⟩) (m := false) (base := 0) (Env.ok_cons c172_ok Env.ok_nil) G_ok mix 300 6 Try.func104 (by kernel_rfl) rfl (by kernel_rfl) (by kernel_rfl) rfl ?_
  simp [Try.f104]
  refine ⟨by omega, ?_⟩
  refine loop_inv (fun p : Nat => p ≤ l.length) (fun p => [(0, encLTStop l), (3, .own (0, 1) 3 0 l.length), (4, dI p)]) (fun p => [((0, 1), .arr false 3 yTStop (ML encTStop (l.take p ++ List.replicate (l.length - p) ⟨0, 0, 0⟩)))]) 2 (fun p => l.length - p) 0 100 (by simp) (by simp) (by first | (simp; done) | (simp; simp only [ML, List.map_replicate]; rfl)) ?_
  intro p hp
  simp
  refine ⟨fun hlt => ⟨by omega, by omega, Again.mk (p + 1) (by omega) (by simp [fill_step hlt]) (by first | omega | (simp; omega))⟩, fun hge => ?_⟩
  have : p = l.length := by omega
  subst this
  simp
theorem c104_ok : c104.ok Try.prog := mkCon_ok fun l hpre => c104_pc l hpre
/-- loop.example/g03007/laws.eqStopS -/
noncomputable def c106 : Con := mkCon 106 false (α := (List TStop) × (List TStop)) (fun x => (fun (a : List TStop) (b : List TStop) => [encLTStop a, encLTStop b]) x.1 x.2) (fun _ => []) (fun x => (fun (a : List TStop) (b : List TStop) => a.length ≤ 1099511627776 ∧ b.length ≤ 1099511627776) x.1 x.2) (fun x => (fun (a : List TStop) (b : List TStop) => (dB (decide (a = b)) : D)) x.1 x.2) (fun x => (fun (a : List TStop) (b : List TStop) => []) x.1 x.2)
@[simp] theorem c106_f : c106.f = 106 := rfl
@[simp] theorem c106_own : c106.own = false := rfl
theorem c106_inj : ∀ u_ v_ : (List TStop) × (List TStop), ((fun x => (fun (a : List TStop) (b : List TStop) => [encLTStop a, encLTStop b]) x.1 x.2) u_).map nz = ((fun x => (fun (a : List TStop) (b : List TStop) => [encLTStop a, encLTStop b]) x.1 x.2) v_).map nz → u_ = v_ := by
  intro u_ v_ h
  obtain ⟨a, b⟩ := u_
  obtain ⟨a', b'⟩ := v_
  simp [nz_lit, nz1_lit, nz_agg, nz_sl, nz1_sl, encLTStop] at h
  first | (simp [h]; done) | (obtain ⟨⟩ := h; simp_all; done) | simp_all
@[simp] theorem c106_fn (a : List TStop) (b : List TStop) : c106.fn [.sl false 3 yTStop (ML encTStop a), .sl false 3 yTStop (ML encTStop b)] [] = some ((fun (a : List TStop) (b : List TStop) => a.length ≤ 1099511627776 ∧ b.length ≤ 1099511627776) a b, (fun (a : List TStop) (b : List TStop) => (dB (decide (a = b)) : D)) a b, (fun (a : List TStop) (b : List TStop) => []) a b) :=
  mkCon_fn (fun x y h _ => c106_inj x y h) ((a, b) : (List TStop) × (List TStop)) (by simp [nz, nz1, ML_nil, encLTStop]) rfl
@[simp] theorem c106_fn1 (s_a : Nat) (z_a : D) (b : List TStop) : c106.fn [.sl false s_a z_a [], .sl false 3 yTStop (ML encTStop b)] [] = some ((fun (a : List TStop) (b : List TStop) => a.length ≤ 1099511627776 ∧ b.length ≤ 1099511627776) [] b, (fun (a : List TStop) (b : List TStop) => (dB (decide (a = b)) : D)) [] b, (fun (a : List TStop) (b : List TStop) => []) [] b) :=
  mkCon_fn (fun x y h _ => c106_inj x y h) (([], b) : (List TStop) × (List TStop)) (by simp [nz, nz1, ML_nil, encLTStop]) rfl
@[simp] theorem c106_fn2 (a : List TStop) (s_b : Nat) (z_b : D) : c106.fn [.sl false 3 yTStop (ML encTStop a), .sl false s_b z_b []] [] = some ((fun (a : List TStop) (b : List TStop) => a.length ≤ 1099511627776 ∧ b.length ≤ 1099511627776) a [], (fun (a : List TStop) (b : List TStop) => (dB (decide (a = b)) : D)) a [], (fun (a : List TStop) (b : List TStop) => []) a []) :=
  mkCon_fn (fun x y h _ => c106_inj x y h) ((a, []) : (List TStop) × (List TStop)) (by simp [nz, nz1, ML_nil, encLTStop]) rfl
@[simp] theorem c106_fn3 (s_a : Nat) (z_a : D) (s_b : Nat) (z_b : D) : c106.fn [.sl false s_a z_a [], .sl false s_b z_b []] [] = some ((fun (a : List TStop) (b : List TStop) => a.length ≤ 1099511627776 ∧ b.length ≤ 1099511627776) [] [], (fun (a : List TStop) (b : List TStop) => (dB (decide (a = b)) : D)) [] [], (fun (a : List TStop) (b : List TStop) => []) [] []) :=
  mkCon_fn (fun x y h _ => c106_inj x y h) (([], []) : (List TStop) × (List TStop)) (by simp [nz, nz1, ML_nil, encLTStop]) rfl
theorem c106_pc (a : List TStop) (b : List TStop) (hpre : a.length ≤ 1099511627776 ∧ b.length ≤ 1099511627776) : PCo Try.prog 106 [encLTStop a, encLTStop b] (Tab.of []) (dB (decide (a = b))) (Tab.of []) := by
  refine pco_of_run [] (E := ⟨[c174], []⟩) (m := false) (base := 0) (Env.ok_cons c174_ok Env.ok_nil) G_ok mix 300 6 Try.func106 (by kernel_rfl) rfl (by kernel_rfl) (by kernel_rfl) rfl ?_
  simp [Try.f106]
  obtain ⟨pre1, pre2⟩ := hpre
  refine ⟨fun h => ?_, fun h => by intro e; subst e; exact absurd rfl h⟩
  refine loop_inv (fun p : Nat => p ≤ a.length ∧ a.take p = b.take p) (fun p => [(0, encLTStop a), (1, encLTStop b), (5, dI p)]) (fun _ => []) 1 (fun p => a.length - p) 0 100 (by simp) (by simp) (by simp) ?_
  intro p ⟨hp, hi⟩
  simp
  refine ⟨fun hlt => ⟨by omega, fun h2 => ⟨by omega, Again.mk (p + 1) ⟨by omega, take_eq_step hi (by omega) (by omega) h2⟩ (by simp) (by first | omega | (simp; omega))⟩, fun h2 => by intro e; subst e; exact absurd rfl h2⟩, fun hge => ?_⟩
  exact take_eq_full hi (by omega) (by omega)
theorem c106_ok : c106.ok Try.prog := mkCon_ok fun ⟨a, b⟩ hpre => c106_pc a b hpre
def routeFrom : Int → List TStop → Bool
  | _, [] => true
  | e, x :: r => mIn x.Place 1 30 && decide (e ≤ x.Arrive) && mIsSpan ⟨x.Arrive, x.Leave⟩ && routeFrom x.Leave r
theorem routeFrom_at {e : Int} {l : List TStop} {p : Nat} (h : p < l.length) : routeFrom e (l.drop p) = (mIn (l[p]?.getD default).Place 1 30 && decide (e ≤ (l[p]?.getD default).Arrive) && mIsSpan ⟨(l[p]?.getD default).Arrive, (l[p]?.getD default).Leave⟩ && routeFrom (l[p]?.getD default).Leave (l.drop (p + 1))) := by
  rw [drop_at (d := default) h, routeFrom]
theorem routeFrom_end {e : Int} {l : List TStop} {p : Nat} (h : l.length ≤ p) : routeFrom e (l.drop p) = true := by
  rw [List.drop_eq_nil_of_le h, routeFrom]
def mIsRoute (l : List TStop) : Bool := mIn l.length 1 10 && routeFrom 0 l
/-- (loop.example/g03007/impl.Stop).hours -/
noncomputable def c173 : Con := mkCon 173 false (α := TStop) (fun x => (fun (s : TStop) => [encTStop s]) x) (fun _ => []) (fun x => (fun (s : TStop) => True) x) (fun x => (fun (s : TStop) => (encTSpan ⟨s.Arrive, s.Leave⟩ : D)) x) (fun x => (fun (s : TStop) => []) x)
@[simp] theorem c173_f : c173.f = 173 := rfl
@[simp] theorem c173_own : c173.own = false := rfl
theorem c173_inj : ∀ u_ v_ : TStop, ((fun x => (fun (s : TStop) => [encTStop s]) x) u_).map nz = ((fun x => (fun (s : TStop) => [encTStop s]) x) v_).map nz → u_ = v_ := by
  intro u_ v_ h
  obtain ⟨s_Place, s_Arrive, s_Leave⟩ := u_
  obtain ⟨s_Place', s_Arrive', s_Leave'⟩ := v_
  simp [nz_lit, nz1_lit, nz_agg, nz_sl, nz1_sl, encTStop] at h
  first | (simp [h]; done) | (obtain ⟨⟩ := h; simp_all; done) | simp_all
@[simp] theorem c173_fn (s_Place : Int) (s_Arrive : Int) (s_Leave : Int) : c173.fn [.agg [.lit (.int .i64 s_Place), .lit (.int .i64 s_Arrive), .lit (.int .i64 s_Leave)]] [] = some ((fun (s : TStop) => True) ⟨s_Place, s_Arrive, s_Leave⟩, (fun (s : TStop) => (encTSpan ⟨s.Arrive, s.Leave⟩ : D)) ⟨s_Place, s_Arrive, s_Leave⟩, (fun (s : TStop) => []) ⟨s_Place, s_Arrive, s_Leave⟩) :=
  mkCon_fn (fun x y h _ => c173_inj x y h) (⟨s_Place, s_Arrive, s_Leave⟩ : TStop) (by simp [nz, nz1, ML_nil, encTStop]) rfl
theorem c173_pc (s : TStop) : PCo Try.prog 173 [encTStop s] (Tab.of []) (encTSpan ⟨s.Arrive, s.Leave⟩) (Tab.of []) := by
  obtain ⟨s_Place, s_Arrive, s_Leave⟩ := s
  refine pco_of_run [] (E := ⟨[], []⟩) (m := false) (base := 0) Env.ok_nil G_ok mix 300 6 Try.func173 (by kernel_rfl) rfl (by kernel_rfl) (by kernel_rfl) rfl ?_
  simp [Try.f173]
  all_goals first | omega | (rw [Bool.eq_iff_iff]; simp; omega) | grind
theorem c173_ok : c173.ok Try.prog := mkCon_ok fun s hpre => c173_pc s
/-- loop.example/g03007/impl.IsRoute -/
noncomputable def c105 : Con := mkCon 105 false (α := (List TStop)) (fun x => (fun (l : List TStop) => [encLTStop l]) x) (fun _ => []) (fun x => (fun (l : List TStop) => l.length ≤ 1099511627776) x) (fun x => (fun (l : List TStop) => (dB (mIsRoute l) : D)) x) (fun x => (fun (l : List TStop) => []) x)
@[simp] theorem c105_f : c105.f = 105 := rfl
@[simp] theorem c105_own : c105.own = false := rfl
theorem c105_inj : ∀ u_ v_ : (List TStop), ((fun x => (fun (l : List TStop) => [encLTStop l]) x) u_).map nz = ((fun x => (fun (l : List TStop) => [encLTStop l]) x) v_).map nz → u_ = v_ := by
  intro u_ v_ h
  obtain l := u_
  obtain l' := v_
  simp [nz_lit, nz1_lit, nz_agg, nz_sl, nz1_sl, encLTStop] at h
  first | (simp [h]; done) | (obtain ⟨⟩ := h; simp_all; done) | simp_all
@[simp] theorem c105_fn (l : List TStop) : c105.fn [.sl false 3 yTStop (ML encTStop l)] [] = some ((fun (l : List TStop) => l.length ≤ 1099511627776) l, (fun (l : List TStop) => (dB (mIsRoute l) : D)) l, (fun (l : List TStop) => []) l) :=
  mkCon_fn (fun x y h _ => c105_inj x y h) (l : (List TStop)) (by simp [nz, nz1, ML_nil, encLTStop]) rfl
@[simp] theorem c105_fn1 (s_l : Nat) (z_l : D) : c105.fn [.sl false s_l z_l []] [] = some ((fun (l : List TStop) => l.length ≤ 1099511627776) [], (fun (l : List TStop) => (dB (mIsRoute l) : D)) [], (fun (l : List TStop) => []) []) :=
  mkCon_fn (fun x y h _ => c105_inj x y h) ([] : (List TStop)) (by simp [nz, nz1, ML_nil, encLTStop]) rfl
theorem c105_pc (l : List TStop) (hpre : l.length ≤ 1099511627776) : PCo Try.prog 105 [encLTStop l] (Tab.of []) (dB (mIsRoute l)) (Tab.of []) := by
  refine pco_of_run [] (E := ⟨[c135, c137, c173], []⟩) (m := false) (base := 0) (Env.ok_cons c135_ok (Env.ok_cons c137_ok (Env.ok_cons c173_ok Env.ok_nil))) G_ok mix 300 6 Try.func105 (by kernel_rfl) rfl (by kernel_rfl) (by kernel_rfl) rfl ?_
  simp [Try.f105]
  refine ⟨fun h => by simp [mIsRoute, h], fun h0 => ?_⟩
  refine loop_inv (fun p : Nat × Int => p.1 ≤ l.length ∧ mIsRoute l = routeFrom p.2 (l.drop p.1)) (fun p => [(3, dI p.2), (10, encLTStop l), (11, dI l.length), (12, dI p.1)]) (fun _ => []) 1 (fun p => l.length - p.1) (0, 0) 400 (by simp) (by simp [mIsRoute, h0]) (by simp) ?_
  intro ⟨p, e⟩ ⟨hp, hi⟩
  simp at hp hi ⊢
  refine ⟨fun hlt => ?_, fun hge => ?_⟩
  · rw [routeFrom_at hlt] at hi
    repeat' (first | omega | refine And.intro ?_ ?_ | intro _)
    all_goals first | exact Again.mk (p + 1, (l[p]?.getD default).Leave) ⟨by simp; omega, by simp only []; rw [hi]; grind⟩ (by simp) (by first | omega | (simp; omega)) | (rw [hi]; grind)
  · rw [hi, routeFrom_end hge]
theorem c105_ok : c105.ok Try.prog := mkCon_ok fun l hpre => c105_pc l hpre
def prevE (l : List TStop) (p : Nat) : Int := if p = 0 then 0 else (l[p - 1]?.getD default).Leave
/-- loop.example/g03007/spec.IsRoute -/
noncomputable def c103 : Con := mkCon 103 false (α := (List TStop)) (fun x => (fun (l : List TStop) => [encLTStop l]) x) (fun _ => []) (fun x => (fun (l : List TStop) => l.length ≤ 1099511627776) x) (fun x => (fun (l : List TStop) => (dB (mIsRoute l) : D)) x) (fun x => (fun (l : List TStop) => []) x)
@[simp] theorem c103_f : c103.f = 103 := rfl
@[simp] theorem c103_own : c103.own = false := rfl
theorem c103_inj : ∀ u_ v_ : (List TStop), ((fun x => (fun (l : List TStop) => [encLTStop l]) x) u_).map nz = ((fun x => (fun (l : List TStop) => [encLTStop l]) x) v_).map nz → u_ = v_ := by
  intro u_ v_ h
  obtain l := u_
  obtain l' := v_
  simp [nz_lit, nz1_lit, nz_agg, nz_sl, nz1_sl, encLTStop] at h
  first | (simp [h]; done) | (obtain ⟨⟩ := h; simp_all; done) | simp_all
@[simp] theorem c103_fn (l : List TStop) : c103.fn [.sl false 3 yTStop (ML encTStop l)] [] = some ((fun (l : List TStop) => l.length ≤ 1099511627776) l, (fun (l : List TStop) => (dB (mIsRoute l) : D)) l, (fun (l : List TStop) => []) l) :=
  mkCon_fn (fun x y h _ => c103_inj x y h) (l : (List TStop)) (by simp [nz, nz1, ML_nil, encLTStop]) rfl
@[simp] theorem c103_fn1 (s_l : Nat) (z_l : D) : c103.fn [.sl false s_l z_l []] [] = some ((fun (l : List TStop) => l.length ≤ 1099511627776) [], (fun (l : List TStop) => (dB (mIsRoute l) : D)) [], (fun (l : List TStop) => []) []) :=
  mkCon_fn (fun x y h _ => c103_inj x y h) ([] : (List TStop)) (by simp [nz, nz1, ML_nil, encLTStop]) rfl
theorem c103_pc (l : List TStop) (hpre : l.length ≤ 1099511627776) : PCo Try.prog 103 [encLTStop l] (Tab.of []) (dB (mIsRoute l)) (Tab.of []) := by
  refine pco_of_run [] (E := ⟨[c117], []⟩) (m := false) (base := 0) (Env.ok_cons c117_ok Env.ok_nil) G_ok mix 300 6 Try.func103 (by kernel_rfl) rfl (by kernel_rfl) (by kernel_rfl) rfl ?_
  simp [Try.f103]
  refine loop_inv (fun p : Nat => p ≤ l.length ∧ routeFrom 0 l = routeFrom (prevE l p) (l.drop p)) (fun p => [(0, encLTStop l), (3, dI p)]) (fun _ => []) 1 (fun p => l.length - p) 0 400 (by simp) (by simp [prevE]) (by simp) ?_
  intro p ⟨hp, hi⟩
  simp
  refine ⟨fun hlt => ?_, fun hge => ?_⟩
  · rw [routeFrom_at hlt] at hi
    have e1 : prevE l (p + 1) = (l[p]?.getD default).Leave := by simp [prevE]
    have e2 : mIsSpan ⟨(l[p]?.getD default).Arrive, (l[p]?.getD default).Leave⟩ = (decide (0 ≤ (l[p]?.getD default).Arrive) && decide ((l[p]?.getD default).Arrive ≤ (l[p]?.getD default).Leave) && decide ((l[p]?.getD default).Leave ≤ 100000)) := rfl
    have e3 : prevE l p = if p = 0 then 0 else (l[p - 1]?.getD default).Leave := rfl
    repeat' (first | omega | refine And.intro ?_ ?_ | intro _)
    all_goals first | exact Again.mk (p + 1) ⟨by omega, by rw [hi, e1]; grind⟩ (by simp) (by first | omega | (simp; omega)) | (rw [mIsRoute, hi]; grind)
  · rw [mIsRoute, hi, routeFrom_end hge]; simp
theorem c103_ok : c103.ok Try.prog := mkCon_ok fun l hpre => c103_pc l hpre
/-- loop.example/g03007/laws.FnExactIsRoute -/
theorem law26 (l : List TStop) (wl : wfLTStop l) : PCo Try.prog 26 [encLTStop l] (Tab.of []) (dB true) (Tab.of []) := by
  refine pco_of_run [] (E := ⟨[c102, c103, c104, c105, c106], []⟩) (m := false) (base := 0) (Env.ok_cons c102_ok (Env.ok_cons c103_ok (Env.ok_cons c104_ok (Env.ok_cons c105_ok (Env.ok_cons c106_ok Env.ok_nil))))) G_ok mix 400 6 Try.func26 (by kernel_rfl) rfl (by kernel_rfl) (by kernel_rfl) rfl ?_
  simp [Try.f26]
  have h_l : l.length ≤ maxLen := wl.1
  repeat' (first | omega | assumption | refine And.intro ?_ ?_ | intro _)
  all_goals first | omega | grind | (split at * <;> omega)
theorem law26_pc (D0 : D) (h0 : Sh G 9 102 D0) : PC Try.prog 26 [D0] (dB true) [] := by
  obtain ⟨l, rfl, wl⟩ := sh102 (n := 6) h0
  exact law26 l wl
theorem route_mem : ∀ {l : List TStop} {e : Int}, routeFrom e l = true → ∀ x ∈ l, mIsSpan ⟨x.Arrive, x.Leave⟩ = true
  | [], _, _, _, hx => by simp at hx
  | y :: r, e, h, x, hx => by
    simp only [routeFrom, Bool.and_eq_true] at h
    rcases List.mem_cons.1 hx with rfl | hx
    · exact h.1.2
    · exact route_mem h.2 x hx
def mRouteHours (l : List TStop) : Int := if mIsRoute l then (l[l.length - 1]?.getD default).Leave - (l[0]?.getD default).Arrive else 0
theorem route_bd {l : List TStop} (h : mIsRoute l = true) : 0 < l.length ∧ l.length ≤ 10 ∧ 0 ≤ (l[l.length - 1]?.getD default).Leave ∧ (l[l.length - 1]?.getD default).Leave ≤ 100000 ∧ 0 ≤ (l[0]?.getD default).Arrive ∧ (l[0]?.getD default).Arrive ≤ 100000 := by
  simp only [mIsRoute, Bool.and_eq_true] at h
  have h1 := mIn_iff.1 h.1
  have hl : 0 < l.length := by omega
  have h2 := isSpan_of (route_mem h.2 _ (getD_mem (d := default) (show l.length - 1 < l.length by omega)))
  have h3 := isSpan_of (route_mem h.2 _ (getD_mem (d := default) hl))
  simp only [] at h2 h3
  omega
/-- loop.example/g03007/impl.lastStop -/
noncomputable def c177 : Con := mkCon 177 false (α := (List TStop)) (fun x => (fun (l : List TStop) => [encLTStop l]) x) (fun _ => []) (fun x => (fun (l : List TStop) => 0 < l.length ∧ l.length ≤ 1099511627776) x) (fun x => (fun (l : List TStop) => (encTStop (l[l.length - 1]?.getD default) : D)) x) (fun x => (fun (l : List TStop) => []) x)
@[simp] theorem c177_f : c177.f = 177 := rfl
@[simp] theorem c177_own : c177.own = false := rfl
theorem c177_inj : ∀ u_ v_ : (List TStop), ((fun x => (fun (l : List TStop) => [encLTStop l]) x) u_).map nz = ((fun x => (fun (l : List TStop) => [encLTStop l]) x) v_).map nz → u_ = v_ := by
  intro u_ v_ h
  obtain l := u_
  obtain l' := v_
  simp [nz_lit, nz1_lit, nz_agg, nz_sl, nz1_sl, encLTStop] at h
  first | (simp [h]; done) | (obtain ⟨⟩ := h; simp_all; done) | simp_all
@[simp] theorem c177_fn (l : List TStop) : c177.fn [.sl false 3 yTStop (ML encTStop l)] [] = some ((fun (l : List TStop) => 0 < l.length ∧ l.length ≤ 1099511627776) l, (fun (l : List TStop) => (encTStop (l[l.length - 1]?.getD default) : D)) l, (fun (l : List TStop) => []) l) :=
  mkCon_fn (fun x y h _ => c177_inj x y h) (l : (List TStop)) (by simp [nz, nz1, ML_nil, encLTStop]) rfl
@[simp] theorem c177_fn1 (s_l : Nat) (z_l : D) : c177.fn [.sl false s_l z_l []] [] = some ((fun (l : List TStop) => 0 < l.length ∧ l.length ≤ 1099511627776) [], (fun (l : List TStop) => (encTStop (l[l.length - 1]?.getD default) : D)) [], (fun (l : List TStop) => []) []) :=
  mkCon_fn (fun x y h _ => c177_inj x y h) ([] : (List TStop)) (by simp [nz, nz1, ML_nil, encLTStop]) rfl
theorem c177_pc (l : List TStop) (hpre : 0 < l.length ∧ l.length ≤ 1099511627776) : PCo Try.prog 177 [encLTStop l] (Tab.of []) (encTStop (l[l.length - 1]?.getD default)) (Tab.of []) := by
  refine pco_of_run [] (E := ⟨[], []⟩) (m := false) (base := 0) Env.ok_nil G_ok mix 300 6 Try.func177 (by kernel_rfl) rfl (by kernel_rfl) (by kernel_rfl) rfl ?_
  simp [Try.f177]
  omega
theorem c177_ok : c177.ok Try.prog := mkCon_ok fun l hpre => c177_pc l hpre
/-- loop.example/g03007/impl.RouteHours -/
noncomputable def c115 : Con := mkCon 115 false (α := (List TStop)) (fun x => (fun (l : List TStop) => [encLTStop l]) x) (fun _ => []) (fun x => (fun (l : List TStop) => l.length ≤ 1099511627776) x) (fun x => (fun (l : List TStop) => (dI (mRouteHours l) : D)) x) (fun x => (fun (l : List TStop) => []) x)
@[simp] theorem c115_f : c115.f = 115 := rfl
@[simp] theorem c115_own : c115.own = false := rfl
theorem c115_inj : ∀ u_ v_ : (List TStop), ((fun x => (fun (l : List TStop) => [encLTStop l]) x) u_).map nz = ((fun x => (fun (l : List TStop) => [encLTStop l]) x) v_).map nz → u_ = v_ := by
  intro u_ v_ h
  obtain l := u_
  obtain l' := v_
  simp [nz_lit, nz1_lit, nz_agg, nz_sl, nz1_sl, encLTStop] at h
  first | (simp [h]; done) | (obtain ⟨⟩ := h; simp_all; done) | simp_all
@[simp] theorem c115_fn (l : List TStop) : c115.fn [.sl false 3 yTStop (ML encTStop l)] [] = some ((fun (l : List TStop) => l.length ≤ 1099511627776) l, (fun (l : List TStop) => (dI (mRouteHours l) : D)) l, (fun (l : List TStop) => []) l) :=
  mkCon_fn (fun x y h _ => c115_inj x y h) (l : (List TStop)) (by simp [nz, nz1, ML_nil, encLTStop]) rfl
@[simp] theorem c115_fn1 (s_l : Nat) (z_l : D) : c115.fn [.sl false s_l z_l []] [] = some ((fun (l : List TStop) => l.length ≤ 1099511627776) [], (fun (l : List TStop) => (dI (mRouteHours l) : D)) [], (fun (l : List TStop) => []) []) :=
  mkCon_fn (fun x y h _ => c115_inj x y h) ([] : (List TStop)) (by simp [nz, nz1, ML_nil, encLTStop]) rfl
theorem c115_pc (l : List TStop) (hpre : l.length ≤ 1099511627776) : PCo Try.prog 115 [encLTStop l] (Tab.of []) (dI (mRouteHours l)) (Tab.of []) := by
  refine pco_of_run [3] (E := ⟨[c105, c177], []⟩) (m := false) (base := 0) (Env.ok_cons c105_ok (Env.ok_cons c177_ok Env.ok_nil)) G_ok mix 300 6 Try.func115 (by kernel_rfl) rfl (by kernel_rfl) (by kernel_rfl) rfl ?_
  simp [Try.f115]
  refine ⟨hpre, fun h => by simp [mRouteHours, h], fun h => ?_⟩
  have hb := route_bd h
  refine ⟨?_, by simp [mRouteHours, h]⟩
  omega
theorem c115_ok : c115.ok Try.prog := mkCon_ok fun l hpre => c115_pc l hpre
/-- loop.example/g03007/spec.RouteHours -/
noncomputable def c114 : Con := mkCon 114 false (α := (List TStop)) (fun x => (fun (l : List TStop) => [encLTStop l]) x) (fun _ => []) (fun x => (fun (l : List TStop) => l.length ≤ 1099511627776) x) (fun x => (fun (l : List TStop) => (dI (mRouteHours l) : D)) x) (fun x => (fun (l : List TStop) => []) x)
@[simp] theorem c114_f : c114.f = 114 := rfl
@[simp] theorem c114_own : c114.own = false := rfl
theorem c114_inj : ∀ u_ v_ : (List TStop), ((fun x => (fun (l : List TStop) => [encLTStop l]) x) u_).map nz = ((fun x => (fun (l : List TStop) => [encLTStop l]) x) v_).map nz → u_ = v_ := by
  intro u_ v_ h
  obtain l := u_
  obtain l' := v_
  simp [nz_lit, nz1_lit, nz_agg, nz_sl, nz1_sl, encLTStop] at h
  first | (simp [h]; done) | (obtain ⟨⟩ := h; simp_all; done) | simp_all
@[simp] theorem c114_fn (l : List TStop) : c114.fn [.sl false 3 yTStop (ML encTStop l)] [] = some ((fun (l : List TStop) => l.length ≤ 1099511627776) l, (fun (l : List TStop) => (dI (mRouteHours l) : D)) l, (fun (l : List TStop) => []) l) :=
  mkCon_fn (fun x y h _ => c114_inj x y h) (l : (List TStop)) (by simp [nz, nz1, ML_nil, encLTStop]) rfl
@[simp] theorem c114_fn1 (s_l : Nat) (z_l : D) : c114.fn [.sl false s_l z_l []] [] = some ((fun (l : List TStop) => l.length ≤ 1099511627776) [], (fun (l : List TStop) => (dI (mRouteHours l) : D)) [], (fun (l : List TStop) => []) []) :=
  mkCon_fn (fun x y h _ => c114_inj x y h) ([] : (List TStop)) (by simp [nz, nz1, ML_nil, encLTStop]) rfl
theorem c114_pc (l : List TStop) (hpre : l.length ≤ 1099511627776) : PCo Try.prog 114 [encLTStop l] (Tab.of []) (dI (mRouteHours l)) (Tab.of []) := by
  refine pco_of_run [] (E := ⟨[c103], []⟩) (m := false) (base := 0) (Env.ok_cons c103_ok Env.ok_nil) G_ok mix 300 6 Try.func114 (by kernel_rfl) rfl (by kernel_rfl) (by kernel_rfl) rfl ?_
  simp [Try.f114]
  refine ⟨hpre, fun h => by simp [mRouteHours, h], fun h => ?_⟩
  have hb := route_bd h
  refine ⟨?_, by simp [mRouteHours, h]⟩
  omega
theorem c114_ok : c114.ok Try.prog := mkCon_ok fun l hpre => c114_pc l hpre
/-- loop.example/g03007/laws.FnExactRouteHours -/
theorem law30 (l : List TStop) (wl : wfLTStop l) : PCo Try.prog 30 [encLTStop l] (Tab.of []) (dB true) (Tab.of []) := by
  refine pco_of_run [] (E := ⟨[c102, c104, c106, c114, c115], []⟩) (m := false) (base := 0) (Env.ok_cons c102_ok (Env.ok_cons c104_ok (Env.ok_cons c106_ok (Env.ok_cons c114_ok (Env.ok_cons c115_ok Env.ok_nil))))) G_ok mix 400 6 Try.func30 (by kernel_rfl) rfl (by kernel_rfl) (by kernel_rfl) rfl ?_
  simp [Try.f30]
  have h_l : l.length ≤ maxLen := wl.1
  repeat' (first | omega | assumption | refine And.intro ?_ ?_ | intro _)
  all_goals first | omega | grind | (split at * <;> omega)
theorem law30_pc (D0 : D) (h0 : Sh G 9 102 D0) : PC Try.prog 30 [D0] (dB true) [] := by
  obtain ⟨l, rfl, wl⟩ := sh102 (n := 6) h0
  exact law30 l wl

end Go.Proofs.Ytlpobdjfdbfhaaa
