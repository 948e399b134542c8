/- Contracts of the functions that the laws run. -/
import Derived.Test.Ytnnieeojfdjcoaach03
import Derived.Test.YtnnieeojfdjcoaaEngB
namespace Go.Proofs.Ytnnieeojfdjcoaa
open Go Go.Eng
set_option linter.unusedSimpArgs false
set_option linter.unusedVariables false
set_option maxRecDepth 10000
set_option maxHeartbeats 1000000
/-- loop.example/g03007/laws.toMark -/
noncomputable def c46 : Con := mkCon 46 false (α := TMark) (fun x => (fun (a : TMark) => [encTMark a]) x) (fun _ => []) (fun x => (fun (a : TMark) => True) x) (fun x => (fun (a : TMark) => (encTMark a : D)) x) (fun x => (fun (a : TMark) => []) x)
@[simp] theorem c46_f : c46.f = 46 := rfl
@[simp] theorem c46_own : c46.own = false := rfl
theorem c46_inj : ∀ u_ v_ : TMark, ((fun x => (fun (a : TMark) => [encTMark a]) x) u_).map nz = ((fun x => (fun (a : TMark) => [encTMark a]) x) v_).map nz → u_ = v_ := by
  intro u_ v_ h
  obtain ⟨a_Question, a_Answer⟩ := u_
  obtain ⟨a_Question', a_Answer'⟩ := v_
  simp [nz_lit, nz1_lit, nz_agg, nz_sl, nz1_sl, encTMark] at h
  first | (simp [h]; done) | (obtain ⟨⟩ := h; simp_all; done) | simp_all
@[simp] theorem c46_fn (a_Question : Int) (a_Answer : Int) : c46.fn [.agg [.lit (.int .i64 a_Question), .lit (.int .i64 a_Answer)]] [] = some ((fun (a : TMark) => True) ⟨a_Question, a_Answer⟩, (fun (a : TMark) => (encTMark a : D)) ⟨a_Question, a_Answer⟩, (fun (a : TMark) => []) ⟨a_Question, a_Answer⟩) :=
  mkCon_fn (fun x y h _ => c46_inj x y h) (⟨a_Question, a_Answer⟩ : TMark) (by simp [nz, nz1, ML_nil, encTMark]) rfl
theorem c46_pc (a : TMark) : PCo Try.prog 46 [encTMark a] (Tab.of []) (encTMark a) (Tab.of []) := by
  obtain ⟨a_Question, a_Answer⟩ := a
  refine pco_of_run [] (E := ⟨[], []⟩) (m := false) (base := 0) Env.ok_nil G_ok mix 300 6 Try.func46 (by kernel_rfl) rfl (by kernel_rfl) (by kernel_rfl) rfl ?_
  simp [Try.f46]
  all_goals first | omega | (rw [Bool.eq_iff_iff]; simp; omega) | grind
theorem c46_ok : c46.ok Try.prog := mkCon_ok fun a hpre => c46_pc a
/-- loop.example/g03007/laws.eqMark -/
noncomputable def c122 : Con := mkCon 122 false (α := TMark × TMark) (fun x => (fun (a : TMark) (b : TMark) => [encTMark a, encTMark b]) x.1 x.2) (fun _ => []) (fun x => (fun (a : TMark) (b : TMark) => True) x.1 x.2) (fun x => (fun (a : TMark) (b : TMark) => (dB (decide (a = b)) : D)) x.1 x.2) (fun x => (fun (a : TMark) (b : TMark) => []) x.1 x.2)
@[simp] theorem c122_f : c122.f = 122 := rfl
@[simp] theorem c122_own : c122.own = false := rfl
theorem c122_inj : ∀ u_ v_ : TMark × TMark, ((fun x => (fun (a : TMark) (b : TMark) => [encTMark a, encTMark b]) x.1 x.2) u_).map nz = ((fun x => (fun (a : TMark) (b : TMark) => [encTMark a, encTMark b]) x.1 x.2) v_).map nz → u_ = v_ := by
  intro u_ v_ h
  obtain ⟨⟨a_Question, a_Answer⟩, ⟨b_Question, b_Answer⟩⟩ := u_
  obtain ⟨⟨a_Question', a_Answer'⟩, ⟨b_Question', b_Answer'⟩⟩ := v_
  simp [nz_lit, nz1_lit, nz_agg, nz_sl, nz1_sl, encTMark] at h
  first | (simp [h]; done) | (obtain ⟨⟩ := h; simp_all; done) | simp_all
@[simp] theorem c122_fn (a_Question : Int) (a_Answer : Int) (b_Question : Int) (b_Answer : Int) : c122.fn [.agg [.lit (.int .i64 a_Question), .lit (.int .i64 a_Answer)], .agg [.lit (.int .i64 b_Question), .lit (.int .i64 b_Answer)]] [] = some ((fun (a : TMark) (b : TMark) => True) ⟨a_Question, a_Answer⟩ ⟨b_Question, b_Answer⟩, (fun (a : TMark) (b : TMark) => (dB (decide (a = b)) : D)) ⟨a_Question, a_Answer⟩ ⟨b_Question, b_Answer⟩, (fun (a : TMark) (b : TMark) => []) ⟨a_Question, a_Answer⟩ ⟨b_Question, b_Answer⟩) :=
  mkCon_fn (fun x y h _ => c122_inj x y h) ((⟨a_Question, a_Answer⟩, ⟨b_Question, b_Answer⟩) : TMark × TMark) (by simp [nz, nz1, ML_nil, encTMark]) rfl
theorem c122_pc (a : TMark) (b : TMark) : PCo Try.prog 122 [encTMark a, encTMark b] (Tab.of []) (dB (decide (a = b))) (Tab.of []) := by
  obtain ⟨a_Question, a_Answer⟩ := a
  obtain ⟨b_Question, b_Answer⟩ := b
  refine pco_of_run [] (E := ⟨[], []⟩) (m := false) (base := 0) Env.ok_nil G_ok mix 300 6 Try.func122 (by kernel_rfl) rfl (by kernel_rfl) (by kernel_rfl) rfl ?_
  simp [Try.f122]
  all_goals first | omega | (rw [Bool.eq_iff_iff]; simp; omega) | grind
theorem c122_ok : c122.ok Try.prog := mkCon_ok fun ⟨a, b⟩ hpre => c122_pc a b
/-- loop.example/g03007/laws.szMarkS -/
noncomputable def c32 : Con := mkCon 32 false (α := (List TMark) × Int) (fun x => (fun (l : List TMark) (left : Int) => [encLTMark l, dI left]) x.1 x.2) (fun _ => []) (fun x => (fun (l : List TMark) (left : Int) => l.length ≤ maxLen ∧ 0 ≤ left ∧ left ≤ 1099511627776) x.1 x.2) (fun x => (fun (l : List TMark) (left : Int) => (dI (if left - l.length < 0 then -1 else left - l.length) : D)) x.1 x.2) (fun x => (fun (l : List TMark) (left : Int) => []) x.1 x.2)
@[simp] theorem c32_f : c32.f = 32 := rfl
@[simp] theorem c32_own : c32.own = false := rfl
theorem c32_inj : ∀ u_ v_ : (List TMark) × Int, ((fun x => (fun (l : List TMark) (left : Int) => [encLTMark l, dI left]) x.1 x.2) u_).map nz = ((fun x => (fun (l : List TMark) (left : Int) => [encLTMark l, dI left]) x.1 x.2) v_).map nz → u_ = v_ := by
  intro u_ v_ h
  obtain ⟨l, left⟩ := u_
  obtain ⟨l', left'⟩ := v_
  simp [nz_lit, nz1_lit, nz_agg, nz_sl, nz1_sl, encLTMark] at h
  first | (simp [h]; done) | (obtain ⟨⟩ := h; simp_all; done) | simp_all
@[simp] theorem c32_fn (l : List TMark) (left : Int) : c32.fn [.sl false 2 yTMark (ML encTMark l), .lit (.int .i64 left)] [] = some ((fun (l : List TMark) (left : Int) => l.length ≤ maxLen ∧ 0 ≤ left ∧ left ≤ 1099511627776) l left, (fun (l : List TMark) (left : Int) => (dI (if left - l.length < 0 then -1 else left - l.length) : D)) l left, (fun (l : List TMark) (left : Int) => []) l left) :=
  mkCon_fn (fun x y h _ => c32_inj x y h) ((l, left) : (List TMark) × Int) (by simp [nz, nz1, ML_nil, encLTMark]) rfl
@[simp] theorem c32_fn1 (s_l : Nat) (z_l : D) (left : Int) : c32.fn [.sl false s_l z_l [], .lit (.int .i64 left)] [] = some ((fun (l : List TMark) (left : Int) => l.length ≤ maxLen ∧ 0 ≤ left ∧ left ≤ 1099511627776) [] left, (fun (l : List TMark) (left : Int) => (dI (if left - l.length < 0 then -1 else left - l.length) : D)) [] left, (fun (l : List TMark) (left : Int) => []) [] left) :=
  mkCon_fn (fun x y h _ => c32_inj x y h) (([], left) : (List TMark) × Int) (by simp [nz, nz1, ML_nil, encLTMark]) rfl
theorem c32_pc (l : List TMark) (left : Int) (hpre : l.length ≤ maxLen ∧ 0 ≤ left ∧ left ≤ 1099511627776) : PCo Try.prog 32 [encLTMark l, dI left] (Tab.of []) (dI (if left - l.length < 0 then -1 else left - l.length)) (Tab.of []) := by
  refine pco_of_run [] (E := ⟨[], []⟩) (m := false) (base := 0) Env.ok_nil G_ok mix 300 6 Try.func32 (by kernel_rfl) rfl (by kernel_rfl) (by kernel_rfl) rfl ?_
  simp [Try.f32]
  simp [maxLen] at hpre
  all_goals omega
theorem c32_ok : c32.ok Try.prog := mkCon_ok fun ⟨l, left⟩ hpre => c32_pc l left hpre
/-- loop.example/g03007/laws.toMarkS -/
noncomputable def c34 : Con := mkCon 34 false (α := (List TMark)) (fun x => (fun (l : List TMark) => [encLTMark l]) x) (fun _ => []) (fun x => (fun (l : List TMark) => l.length ≤ 1099511627776) x) (fun x => (fun (l : List TMark) => (encLTMark l : D)) x) (fun x => (fun (l : List TMark) => []) x)
@[simp] theorem c34_f : c34.f = 34 := rfl
@[simp] theorem c34_own : c34.own = false := rfl
theorem c34_inj : ∀ u_ v_ : (List TMark), ((fun x => (fun (l : List TMark) => [encLTMark l]) x) u_).map nz = ((fun x => (fun (l : List TMark) => [encLTMark l]) x) v_).map nz → u_ = v_ := by
  intro u_ v_ h
  obtain l := u_
  obtain l' := v_
  simp [nz_lit, nz1_lit, nz_agg, nz_sl, nz1_sl, encLTMark] at h
  first | (simp [h]; done) | (obtain ⟨⟩ := h; simp_all; done) | simp_all
@[simp] theorem c34_fn (l : List TMark) : c34.fn [.sl false 2 yTMark (ML encTMark l)] [] = some ((fun (l : List TMark) => l.length ≤ 1099511627776) l, (fun (l : List TMark) => (encLTMark l : D)) l, (fun (l : List TMark) => []) l) :=
  mkCon_fn (fun x y h _ => c34_inj x y h) (l : (List TMark)) (by simp [nz, nz1, ML_nil, encLTMark]) rfl
@[simp] theorem c34_fn1 (s_l : Nat) (z_l : D) : c34.fn [.sl false s_l z_l []] [] = some ((fun (l : List TMark) => l.length ≤ 1099511627776) [], (fun (l : List TMark) => (encLTMark l : D)) [], (fun (l : List TMark) => []) []) :=
  mkCon_fn (fun x y h _ => c34_inj x y h) ([] : (List TMark)) (by simp [nz, nz1, ML_nil, encLTMark]) rfl
theorem c34_pc (l : List TMark) (hpre : l.length ≤ 1099511627776) : PCo Try.prog 34 [encLTMark l] (Tab.of []) (encLTMark l) (Tab.of []) := by
  refine pco_of_run [] (E := ⟨[c46], []⟩) (m := false) (base := 0) (Env.ok_cons c46_ok Env.ok_nil) G_ok mix 300 6 Try.func34 (by kernel_rfl) rfl (by kernel_rfl) (by kernel_rfl) rfl ?_
  simp [Try.f34]
  refine ⟨by omega, ?_⟩
  refine loop_inv (fun p : Nat => p ≤ l.length) (fun p => [(0, encLTMark l), (3, .own (0, 1) 2 0 l.length), (4, dI p)]) (fun p => [((0, 1), .arr false 2 yTMark (ML encTMark (l.take p ++ List.replicate (l.length - p) ⟨0, 0⟩)))]) 2 (fun p => l.length - p) 0 100 (by simp) (by simp) (by first | (simp; done) | (simp; simp only [ML, List.map_replicate]; rfl)) ?_
  intro p hp
  simp
  refine ⟨fun hlt => ⟨by omega, by omega, Again.mk (p + 1) (by omega) (by simp [fill_step hlt]) (by first | omega | (simp; omega))⟩, fun hge => ?_⟩
  have : p = l.length := by omega
  subst this
  simp
theorem c34_ok : c34.ok Try.prog := mkCon_ok fun l hpre => c34_pc l hpre
/-- loop.example/g03007/laws.eqMarkS -/
noncomputable def c36 : Con := mkCon 36 false (α := (List TMark) × (List TMark)) (fun x => (fun (a : List TMark) (b : List TMark) => [encLTMark a, encLTMark b]) x.1 x.2) (fun _ => []) (fun x => (fun (a : List TMark) (b : List TMark) => a.length ≤ 1099511627776 ∧ b.length ≤ 1099511627776) x.1 x.2) (fun x => (fun (a : List TMark) (b : List TMark) => (dB (decide (a = b)) : D)) x.1 x.2) (fun x => (fun (a : List TMark) (b : List TMark) => []) x.1 x.2)
@[simp] theorem c36_f : c36.f = 36 := rfl
@[simp] theorem c36_own : c36.own = false := rfl
theorem c36_inj : ∀ u_ v_ : (List TMark) × (List TMark), ((fun x => (fun (a : List TMark) (b : List TMark) => [encLTMark a, encLTMark b]) x.1 x.2) u_).map nz = ((fun x => (fun (a : List TMark) (b : List TMark) => [encLTMark a, encLTMark b]) x.1 x.2) v_).map nz → u_ = v_ := by
  intro u_ v_ h
  obtain ⟨a, b⟩ := u_
  obtain ⟨a', b'⟩ := v_
  simp [nz_lit, nz1_lit, nz_agg, nz_sl, nz1_sl, encLTMark] at h
  first | (simp [h]; done) | (obtain ⟨⟩ := h; simp_all; done) | simp_all
@[simp] theorem c36_fn (a : List TMark) (b : List TMark) : c36.fn [.sl false 2 yTMark (ML encTMark a), .sl false 2 yTMark (ML encTMark b)] [] = some ((fun (a : List TMark) (b : List TMark) => a.length ≤ 1099511627776 ∧ b.length ≤ 1099511627776) a b, (fun (a : List TMark) (b : List TMark) => (dB (decide (a = b)) : D)) a b, (fun (a : List TMark) (b : List TMark) => []) a b) :=
  mkCon_fn (fun x y h _ => c36_inj x y h) ((a, b) : (List TMark) × (List TMark)) (by simp [nz, nz1, ML_nil, encLTMark]) rfl
@[simp] theorem c36_fn1 (s_a : Nat) (z_a : D) (b : List TMark) : c36.fn [.sl false s_a z_a [], .sl false 2 yTMark (ML encTMark b)] [] = some ((fun (a : List TMark) (b : List TMark) => a.length ≤ 1099511627776 ∧ b.length ≤ 1099511627776) [] b, (fun (a : List TMark) (b : List TMark) => (dB (decide (a = b)) : D)) [] b, (fun (a : List TMark) (b : List TMark) => []) [] b) :=
  mkCon_fn (fun x y h _ => c36_inj x y h) (([], b) : (List TMark) × (List TMark)) (by simp [nz, nz1, ML_nil, encLTMark]) rfl
@[simp] theorem c36_fn2 (a : List TMark) (s_b : Nat) (z_b : D) : c36.fn [.sl false 2 yTMark (ML encTMark a), .sl false s_b z_b []] [] = some ((fun (a : List TMark) (b : List TMark) => a.length ≤ 1099511627776 ∧ b.length ≤ 1099511627776) a [], (fun (a : List TMark) (b : List TMark) => (dB (decide (a = b)) : D)) a [], (fun (a : List TMark) (b : List TMark) => []) a []) :=
  mkCon_fn (fun x y h _ => c36_inj x y h) ((a, []) : (List TMark) × (List TMark)) (by simp [nz, nz1, ML_nil, encLTMark]) rfl
@[simp] theorem c36_fn3 (s_a : Nat) (z_a : D) (s_b : Nat) (z_b : D) : c36.fn [.sl false s_a z_a [], .sl false s_b z_b []] [] = some ((fun (a : List TMark) (b : List TMark) => a.length ≤ 1099511627776 ∧ b.length ≤ 1099511627776) [] [], (fun (a : List TMark) (b : List TMark) => (dB (decide (a = b)) : D)) [] [], (fun (a : List TMark) (b : List TMark) => []) [] []) :=
  mkCon_fn (fun x y h _ => c36_inj x y h) (([], []) : (List TMark) × (List TMark)) (by simp [nz, nz1, ML_nil, encLTMark]) rfl
theorem c36_pc (a : List TMark) (b : List TMark) (hpre : a.length ≤ 1099511627776 ∧ b.length ≤ 1099511627776) : PCo Try.prog 36 [encLTMark a, encLTMark b] (Tab.of []) (dB (decide (a = b))) (Tab.of []) := by
  refine pco_of_run [] (E := ⟨[c122], []⟩) (m := false) (base := 0) (Env.ok_cons c122_ok Env.ok_nil) G_ok mix 300 6 Try.func36 (by kernel_rfl) rfl (by kernel_rfl) (by kernel_rfl) rfl ?_
  simp [Try.f36]
  obtain ⟨pre1, pre2⟩ := hpre
  refine ⟨fun h => ?_, fun h => by intro e; subst e; exact absurd rfl h⟩
  refine loop_inv (fun p : Nat => p ≤ a.length ∧ a.take p = b.take p) (fun p => [(0, encLTMark a), (1, encLTMark b), (5, dI p)]) (fun _ => []) 1 (fun p => a.length - p) 0 100 (by simp) (by simp) (by simp) ?_
  intro p ⟨hp, hi⟩
  simp
  refine ⟨fun hlt => ⟨by omega, fun h2 => ⟨by omega, Again.mk (p + 1) ⟨by omega, take_eq_step hi (by omega) (by omega) h2⟩ (by simp) (by first | omega | (simp; omega))⟩, fun h2 => by intro e; subst e; exact absurd rfl h2⟩, fun hge => ?_⟩
  exact take_eq_full hi (by omega) (by omega)
theorem c36_ok : c36.ok Try.prog := mkCon_ok fun ⟨a, b⟩ hpre => c36_pc a b hpre
def mIsMark (m : TMark) : Bool := mIn m.Question 1 20 && mIn m.Answer 0 99
@[simp] def nMark (m : TMark) : Int := m.Question
/-- loop.example/g03007/impl.isMark -/
noncomputable def c121 : Con := mkCon 121 false (α := TMark) (fun x => (fun (m : TMark) => [encTMark m]) x) (fun _ => []) (fun x => (fun (m : TMark) => True) x) (fun x => (fun (m : TMark) => (dB (mIsMark m) : D)) x) (fun x => (fun (m : TMark) => []) x)
@[simp] theorem c121_f : c121.f = 121 := rfl
@[simp] theorem c121_own : c121.own = false := rfl
theorem c121_inj : ∀ u_ v_ : TMark, ((fun x => (fun (m : TMark) => [encTMark m]) x) u_).map nz = ((fun x => (fun (m : TMark) => [encTMark m]) x) v_).map nz → u_ = v_ := by
  intro u_ v_ h
  obtain ⟨m_Question, m_Answer⟩ := u_
  obtain ⟨m_Question', m_Answer'⟩ := v_
  simp [nz_lit, nz1_lit, nz_agg, nz_sl, nz1_sl, encTMark] at h
  first | (simp [h]; done) | (obtain ⟨⟩ := h; simp_all; done) | simp_all
@[simp] theorem c121_fn (m_Question : Int) (m_Answer : Int) : c121.fn [.agg [.lit (.int .i64 m_Question), .lit (.int .i64 m_Answer)]] [] = some ((fun (m : TMark) => True) ⟨m_Question, m_Answer⟩, (fun (m : TMark) => (dB (mIsMark m) : D)) ⟨m_Question, m_Answer⟩, (fun (m : TMark) => []) ⟨m_Question, m_Answer⟩) :=
  mkCon_fn (fun x y h _ => c121_inj x y h) (⟨m_Question, m_Answer⟩ : TMark) (by simp [nz, nz1, ML_nil, encTMark]) rfl
theorem c121_pc (m : TMark) : PCo Try.prog 121 [encTMark m] (Tab.of []) (dB (mIsMark m)) (Tab.of []) := by
  obtain ⟨m_Question, m_Answer⟩ := m
  refine pco_of_run [1] (E := ⟨[c169], []⟩) (m := false) (base := 0) (Env.ok_cons c169_ok Env.ok_nil) G_ok mix 300 6 Try.func121 (by kernel_rfl) rfl (by kernel_rfl) (by kernel_rfl) rfl ?_
  simp [Try.f121]
  rw [Bool.eq_iff_iff]
  simp [mIsMark, mIn]
  omega
theorem c121_ok : c121.ok Try.prog := mkCon_ok fun m hpre => c121_pc m
def mAreMarks (l : List TMark) : Bool := decide (l.length ≤ 8) && ascBy mIsMark nMark none l
/-- loop.example/g03007/spec.AreMarks -/
noncomputable def c33 : Con := mkCon 33 false (α := (List TMark)) (fun x => (fun (l : List TMark) => [encLTMark l]) x) (fun _ => []) (fun x => (fun (l : List TMark) => l.length ≤ 1099511627776) x) (fun x => (fun (l : List TMark) => (dB (mAreMarks l) : D)) x) (fun x => (fun (l : List TMark) => []) x)
@[simp] theorem c33_f : c33.f = 33 := rfl
@[simp] theorem c33_own : c33.own = false := rfl
theorem c33_inj : ∀ u_ v_ : (List TMark), ((fun x => (fun (l : List TMark) => [encLTMark l]) x) u_).map nz = ((fun x => (fun (l : List TMark) => [encLTMark l]) x) v_).map nz → u_ = v_ := by
  intro u_ v_ h
  obtain l := u_
  obtain l' := v_
  simp [nz_lit, nz1_lit, nz_agg, nz_sl, nz1_sl, encLTMark] at h
  first | (simp [h]; done) | (obtain ⟨⟩ := h; simp_all; done) | simp_all
@[simp] theorem c33_fn (l : List TMark) : c33.fn [.sl false 2 yTMark (ML encTMark l)] [] = some ((fun (l : List TMark) => l.length ≤ 1099511627776) l, (fun (l : List TMark) => (dB (mAreMarks l) : D)) l, (fun (l : List TMark) => []) l) :=
  mkCon_fn (fun x y h _ => c33_inj x y h) (l : (List TMark)) (by simp [nz, nz1, ML_nil, encLTMark]) rfl
@[simp] theorem c33_fn1 (s_l : Nat) (z_l : D) : c33.fn [.sl false s_l z_l []] [] = some ((fun (l : List TMark) => l.length ≤ 1099511627776) [], (fun (l : List TMark) => (dB (mAreMarks l) : D)) [], (fun (l : List TMark) => []) []) :=
  mkCon_fn (fun x y h _ => c33_inj x y h) ([] : (List TMark)) (by simp [nz, nz1, ML_nil, encLTMark]) rfl
theorem c33_pc (l : List TMark) (hpre : l.length ≤ 1099511627776) : PCo Try.prog 33 [encLTMark l] (Tab.of []) (dB (mAreMarks l)) (Tab.of []) := by
  refine pco_of_run [] (E := ⟨[c118], []⟩) (m := false) (base := 0) (Env.ok_cons c118_ok Env.ok_nil) G_ok mix 300 6 Try.func33 (by kernel_rfl) rfl (by kernel_rfl) (by kernel_rfl) rfl ?_
  simp [Try.f33]
  refine loop_inv (fun p : Nat => p ≤ l.length ∧ ascBy mIsMark nMark none l = ascBy mIsMark nMark (prevO nMark l p) (l.drop p)) (fun p => [(0, encLTMark l), (2, dB false), (3, dI p)]) (fun _ => []) 1 (fun p => l.length - p) 0 400 (by simp) (by simp) (by simp) ?_
  intro p ⟨hp, hi⟩
  simp
  refine ⟨fun hlt => ?_, fun hge => ?_⟩
  · rw [ascBy_at hlt] at hi; simp only [nMark, mIsMark] at hi
    repeat' (first | omega | refine And.intro ?_ ?_ | intro _)
    all_goals first | exact Again.mk (p + 1) ⟨by omega, by rw [hi]; grind⟩ (by simp) (by first | omega | (simp; omega)) | (rw [mAreMarks, hi]; grind)
  · rw [mAreMarks, hi, ascBy_end hge]; simp; omega
theorem c33_ok : c33.ok Try.prog := mkCon_ok fun l hpre => c33_pc l hpre
/-- loop.example/g03007/impl.marksInOrder -/
noncomputable def c119 : Con := mkCon 119 false (α := (List TMark)) (fun x => (fun (l : List TMark) => [encLTMark l]) x) (fun _ => []) (fun x => (fun (l : List TMark) => True) x) (fun x => (fun (l : List TMark) => (.agg [.sl false 2 yTMark (ML encTMark l), .fn (.func 168) [] []] : D)) x) (fun x => (fun (l : List TMark) => []) x)
@[simp] theorem c119_f : c119.f = 119 := rfl
@[simp] theorem c119_own : c119.own = false := rfl
theorem c119_inj : ∀ u_ v_ : (List TMark), ((fun x => (fun (l : List TMark) => [encLTMark l]) x) u_).map nz = ((fun x => (fun (l : List TMark) => [encLTMark l]) x) v_).map nz → u_ = v_ := by
  intro u_ v_ h
  obtain l := u_
  obtain l' := v_
  simp [nz_lit, nz1_lit, nz_agg, nz_sl, nz1_sl, encLTMark] at h
  first | (simp [h]; done) | (obtain ⟨⟩ := h; simp_all; done) | simp_all
@[simp] theorem c119_fn (l : List TMark) : c119.fn [.sl false 2 yTMark (ML encTMark l)] [] = some ((fun (l : List TMark) => True) l, (fun (l : List TMark) => (.agg [.sl false 2 yTMark (ML encTMark l), .fn (.func 168) [] []] : D)) l, (fun (l : List TMark) => []) l) :=
  mkCon_fn (fun x y h _ => c119_inj x y h) (l : (List TMark)) (by simp [nz, nz1, ML_nil, encLTMark]) rfl
@[simp] theorem c119_fn1 (s_l : Nat) (z_l : D) : c119.fn [.sl false s_l z_l []] [] = some ((fun (l : List TMark) => True) [], (fun (l : List TMark) => (.agg [.sl false 2 yTMark (ML encTMark l), .fn (.func 168) [] []] : D)) [], (fun (l : List TMark) => []) []) :=
  mkCon_fn (fun x y h _ => c119_inj x y h) ([] : (List TMark)) (by simp [nz, nz1, ML_nil, encLTMark]) rfl
theorem c119_pc (l : List TMark) : PCo Try.prog 119 [encLTMark l] (Tab.of []) (.agg [.sl false 2 yTMark (ML encTMark l), .fn (.func 168) [] []]) (Tab.of []) := by
  refine pco_of_run [] (E := ⟨[], []⟩) (m := false) (base := 0) Env.ok_nil G_ok mix 300 6 Try.func119 (by kernel_rfl) rfl (by kernel_rfl) (by kernel_rfl) rfl ?_
  simp [Try.f119]
  all_goals first | omega | (rw [Bool.eq_iff_iff]; simp; omega) | grind
theorem c119_ok : c119.ok Try.prog := mkCon_ok fun l hpre => c119_pc l
/-- loop.example/g03007/impl.marksInOrder$1 -/
noncomputable def c168 : Con := mkCon 168 false (α := TMark) (fun x => (fun (x : TMark) => [encTMark x]) x) (fun _ => []) (fun x => (fun (x : TMark) => True) x) (fun x => (fun (x : TMark) => (dI (nMark x) : D)) x) (fun x => (fun (x : TMark) => []) x)
@[simp] theorem c168_f : c168.f = 168 := rfl
@[simp] theorem c168_own : c168.own = false := rfl
theorem c168_inj : ∀ u_ v_ : TMark, ((fun x => (fun (x : TMark) => [encTMark x]) x) u_).map nz = ((fun x => (fun (x : TMark) => [encTMark x]) x) v_).map nz → u_ = v_ := by
  intro u_ v_ h
  obtain ⟨x_Question, x_Answer⟩ := u_
  obtain ⟨x_Question', x_Answer'⟩ := v_
  simp [nz_lit, nz1_lit, nz_agg, nz_sl, nz1_sl, encTMark] at h
  first | (simp [h]; done) | (obtain ⟨⟩ := h; simp_all; done) | simp_all
@[simp] theorem c168_fn (x_Question : Int) (x_Answer : Int) : c168.fn [.agg [.lit (.int .i64 x_Question), .lit (.int .i64 x_Answer)]] [] = some ((fun (x : TMark) => True) ⟨x_Question, x_Answer⟩, (fun (x : TMark) => (dI (nMark x) : D)) ⟨x_Question, x_Answer⟩, (fun (x : TMark) => []) ⟨x_Question, x_Answer⟩) :=
  mkCon_fn (fun x y h _ => c168_inj x y h) (⟨x_Question, x_Answer⟩ : TMark) (by simp [nz, nz1, ML_nil, encTMark]) rfl
theorem c168_pc (x : TMark) : PCo Try.prog 168 [encTMark x] (Tab.of []) (dI (nMark x)) (Tab.of []) := by
  obtain ⟨x_Question, x_Answer⟩ := x
  refine pco_of_run [] (E := ⟨[], []⟩) (m := false) (base := 0) Env.ok_nil G_ok mix 300 6 Try.func168 (by kernel_rfl) rfl (by kernel_rfl) (by kernel_rfl) rfl ?_
  simp [Try.f168]
  all_goals first | omega | (rw [Bool.eq_iff_iff]; simp; omega) | grind
theorem c168_ok : c168.ok Try.prog := mkCon_ok fun x hpre => c168_pc x
/-- (loop.example/g03007/impl.sortedList[loop.example/g03007/impl.Mark]).isValid -/
noncomputable def c120 : Con := mkCon 120 false (α := (List TMark) × Int) (fun x => (fun (l : List TMark) (lim : Int) => ([.agg [.sl false 2 yTMark (ML encTMark l), .fn (.func 168) [] []], dI lim, .fn (.func 121) [] []] : List D)) x.1 x.2) (fun x => (fun (l : List TMark) (lim : Int) => ([] : List (Nm × OO))) x.1 x.2) (fun x => (fun (l : List TMark) (lim : Int) => l.length ≤ 1099511627776) x.1 x.2) (fun x => (fun (l : List TMark) (lim : Int) => (dB (decide (l.length ≤ lim) && ascBy mIsMark nMark none l) : D)) x.1 x.2) (fun x => (fun (l : List TMark) (lim : Int) => ([] : List (Nm × OO))) x.1 x.2)
@[simp] theorem c120_f : c120.f = 120 := rfl
@[simp] theorem c120_own : c120.own = false := rfl
theorem c120_inj : ∀ u_ v_ : (List TMark) × Int, ((fun x => (fun (l : List TMark) (lim : Int) => ([.agg [.sl false 2 yTMark (ML encTMark l), .fn (.func 168) [] []], dI lim, .fn (.func 121) [] []] : List D)) x.1 x.2) u_).map nz = ((fun x => (fun (l : List TMark) (lim : Int) => ([.agg [.sl false 2 yTMark (ML encTMark l), .fn (.func 168) [] []], dI lim, .fn (.func 121) [] []] : List D)) x.1 x.2) v_).map nz → (fun x => (fun (l : List TMark) (lim : Int) => ([] : List (Nm × OO))) x.1 x.2) u_ = (fun x => (fun (l : List TMark) (lim : Int) => ([] : List (Nm × OO))) x.1 x.2) v_ → u_ = v_ := by
  intro u_ v_ h h2_
  obtain ⟨l, lim⟩ := u_
  obtain ⟨l', lim'⟩ := v_
  simp [nz_lit, nz1_lit, nz_agg, nz_sl, nz1_sl, nz_sx, nz_el, nz1_el, nz_own, nz1_own, nz_ptr, nz_fn, nz_iface] at h h2_
  first | (simp [h, h2_]; done) | simp_all | grind
@[simp] theorem c120_fn (l : List TMark) (lim : Int) : c120.fn ([.agg [.sl false 2 yTMark (ML encTMark l), .fn (.func 168) [] []], dI lim, .fn (.func 121) [] []]) ([]) = some (l.length ≤ 1099511627776, dB (decide (l.length ≤ lim) && ascBy mIsMark nMark none l), []) :=
  mkCon_fn c120_inj ((l, lim) : (List TMark) × Int) rfl rfl
theorem c120_pc (l : List TMark) (lim : Int) (hpre : l.length ≤ 1099511627776) : PCo Try.prog 120 ([.agg [.sl false 2 yTMark (ML encTMark l), .fn (.func 168) [] []], dI lim, .fn (.func 121) [] []]) (Tab.of ([])) (dB (decide (l.length ≤ lim) && ascBy mIsMark nMark none l)) (Tab.of ([])) := by
  refine pco_of_run [6] (E := ⟨[c168, c121], []⟩) (m := false) (base := 0) (Env.ok_cons c168_ok (Env.ok_cons c121_ok Env.ok_nil)) G_ok mix 300 6 Try.func120 (by kernel_rfl) rfl (by kernel_rfl) (by kernel_rfl) rfl ?_
  simp [Try.f120]
  refine ⟨fun h h2 => by omega, fun hlim => ?_⟩
  refine loop_inv (fun p : Nat => p ≤ l.length ∧ ascBy mIsMark nMark none l = ascBy mIsMark nMark (prevO nMark l p) (l.drop p)) (fun p => [(2, .fn (.func 121) [] []), (3, .ptr (0, 1) 0), (6, dB false), (15, .sl false 2 yTMark (ML encTMark l)), (16, dI l.length), (17, dI p)]) (fun _ => [((0, 1), .box (.agg [.sl false 2 yTMark (ML encTMark l), .fn (.func 168) [] []]))]) 2 (fun p => l.length - p) 0 400 (by simp) (by simp) (by simp) ?_
  intro p ⟨hp, hi⟩
  simp
  refine ⟨fun hlt => ?_, fun hge => ?_⟩
  · rw [ascBy_at hlt] at hi; simp only [nMark, wantN] at hi
    repeat' (first | omega | refine And.intro ?_ ?_ | intro _)
    all_goals first | exact Again.mk (p + 1) ⟨by omega, by rw [hi]; grind⟩ (by simp) (by first | omega | (simp; omega)) | (rw [hi]; grind)
  · rw [hi, ascBy_end hge]; simp; omega
theorem c120_ok : c120.ok Try.prog := mkCon_ok fun ⟨l, lim⟩ hpre => c120_pc l lim hpre
/-- loop.example/g03007/impl.AreMarks -/
noncomputable def c35 : Con := mkCon 35 false (α := (List TMark)) (fun x => (fun (l : List TMark) => [encLTMark l]) x) (fun _ => []) (fun x => (fun (l : List TMark) => l.length ≤ 1099511627776) x) (fun x => (fun (l : List TMark) => (dB (mAreMarks l) : D)) x) (fun x => (fun (l : List TMark) => []) x)
@[simp] theorem c35_f : c35.f = 35 := rfl
@[simp] theorem c35_own : c35.own = false := rfl
theorem c35_inj : ∀ u_ v_ : (List TMark), ((fun x => (fun (l : List TMark) => [encLTMark l]) x) u_).map nz = ((fun x => (fun (l : List TMark) => [encLTMark l]) x) v_).map nz → u_ = v_ := by
  intro u_ v_ h
  obtain l := u_
  obtain l' := v_
  simp [nz_lit, nz1_lit, nz_agg, nz_sl, nz1_sl, encLTMark] at h
  first | (simp [h]; done) | (obtain ⟨⟩ := h; simp_all; done) | simp_all
@[simp] theorem c35_fn (l : List TMark) : c35.fn [.sl false 2 yTMark (ML encTMark l)] [] = some ((fun (l : List TMark) => l.length ≤ 1099511627776) l, (fun (l : List TMark) => (dB (mAreMarks l) : D)) l, (fun (l : List TMark) => []) l) :=
  mkCon_fn (fun x y h _ => c35_inj x y h) (l : (List TMark)) (by simp [nz, nz1, ML_nil, encLTMark]) rfl
@[simp] theorem c35_fn1 (s_l : Nat) (z_l : D) : c35.fn [.sl false s_l z_l []] [] = some ((fun (l : List TMark) => l.length ≤ 1099511627776) [], (fun (l : List TMark) => (dB (mAreMarks l) : D)) [], (fun (l : List TMark) => []) []) :=
  mkCon_fn (fun x y h _ => c35_inj x y h) ([] : (List TMark)) (by simp [nz, nz1, ML_nil, encLTMark]) rfl
theorem c35_pc (l : List TMark) (hpre : l.length ≤ 1099511627776) : PCo Try.prog 35 [encLTMark l] (Tab.of []) (dB (mAreMarks l)) (Tab.of []) := by
  refine pco_of_run [] (E := ⟨[c119, c120, c121, c121], []⟩) (m := false) (base := 0) (Env.ok_cons c119_ok (Env.ok_cons c120_ok (Env.ok_cons c121_ok (Env.ok_cons c121_ok Env.ok_nil)))) G_ok mix 300 6 Try.func35 (by kernel_rfl) rfl (by kernel_rfl) (by kernel_rfl) rfl ?_
  simp [Try.f35]
  have h : ((l.length : Int) ≤ 8) ↔ l.length ≤ 8 := by omega
  simp [mAreMarks, h, hpre]
theorem c35_ok : c35.ok Try.prog := mkCon_ok fun l hpre => c35_pc l hpre
/-- loop.example/g03007/laws.FnExactAreMarks -/
theorem law3 (l : List TMark) (wl : wfLTMark l) : PCo Try.prog 3 [encLTMark l] (Tab.of []) (dB true) (Tab.of []) := by
  refine pco_of_run [] (E := ⟨[c32, c33, c34, c35, c36], []⟩) (m := false) (base := 0) (Env.ok_cons c32_ok (Env.ok_cons c33_ok (Env.ok_cons c34_ok (Env.ok_cons c35_ok (Env.ok_cons c36_ok Env.ok_nil))))) G_ok mix 400 6 Try.func3 (by kernel_rfl) rfl (by kernel_rfl) (by kernel_rfl) rfl ?_
  simp [Try.f3]
  have h_l : l.length ≤ maxLen := wl.1
  repeat' (first | omega | assumption | refine And.intro ?_ ?_ | intro _)
  all_goals first | omega | grind | (split at * <;> omega)
theorem law3_pc (D0 : D) (h0 : Sh G 9 22 D0) : PC Try.prog 3 [D0] (dB true) [] := by
  obtain ⟨l, rfl, wl⟩ := sh22 (n := 6) h0
  exact law3 l wl
/-- what the marks' text is sealed of -/
def sealL (salt : Int) : List TMark → List Int
  | [] => [salt]
  | l => salt :: l.flatMap fun m => [m.Question, m.Answer]
def mSealL (salt : Int) (l : List TMark) : List Int := salt :: l.flatMap fun m => [m.Question, m.Answer]
theorem mSealL_at {salt : Int} {l : List TMark} {p : Nat} (h : p < l.length) : mSealL salt (l.take (p + 1)) = mSealL salt (l.take p) ++ [(l[p]?.getD default).Question, (l[p]?.getD default).Answer] := by
  rw [take_at (d := default) h]; simp [mSealL]
theorem mSealL_len (salt : Int) : ∀ (l : List TMark), (mSealL salt l).length = 2 * l.length + 1
  | [] => rfl
  | x :: l => by have := mSealL_len salt l; simp [mSealL] at this ⊢; omega
def mSeal (l : List TMark) (salt : Int) : Int := mHash (mSealL salt l)
/-- loop.example/g03007/spec.SealMarks -/
noncomputable def c39 : Con := mkCon 39 false (α := (List TMark) × Int) (fun x => (fun (l : List TMark) (salt : Int) => [encLTMark l, dI salt]) x.1 x.2) (fun _ => []) (fun x => (fun (l : List TMark) (salt : Int) => l.length ≤ 1073741823) x.1 x.2) (fun x => (fun (l : List TMark) (salt : Int) => (dI (mSeal l salt) : D)) x.1 x.2) (fun x => (fun (l : List TMark) (salt : Int) => []) x.1 x.2)
@[simp] theorem c39_f : c39.f = 39 := rfl
@[simp] theorem c39_own : c39.own = false := rfl
theorem c39_inj : ∀ u_ v_ : (List TMark) × Int, ((fun x => (fun (l : List TMark) (salt : Int) => [encLTMark l, dI salt]) x.1 x.2) u_).map nz = ((fun x => (fun (l : List TMark) (salt : Int) => [encLTMark l, dI salt]) x.1 x.2) v_).map nz → u_ = v_ := by
  intro u_ v_ h
  obtain ⟨l, salt⟩ := u_
  obtain ⟨l', salt'⟩ := v_
  simp [nz_lit, nz1_lit, nz_agg, nz_sl, nz1_sl, encLTMark] at h
  first | (simp [h]; done) | (obtain ⟨⟩ := h; simp_all; done) | simp_all
@[simp] theorem c39_fn (l : List TMark) (salt : Int) : c39.fn [.sl false 2 yTMark (ML encTMark l), .lit (.int .i64 salt)] [] = some ((fun (l : List TMark) (salt : Int) => l.length ≤ 1073741823) l salt, (fun (l : List TMark) (salt : Int) => (dI (mSeal l salt) : D)) l salt, (fun (l : List TMark) (salt : Int) => []) l salt) :=
  mkCon_fn (fun x y h _ => c39_inj x y h) ((l, salt) : (List TMark) × Int) (by simp [nz, nz1, ML_nil, encLTMark]) rfl
@[simp] theorem c39_fn1 (s_l : Nat) (z_l : D) (salt : Int) : c39.fn [.sl false s_l z_l [], .lit (.int .i64 salt)] [] = some ((fun (l : List TMark) (salt : Int) => l.length ≤ 1073741823) [] salt, (fun (l : List TMark) (salt : Int) => (dI (mSeal l salt) : D)) [] salt, (fun (l : List TMark) (salt : Int) => []) [] salt) :=
  mkCon_fn (fun x y h _ => c39_inj x y h) (([], salt) : (List TMark) × Int) (by simp [nz, nz1, ML_nil, encLTMark]) rfl
theorem c39_pc (l : List TMark) (salt : Int) (hpre : l.length ≤ 1073741823) : PCo Try.prog 39 [encLTMark l, dI salt] (Tab.of []) (dI (mSeal l salt)) (Tab.of []) := by
  refine pco_of_run [] (E := ⟨[c124], []⟩) (m := false) (base := 0) (Env.ok_cons c124_ok Env.ok_nil) G_ok mix 300 6 Try.func39 (by kernel_rfl) rfl (by kernel_rfl) (by kernel_rfl) rfl ?_
  simp [Try.f39]
  refine loop_inv (fun p : Nat => p ≤ l.length) (fun p => [(0, encLTMark l), (5, .own (0, 1) 1 0 (2 * p + 1)), (6, dI p)]) (fun p => [((0, 1), .arr false 1 (dI 0) (ML dI (mSealL salt (l.take p))))]) 2 (fun p => l.length - p) 0 400 (by simp) (by simp) (by simp [mSealL]; first | done | rfl) ?_
  intro p hp
  have hl := mSealL_len salt (l.take p)
  have hm : min p l.length = p := by omega
  simp [hl, hm]
  refine ⟨fun hlt => ?_, fun hge => ?_⟩
  · have hs := mSealL_at (salt := salt) hlt
    repeat' (first | omega | refine And.intro ?_ ?_ | intro _)
    exact Again.mk (p + 1) (by omega) (by simp [hs, hl, hm]; exact ⟨by omega, by simp only [ML, List.map_append]; rfl⟩) (by first | omega | (simp; omega))
  · rw [List.take_of_length_le hge]
    refine ⟨by omega, rfl⟩
theorem c39_ok : c39.ok Try.prog := mkCon_ok fun ⟨l, salt⟩ hpre => c39_pc l salt hpre
/-- loop.example/g03007/impl.SealMarks -/
noncomputable def c40 : Con := mkCon 40 false (α := (List TMark) × Int) (fun x => (fun (l : List TMark) (salt : Int) => [encLTMark l, dI salt]) x.1 x.2) (fun _ => []) (fun x => (fun (l : List TMark) (salt : Int) => l.length ≤ 1073741823) x.1 x.2) (fun x => (fun (l : List TMark) (salt : Int) => (dI (mSeal l salt) : D)) x.1 x.2) (fun x => (fun (l : List TMark) (salt : Int) => []) x.1 x.2)
@[simp] theorem c40_f : c40.f = 40 := rfl
@[simp] theorem c40_own : c40.own = false := rfl
theorem c40_inj : ∀ u_ v_ : (List TMark) × Int, ((fun x => (fun (l : List TMark) (salt : Int) => [encLTMark l, dI salt]) x.1 x.2) u_).map nz = ((fun x => (fun (l : List TMark) (salt : Int) => [encLTMark l, dI salt]) x.1 x.2) v_).map nz → u_ = v_ := by
  intro u_ v_ h
  obtain ⟨l, salt⟩ := u_
  obtain ⟨l', salt'⟩ := v_
  simp [nz_lit, nz1_lit, nz_agg, nz_sl, nz1_sl, encLTMark] at h
  first | (simp [h]; done) | (obtain ⟨⟩ := h; simp_all; done) | simp_all
@[simp] theorem c40_fn (l : List TMark) (salt : Int) : c40.fn [.sl false 2 yTMark (ML encTMark l), .lit (.int .i64 salt)] [] = some ((fun (l : List TMark) (salt : Int) => l.length ≤ 1073741823) l salt, (fun (l : List TMark) (salt : Int) => (dI (mSeal l salt) : D)) l salt, (fun (l : List TMark) (salt : Int) => []) l salt) :=
  mkCon_fn (fun x y h _ => c40_inj x y h) ((l, salt) : (List TMark) × Int) (by simp [nz, nz1, ML_nil, encLTMark]) rfl
@[simp] theorem c40_fn1 (s_l : Nat) (z_l : D) (salt : Int) : c40.fn [.sl false s_l z_l [], .lit (.int .i64 salt)] [] = some ((fun (l : List TMark) (salt : Int) => l.length ≤ 1073741823) [] salt, (fun (l : List TMark) (salt : Int) => (dI (mSeal l salt) : D)) [] salt, (fun (l : List TMark) (salt : Int) => []) [] salt) :=
  mkCon_fn (fun x y h _ => c40_inj x y h) (([], salt) : (List TMark) × Int) (by simp [nz, nz1, ML_nil, encLTMark]) rfl
theorem c40_pc (l : List TMark) (salt : Int) (hpre : l.length ≤ 1073741823) : PCo Try.prog 40 [encLTMark l, dI salt] (Tab.of []) (dI (mSeal l salt)) (Tab.of []) := by
  refine pco_of_run [] (E := ⟨[c125], []⟩) (m := false) (base := 0) (Env.ok_cons c125_ok Env.ok_nil) G_ok mix 300 6 Try.func40 (by kernel_rfl) rfl (by kernel_rfl) (by kernel_rfl) rfl ?_
  simp [Try.f40]
  refine loop_inv (fun p : Nat => p ≤ l.length) (fun p => [(5, .own (0, 1) 1 0 (2 * p + 1)), (10, encLTMark l), (11, dI l.length), (12, dI p)]) (fun p => [((0, 1), .arr false 1 (dI 0) (ML dI (mSealL salt (l.take p))))]) 2 (fun p => l.length - p) 0 400 (by simp) (by simp) (by simp [mSealL]; first | done | rfl) ?_
  intro p hp
  have hl := mSealL_len salt (l.take p)
  have hm : min p l.length = p := by omega
  simp [hl, hm]
  refine ⟨fun hlt => ?_, fun hge => ?_⟩
  · have hs := mSealL_at (salt := salt) hlt
    repeat' (first | omega | refine And.intro ?_ ?_ | intro _)
    exact Again.mk (p + 1) (by omega) (by simp [hs, hl, hm]; exact ⟨by omega, by simp only [ML, List.map_append]; rfl⟩) (by first | omega | (simp; omega))
  · rw [List.take_of_length_le hge]
    refine ⟨by omega, rfl⟩
theorem c40_ok : c40.ok Try.prog := mkCon_ok fun ⟨l, salt⟩ hpre => c40_pc l salt hpre
/-- loop.example/g03007/laws.FnExactSealMarks -/
theorem law5 (l : List TMark) (wl : wfLTMark l) (salt : Int) (wsalt : inR .i64 salt) : PCo Try.prog 5 [encLTMark l, dI salt] (Tab.of []) (dB true) (Tab.of []) := by
  refine pco_of_run [] (E := ⟨[c32, c34, c36, c39, c40], []⟩) (m := false) (base := 0) (Env.ok_cons c32_ok (Env.ok_cons c34_ok (Env.ok_cons c36_ok (Env.ok_cons c39_ok (Env.ok_cons c40_ok Env.ok_nil))))) G_ok mix 400 6 Try.func5 (by kernel_rfl) rfl (by kernel_rfl) (by kernel_rfl) rfl ?_
  simp [Try.f5]
  have h_l : l.length ≤ maxLen := wl.1
  repeat' (first | omega | assumption | refine And.intro ?_ ?_ | intro _)
  all_goals first | omega | grind | (split at * <;> omega)
theorem law5_pc (D0 : D) (h0 : Sh G 9 22 D0) (D1 : D) (h1 : Sh G 9 3 D1) : PC Try.prog 5 [D0, D1] (dB true) [] := by
  obtain ⟨l, rfl, wl⟩ := sh22 (n := 6) h0
  obtain ⟨salt, rfl, wsalt⟩ := sh3 (n := 8) h1
  exact law5 l wl salt wsalt
def mOpens (l : List TMark) (salt s : Int) : Bool := mAreMarks l && decide (mSeal l salt = s)
/-- loop.example/g03007/spec.OpensSeal -/
noncomputable def c41 : Con := mkCon 41 false (α := (List TMark) × Int × Int) (fun x => (fun (l : List TMark) (salt : Int) (s : Int) => [encLTMark l, dI salt, dI s]) x.1 x.2.1 x.2.2) (fun _ => []) (fun x => (fun (l : List TMark) (salt : Int) (s : Int) => l.length ≤ 1073741823) x.1 x.2.1 x.2.2) (fun x => (fun (l : List TMark) (salt : Int) (s : Int) => (dB (mOpens l salt s) : D)) x.1 x.2.1 x.2.2) (fun x => (fun (l : List TMark) (salt : Int) (s : Int) => []) x.1 x.2.1 x.2.2)
@[simp] theorem c41_f : c41.f = 41 := rfl
@[simp] theorem c41_own : c41.own = false := rfl
theorem c41_inj : ∀ u_ v_ : (List TMark) × Int × Int, ((fun x => (fun (l : List TMark) (salt : Int) (s : Int) => [encLTMark l, dI salt, dI s]) x.1 x.2.1 x.2.2) u_).map nz = ((fun x => (fun (l : List TMark) (salt : Int) (s : Int) => [encLTMark l, dI salt, dI s]) x.1 x.2.1 x.2.2) v_).map nz → u_ = v_ := by
  intro u_ v_ h
  obtain ⟨l, salt, s⟩ := u_
  obtain ⟨l', salt', s'⟩ := v_
  simp [nz_lit, nz1_lit, nz_agg, nz_sl, nz1_sl, encLTMark] at h
  first | (simp [h]; done) | (obtain ⟨⟩ := h; simp_all; done) | simp_all
@[simp] theorem c41_fn (l : List TMark) (salt : Int) (s : Int) : c41.fn [.sl false 2 yTMark (ML encTMark l), .lit (.int .i64 salt), .lit (.int .i64 s)] [] = some ((fun (l : List TMark) (salt : Int) (s : Int) => l.length ≤ 1073741823) l salt s, (fun (l : List TMark) (salt : Int) (s : Int) => (dB (mOpens l salt s) : D)) l salt s, (fun (l : List TMark) (salt : Int) (s : Int) => []) l salt s) :=
  mkCon_fn (fun x y h _ => c41_inj x y h) ((l, salt, s) : (List TMark) × Int × Int) (by simp [nz, nz1, ML_nil, encLTMark]) rfl
@[simp] theorem c41_fn1 (s_l : Nat) (z_l : D) (salt : Int) (s : Int) : c41.fn [.sl false s_l z_l [], .lit (.int .i64 salt), .lit (.int .i64 s)] [] = some ((fun (l : List TMark) (salt : Int) (s : Int) => l.length ≤ 1073741823) [] salt s, (fun (l : List TMark) (salt : Int) (s : Int) => (dB (mOpens l salt s) : D)) [] salt s, (fun (l : List TMark) (salt : Int) (s : Int) => []) [] salt s) :=
  mkCon_fn (fun x y h _ => c41_inj x y h) (([], salt, s) : (List TMark) × Int × Int) (by simp [nz, nz1, ML_nil, encLTMark]) rfl
theorem c41_pc (l : List TMark) (salt : Int) (s : Int) (hpre : l.length ≤ 1073741823) : PCo Try.prog 41 [encLTMark l, dI salt, dI s] (Tab.of []) (dB (mOpens l salt s)) (Tab.of []) := by
  refine pco_of_run [] (E := ⟨[c33, c39], []⟩) (m := false) (base := 0) (Env.ok_cons c33_ok (Env.ok_cons c39_ok Env.ok_nil)) G_ok mix 300 6 Try.func41 (by kernel_rfl) rfl (by kernel_rfl) (by kernel_rfl) rfl ?_
  simp [Try.f41]
  simp [mOpens]
  refine ⟨⟨by omega, fun _ => hpre⟩, ?_⟩
  first | rfl | omega | (rw [Bool.eq_iff_iff]; simp; done) | (rw [Bool.eq_iff_iff]; simp; omega) | (rw [Bool.eq_iff_iff]; simp; grind) | grind
theorem c41_ok : c41.ok Try.prog := mkCon_ok fun ⟨l, salt, s⟩ hpre => c41_pc l salt s hpre
/-- loop.example/g03007/impl.OpensSeal -/
noncomputable def c42 : Con := mkCon 42 false (α := (List TMark) × Int × Int) (fun x => (fun (l : List TMark) (salt : Int) (s : Int) => [encLTMark l, dI salt, dI s]) x.1 x.2.1 x.2.2) (fun _ => []) (fun x => (fun (l : List TMark) (salt : Int) (s : Int) => l.length ≤ 1073741823) x.1 x.2.1 x.2.2) (fun x => (fun (l : List TMark) (salt : Int) (s : Int) => (dB (mOpens l salt s) : D)) x.1 x.2.1 x.2.2) (fun x => (fun (l : List TMark) (salt : Int) (s : Int) => []) x.1 x.2.1 x.2.2)
@[simp] theorem c42_f : c42.f = 42 := rfl
@[simp] theorem c42_own : c42.own = false := rfl
theorem c42_inj : ∀ u_ v_ : (List TMark) × Int × Int, ((fun x => (fun (l : List TMark) (salt : Int) (s : Int) => [encLTMark l, dI salt, dI s]) x.1 x.2.1 x.2.2) u_).map nz = ((fun x => (fun (l : List TMark) (salt : Int) (s : Int) => [encLTMark l, dI salt, dI s]) x.1 x.2.1 x.2.2) v_).map nz → u_ = v_ := by
  intro u_ v_ h
  obtain ⟨l, salt, s⟩ := u_
  obtain ⟨l', salt', s'⟩ := v_
  simp [nz_lit, nz1_lit, nz_agg, nz_sl, nz1_sl, encLTMark] at h
  first | (simp [h]; done) | (obtain ⟨⟩ := h; simp_all; done) | simp_all
@[simp] theorem c42_fn (l : List TMark) (salt : Int) (s : Int) : c42.fn [.sl false 2 yTMark (ML encTMark l), .lit (.int .i64 salt), .lit (.int .i64 s)] [] = some ((fun (l : List TMark) (salt : Int) (s : Int) => l.length ≤ 1073741823) l salt s, (fun (l : List TMark) (salt : Int) (s : Int) => (dB (mOpens l salt s) : D)) l salt s, (fun (l : List TMark) (salt : Int) (s : Int) => []) l salt s) :=
  mkCon_fn (fun x y h _ => c42_inj x y h) ((l, salt, s) : (List TMark) × Int × Int) (by simp [nz, nz1, ML_nil, encLTMark]) rfl
@[simp] theorem c42_fn1 (s_l : Nat) (z_l : D) (salt : Int) (s : Int) : c42.fn [.sl false s_l z_l [], .lit (.int .i64 salt), .lit (.int .i64 s)] [] = some ((fun (l : List TMark) (salt : Int) (s : Int) => l.length ≤ 1073741823) [] salt s, (fun (l : List TMark) (salt : Int) (s : Int) => (dB (mOpens l salt s) : D)) [] salt s, (fun (l : List TMark) (salt : Int) (s : Int) => []) [] salt s) :=
  mkCon_fn (fun x y h _ => c42_inj x y h) (([], salt, s) : (List TMark) × Int × Int) (by simp [nz, nz1, ML_nil, encLTMark]) rfl
theorem c42_pc (l : List TMark) (salt : Int) (s : Int) (hpre : l.length ≤ 1073741823) : PCo Try.prog 42 [encLTMark l, dI salt, dI s] (Tab.of []) (dB (mOpens l salt s)) (Tab.of []) := by
  refine pco_of_run [] (E := ⟨[c35, c40], []⟩) (m := false) (base := 0) (Env.ok_cons c35_ok (Env.ok_cons c40_ok Env.ok_nil)) G_ok mix 300 6 Try.func42 (by kernel_rfl) rfl (by kernel_rfl) (by kernel_rfl) rfl ?_
  simp [Try.f42]
  simp [mOpens]
  refine ⟨⟨by omega, fun _ => hpre⟩, ?_⟩
  first | rfl | omega | (rw [Bool.eq_iff_iff]; simp; done) | (rw [Bool.eq_iff_iff]; simp; omega) | (rw [Bool.eq_iff_iff]; simp; grind) | grind
theorem c42_ok : c42.ok Try.prog := mkCon_ok fun ⟨l, salt, s⟩ hpre => c42_pc l salt s hpre
/-- loop.example/g03007/laws.FnExactOpensSeal -/
theorem law6 (l : List TMark) (wl : wfLTMark l) (salt : Int) (wsalt : inR .i64 salt) (s : Int) (ws : inR .i64 s) : PCo Try.prog 6 [encLTMark l, dI salt, dI s] (Tab.of []) (dB true) (Tab.of []) := by
  refine pco_of_run [] (E := ⟨[c32, c34, c36, c41, c42], []⟩) (m := false) (base := 0) (Env.ok_cons c32_ok (Env.ok_cons c34_ok (Env.ok_cons c36_ok (Env.ok_cons c41_ok (Env.ok_cons c42_ok Env.ok_nil))))) G_ok mix 400 6 Try.func6 (by kernel_rfl) rfl (by kernel_rfl) (by kernel_rfl) rfl ?_
  simp [Try.f6]
  have h_l : l.length ≤ maxLen := wl.1
  repeat' (first | omega | assumption | refine And.intro ?_ ?_ | intro _)
  all_goals first | omega | grind | (split at * <;> omega)
theorem law6_pc (D0 : D) (h0 : Sh G 9 22 D0) (D1 : D) (h1 : Sh G 9 3 D1) (D2 : D) (h2 : Sh G 9 3 D2) : PC Try.prog 6 [D0, D1, D2] (dB true) [] := by
  obtain ⟨l, rfl, wl⟩ := sh22 (n := 6) h0
  obtain ⟨salt, rfl, wsalt⟩ := sh3 (n := 8) h1
  obtain ⟨s, rfl, ws⟩ := sh3 (n := 8) h2
  exact law6 l wl salt wsalt s ws
def lookQ (q : Int) : List TMark → Int
  | [] => -1
  | x :: r => if x.Question = q then x.Answer else lookQ q r
theorem lookQ_at {q : Int} {l : List TMark} {p : Nat} (h : p < l.length) : lookQ q (l.drop p) = if (l[p]?.getD default).Question = q then (l[p]?.getD default).Answer else lookQ q (l.drop (p + 1)) := by
  rw [drop_at (d := default) h, lookQ]
theorem lookQ_end {q : Int} {l : List TMark} {p : Nat} (h : l.length ≤ p) : lookQ q (l.drop p) = -1 := by
  rw [List.drop_eq_nil_of_le h, lookQ]
/-- loop.example/g03007/spec.AnswerOf -/
noncomputable def c37 : Con := mkCon 37 false (α := (List TMark) × Int) (fun x => (fun (l : List TMark) (q : Int) => [encLTMark l, dI q]) x.1 x.2) (fun _ => []) (fun x => (fun (l : List TMark) (q : Int) => l.length ≤ 1099511627776) x.1 x.2) (fun x => (fun (l : List TMark) (q : Int) => (dI (lookQ q l) : D)) x.1 x.2) (fun x => (fun (l : List TMark) (q : Int) => []) x.1 x.2)
@[simp] theorem c37_f : c37.f = 37 := rfl
@[simp] theorem c37_own : c37.own = false := rfl
theorem c37_inj : ∀ u_ v_ : (List TMark) × Int, ((fun x => (fun (l : List TMark) (q : Int) => [encLTMark l, dI q]) x.1 x.2) u_).map nz = ((fun x => (fun (l : List TMark) (q : Int) => [encLTMark l, dI q]) x.1 x.2) v_).map nz → u_ = v_ := by
  intro u_ v_ h
  obtain ⟨l, q⟩ := u_
  obtain ⟨l', q'⟩ := v_
  simp [nz_lit, nz1_lit, nz_agg, nz_sl, nz1_sl, encLTMark] at h
  first | (simp [h]; done) | (obtain ⟨⟩ := h; simp_all; done) | simp_all
@[simp] theorem c37_fn (l : List TMark) (q : Int) : c37.fn [.sl false 2 yTMark (ML encTMark l), .lit (.int .i64 q)] [] = some ((fun (l : List TMark) (q : Int) => l.length ≤ 1099511627776) l q, (fun (l : List TMark) (q : Int) => (dI (lookQ q l) : D)) l q, (fun (l : List TMark) (q : Int) => []) l q) :=
  mkCon_fn (fun x y h _ => c37_inj x y h) ((l, q) : (List TMark) × Int) (by simp [nz, nz1, ML_nil, encLTMark]) rfl
@[simp] theorem c37_fn1 (s_l : Nat) (z_l : D) (q : Int) : c37.fn [.sl false s_l z_l [], .lit (.int .i64 q)] [] = some ((fun (l : List TMark) (q : Int) => l.length ≤ 1099511627776) [] q, (fun (l : List TMark) (q : Int) => (dI (lookQ q l) : D)) [] q, (fun (l : List TMark) (q : Int) => []) [] q) :=
  mkCon_fn (fun x y h _ => c37_inj x y h) (([], q) : (List TMark) × Int) (by simp [nz, nz1, ML_nil, encLTMark]) rfl
theorem c37_pc (l : List TMark) (q : Int) (hpre : l.length ≤ 1099511627776) : PCo Try.prog 37 [encLTMark l, dI q] (Tab.of []) (dI (lookQ q l)) (Tab.of []) := by
  refine pco_of_run [] (E := ⟨[], []⟩) (m := false) (base := 0) Env.ok_nil G_ok mix 300 6 Try.func37 (by kernel_rfl) rfl (by kernel_rfl) (by kernel_rfl) rfl ?_
  simp [Try.f37]
  refine loop_inv (fun p : Nat => p ≤ l.length ∧ lookQ q l = lookQ q (l.drop p)) (fun p => [(0, encLTMark l), (1, dI q), (5, dI p)]) (fun _ => []) 1 (fun p => l.length - p) 0 400 (by simp) (by simp) (by simp) ?_
  intro p ⟨hp, hi⟩
  simp
  refine ⟨fun hlt => ?_, fun hge => ?_⟩
  · rw [lookQ_at hlt] at hi
    repeat' (first | omega | refine And.intro ?_ ?_ | intro _)
    all_goals first | exact Again.mk (p + 1) ⟨by omega, by rw [hi]; grind⟩ (by simp) (by first | omega | (simp; omega)) | (rw [hi]; grind)
  · rw [hi, lookQ_end hge]
theorem c37_ok : c37.ok Try.prog := mkCon_ok fun ⟨l, q⟩ hpre => c37_pc l q hpre
def hInts (l : List Int) : Int := mHash l
@[simp] theorem c124_one (n : Int) : c124.fn [.sl false 1 (.lit (.int .i64 0)) [dI n]] [] = some (1 ≤ 1099511627776, dI (mHash [n]), []) := c124_fn [n]
@[simp] theorem c125_one (n : Int) : c125.fn [.sl false 1 (.lit (.int .i64 0)) [dI n]] [] = some (1 ≤ 1099511627776, dI (mHash [n]), []) := c125_fn [n]
def mQuestion (l : List TMark) (claim n : Int) : Int := if decide (l.length = 0) || !mAreMarks l || !mIn n 0 1000 then 0 else (l[((mHash [claim] + n) % l.length).toNat]?.getD default).Question
theorem question_nil {l : List TMark} {c n : Int} (h : (l = [] ∨ mAreMarks l = false) ∨ mIn n 0 1000 = false) : 0 = mQuestion l c n := by
  simp only [mQuestion]
  rw [if_pos]
  rcases h with (h | h) | h <;> simp [h]
theorem question_of {l : List TMark} {c n : Int} (h1 : ¬ l = []) (h2 : mAreMarks l = true) (h3 : mIn n 0 1000 = true) : mQuestion l c n = (l[((mHash [c] + n) % l.length).toNat]?.getD default).Question := by
  simp only [mQuestion]
  rw [if_neg (by simp [h1, h2, h3])]
/-- loop.example/g03007/spec.QuestionFor -/
noncomputable def c43 : Con := mkCon 43 false (α := (List TMark) × Int × Int) (fun x => (fun (l : List TMark) (c : Int) (n : Int) => [encLTMark l, dI c, dI n]) x.1 x.2.1 x.2.2) (fun _ => []) (fun x => (fun (l : List TMark) (c : Int) (n : Int) => l.length ≤ 1073741823) x.1 x.2.1 x.2.2) (fun x => (fun (l : List TMark) (c : Int) (n : Int) => (dI (mQuestion l c n) : D)) x.1 x.2.1 x.2.2) (fun x => (fun (l : List TMark) (c : Int) (n : Int) => []) x.1 x.2.1 x.2.2)
@[simp] theorem c43_f : c43.f = 43 := rfl
@[simp] theorem c43_own : c43.own = false := rfl
theorem c43_inj : ∀ u_ v_ : (List TMark) × Int × Int, ((fun x => (fun (l : List TMark) (c : Int) (n : Int) => [encLTMark l, dI c, dI n]) x.1 x.2.1 x.2.2) u_).map nz = ((fun x => (fun (l : List TMark) (c : Int) (n : Int) => [encLTMark l, dI c, dI n]) x.1 x.2.1 x.2.2) v_).map nz → u_ = v_ := by
  intro u_ v_ h
  obtain ⟨l, c, n⟩ := u_
  obtain ⟨l', c', n'⟩ := v_
  simp [nz_lit, nz1_lit, nz_agg, nz_sl, nz1_sl, encLTMark] at h
  first | (simp [h]; done) | (obtain ⟨⟩ := h; simp_all; done) | simp_all
@[simp] theorem c43_fn (l : List TMark) (c : Int) (n : Int) : c43.fn [.sl false 2 yTMark (ML encTMark l), .lit (.int .i64 c), .lit (.int .i64 n)] [] = some ((fun (l : List TMark) (c : Int) (n : Int) => l.length ≤ 1073741823) l c n, (fun (l : List TMark) (c : Int) (n : Int) => (dI (mQuestion l c n) : D)) l c n, (fun (l : List TMark) (c : Int) (n : Int) => []) l c n) :=
  mkCon_fn (fun x y h _ => c43_inj x y h) ((l, c, n) : (List TMark) × Int × Int) (by simp [nz, nz1, ML_nil, encLTMark]) rfl
@[simp] theorem c43_fn1 (s_l : Nat) (z_l : D) (c : Int) (n : Int) : c43.fn [.sl false s_l z_l [], .lit (.int .i64 c), .lit (.int .i64 n)] [] = some ((fun (l : List TMark) (c : Int) (n : Int) => l.length ≤ 1073741823) [] c n, (fun (l : List TMark) (c : Int) (n : Int) => (dI (mQuestion l c n) : D)) [] c n, (fun (l : List TMark) (c : Int) (n : Int) => []) [] c n) :=
  mkCon_fn (fun x y h _ => c43_inj x y h) (([], c, n) : (List TMark) × Int × Int) (by simp [nz, nz1, ML_nil, encLTMark]) rfl
theorem c43_pc (l : List TMark) (c : Int) (n : Int) (hpre : l.length ≤ 1073741823) : PCo Try.prog 43 [encLTMark l, dI c, dI n] (Tab.of []) (dI (mQuestion l c n)) (Tab.of []) := by
  refine pco_of_run [] (E := ⟨[c33, c118, c124, c126], []⟩) (m := false) (base := 0) (Env.ok_cons c33_ok (Env.ok_cons c118_ok (Env.ok_cons c124_ok (Env.ok_cons c126_ok Env.ok_nil)))) G_ok mix 300 6 Try.func43 (by kernel_rfl) rfl (by kernel_rfl) (by kernel_rfl) rfl ?_
  simp [Try.f43]
  refine ⟨fun _ => by omega, question_nil, fun h1 h2 h3 => ?_⟩
  have hl : 0 < l.length := List.length_pos_iff.2 h1
  have hb := mHash_bd [c]
  have hn := mIn_iff.1 h3
  have hq : mMod (mHash [c]) (l.length : Int) = mHash [c] % (l.length : Int) := by
    have : mIn (l.length : Int) 1 1000000000000 = true := mIn_iff.2 (by omega)
    simp [mMod, this]
  have hm := emod_bd (mHash [c]) (show (0 : Int) < l.length by omega)
  rw [hq, question_of h1 h2 h3, Int.tmod_eq_emod_of_nonneg (by omega), Int.emod_add_emod]
  have hm2 := emod_bd (mHash [c] + n) (show (0 : Int) < l.length by omega)
  repeat' (first | omega | refine And.intro ?_ ?_ | intro _)
  all_goals first | exact h1 | rfl
theorem c43_ok : c43.ok Try.prog := mkCon_ok fun ⟨l, c, n⟩ hpre => c43_pc l c n hpre
/-- loop.example/g03007/impl.QuestionFor -/
noncomputable def c44 : Con := mkCon 44 false (α := (List TMark) × Int × Int) (fun x => (fun (l : List TMark) (c : Int) (n : Int) => [encLTMark l, dI c, dI n]) x.1 x.2.1 x.2.2) (fun _ => []) (fun x => (fun (l : List TMark) (c : Int) (n : Int) => l.length ≤ 1073741823) x.1 x.2.1 x.2.2) (fun x => (fun (l : List TMark) (c : Int) (n : Int) => (dI (mQuestion l c n) : D)) x.1 x.2.1 x.2.2) (fun x => (fun (l : List TMark) (c : Int) (n : Int) => []) x.1 x.2.1 x.2.2)
@[simp] theorem c44_f : c44.f = 44 := rfl
@[simp] theorem c44_own : c44.own = false := rfl
theorem c44_inj : ∀ u_ v_ : (List TMark) × Int × Int, ((fun x => (fun (l : List TMark) (c : Int) (n : Int) => [encLTMark l, dI c, dI n]) x.1 x.2.1 x.2.2) u_).map nz = ((fun x => (fun (l : List TMark) (c : Int) (n : Int) => [encLTMark l, dI c, dI n]) x.1 x.2.1 x.2.2) v_).map nz → u_ = v_ := by
  intro u_ v_ h
  obtain ⟨l, c, n⟩ := u_
  obtain ⟨l', c', n'⟩ := v_
  simp [nz_lit, nz1_lit, nz_agg, nz_sl, nz1_sl, encLTMark] at h
  first | (simp [h]; done) | (obtain ⟨⟩ := h; simp_all; done) | simp_all
@[simp] theorem c44_fn (l : List TMark) (c : Int) (n : Int) : c44.fn [.sl false 2 yTMark (ML encTMark l), .lit (.int .i64 c), .lit (.int .i64 n)] [] = some ((fun (l : List TMark) (c : Int) (n : Int) => l.length ≤ 1073741823) l c n, (fun (l : List TMark) (c : Int) (n : Int) => (dI (mQuestion l c n) : D)) l c n, (fun (l : List TMark) (c : Int) (n : Int) => []) l c n) :=
  mkCon_fn (fun x y h _ => c44_inj x y h) ((l, c, n) : (List TMark) × Int × Int) (by simp [nz, nz1, ML_nil, encLTMark]) rfl
@[simp] theorem c44_fn1 (s_l : Nat) (z_l : D) (c : Int) (n : Int) : c44.fn [.sl false s_l z_l [], .lit (.int .i64 c), .lit (.int .i64 n)] [] = some ((fun (l : List TMark) (c : Int) (n : Int) => l.length ≤ 1073741823) [] c n, (fun (l : List TMark) (c : Int) (n : Int) => (dI (mQuestion l c n) : D)) [] c n, (fun (l : List TMark) (c : Int) (n : Int) => []) [] c n) :=
  mkCon_fn (fun x y h _ => c44_inj x y h) (([], c, n) : (List TMark) × Int × Int) (by simp [nz, nz1, ML_nil, encLTMark]) rfl
theorem c44_pc (l : List TMark) (c : Int) (n : Int) (hpre : l.length ≤ 1073741823) : PCo Try.prog 44 [encLTMark l, dI c, dI n] (Tab.of []) (dI (mQuestion l c n)) (Tab.of []) := by
  refine pco_of_run [] (E := ⟨[c35, c125, c127, c128], []⟩) (m := false) (base := 0) (Env.ok_cons c35_ok (Env.ok_cons c125_ok (Env.ok_cons c127_ok (Env.ok_cons c128_ok Env.ok_nil)))) G_ok mix 300 6 Try.func44 (by kernel_rfl) rfl (by kernel_rfl) (by kernel_rfl) rfl ?_
  simp [Try.f44]
  refine ⟨fun _ => by omega, question_nil, fun h1 h2 h3 => ?_⟩
  have hl : 0 < l.length := List.length_pos_iff.2 h1
  have hb := mHash_bd [c]
  have hn := mIn_iff.1 h3
  have hq : mMod (mHash [c] + n) (l.length : Int) = (mHash [c] + n) % (l.length : Int) := by
    have : mIn (l.length : Int) 1 1000000000000 = true := mIn_iff.2 (by omega)
    simp [mMod, this]
  rw [hq, question_of h1 h2 h3]
  have hm2 := emod_bd (mHash [c] + n) (show (0 : Int) < l.length by omega)
  repeat' (first | omega | refine And.intro ?_ ?_ | intro _)
  all_goals first | exact h1 | rfl
theorem c44_ok : c44.ok Try.prog := mkCon_ok fun ⟨l, c, n⟩ hpre => c44_pc l c n hpre
/-- loop.example/g03007/laws.FnExactQuestionFor -/
theorem law7 (l : List TMark) (wl : wfLTMark l) (c : Int) (wc : inR .i64 c) (n : Int) (wn : inR .i64 n) : PCo Try.prog 7 [encLTMark l, dI c, dI n] (Tab.of []) (dB true) (Tab.of []) := by
  refine pco_of_run [] (E := ⟨[c32, c34, c36, c43, c44], []⟩) (m := false) (base := 0) (Env.ok_cons c32_ok (Env.ok_cons c34_ok (Env.ok_cons c36_ok (Env.ok_cons c43_ok (Env.ok_cons c44_ok Env.ok_nil))))) G_ok mix 400 6 Try.func7 (by kernel_rfl) rfl (by kernel_rfl) (by kernel_rfl) rfl ?_
  simp [Try.f7]
  have h_l : l.length ≤ maxLen := wl.1
  repeat' (first | omega | assumption | refine And.intro ?_ ?_ | intro _)
  all_goals first | omega | grind | (split at * <;> omega)
theorem law7_pc (D0 : D) (h0 : Sh G 9 22 D0) (D1 : D) (h1 : Sh G 9 3 D1) (D2 : D) (h2 : Sh G 9 3 D2) : PC Try.prog 7 [D0, D1, D2] (dB true) [] := by
  obtain ⟨l, rfl, wl⟩ := sh22 (n := 6) h0
  obtain ⟨c, rfl, wc⟩ := sh3 (n := 8) h1
  obtain ⟨n, rfl, wn⟩ := sh3 (n := 8) h2
  exact law7 l wl c wc n wn
def ksQ (l : List TMark) : List Int := l.foldl (fun ks m => insI ks m.Question) []
theorem insI_iff {ks : List Int} {v k : Int} : k ∈ insI ks v ↔ k ∈ ks ∨ k = v := by
  simp only [insI]; split
  · rename_i h; constructor
    · exact .inl
    · rintro (h' | rfl)
      · exact h'
      · exact h
  · simp
theorem ksQ_fold {k : Int} : ∀ (l : List TMark) (ks : List Int), k ∈ l.foldl (fun ks m => insI ks m.Question) ks ↔ k ∈ ks ∨ ∃ m ∈ l, m.Question = k
  | [], ks => by simp
  | x :: l, ks => by
    rw [List.foldl_cons, ksQ_fold l, insI_iff]
    simp only [List.mem_cons]
    constructor
    · rintro ((h | h) | ⟨m, h1, h2⟩)
      · exact .inl h
      · exact .inr ⟨x, .inl rfl, h.symm⟩
      · exact .inr ⟨m, .inr h1, h2⟩
    · rintro (h | ⟨m, (rfl | h1), h2⟩)
      · exact .inl (.inl h)
      · exact .inl (.inr h2.symm)
      · exact .inr ⟨m, h1, h2⟩
theorem ksQ_mem {k : Int} {l : List TMark} : k ∈ ksQ l ↔ ∃ m ∈ l, m.Question = k := by simp [ksQ, ksQ_fold]
theorem ksQ_at {l : List TMark} {p : Nat} (h : p < l.length) : ksQ (l.take (p + 1)) = insI (ksQ (l.take p)) (l[p]?.getD default).Question := by
  simp only [ksQ]; rw [foldl_at (d := default) h]
theorem lookQ_skip {k : Int} : ∀ (l r : List TMark), (¬ ∃ m ∈ l, m.Question = k) → lookQ k (l ++ r) = lookQ k r
  | [], r, _ => rfl
  | x :: l, r, h => by
    have h1 : ¬ x.Question = k := fun e => h ⟨x, by simp, e⟩
    have h2 : ¬ ∃ m ∈ l, m.Question = k := fun ⟨m, hm, e⟩ => h ⟨m, by simp [hm], e⟩
    rw [List.cons_append, lookQ, if_neg h1, lookQ_skip l r h2]
theorem lookQ_none {k : Int} {l : List TMark} (h : k ∉ ksQ l) : lookQ k l = -1 := by
  have := lookQ_skip l [] (fun h' => h (ksQ_mem.2 h'))
  simpa [lookQ] using this
theorem lookQ_new {l : List TMark} {p : Nat} (h : p < l.length) (hn : (l[p]?.getD default).Question ∉ ksQ (l.take p)) : lookQ (l[p]?.getD default).Question l = (l[p]?.getD default).Answer := by
  have h1 := lookQ_skip (k := (l[p]?.getD default).Question) (l.take p) (l.drop p) (fun h' => hn (ksQ_mem.2 h'))
  rw [List.take_append_drop, lookQ_at h, if_pos rfl] at h1
  exact h1
/-- loop.example/g03007/impl.answersOf -/
noncomputable def c123 : Con := mkCon 123 false (α := (List TMark)) (fun x => (fun (l : List TMark) => [encLTMark l]) x) (fun _ => []) (fun x => (fun (l : List TMark) => l.length ≤ 1099511627776) x) (fun x => (fun (l : List TMark) => (.mp (0, 1) : D)) x) (fun x => (fun (l : List TMark) => [((0, 1), .map 0 (keysI (ksQ l)) (dI 0) (ML dI ((ksQ l).map fun k => lookQ k l)))]) x)
@[simp] theorem c123_f : c123.f = 123 := rfl
@[simp] theorem c123_own : c123.own = false := rfl
theorem c123_inj : ∀ u_ v_ : (List TMark), ((fun x => (fun (l : List TMark) => [encLTMark l]) x) u_).map nz = ((fun x => (fun (l : List TMark) => [encLTMark l]) x) v_).map nz → u_ = v_ := by
  intro u_ v_ h
  obtain l := u_
  obtain l' := v_
  simp [nz_lit, nz1_lit, nz_agg, nz_sl, nz1_sl, encLTMark] at h
  first | (simp [h]; done) | (obtain ⟨⟩ := h; simp_all; done) | simp_all
@[simp] theorem c123_fn (l : List TMark) : c123.fn [.sl false 2 yTMark (ML encTMark l)] [] = some ((fun (l : List TMark) => l.length ≤ 1099511627776) l, (fun (l : List TMark) => (.mp (0, 1) : D)) l, (fun (l : List TMark) => [((0, 1), .map 0 (keysI (ksQ l)) (dI 0) (ML dI ((ksQ l).map fun k => lookQ k l)))]) l) :=
  mkCon_fn (fun x y h _ => c123_inj x y h) (l : (List TMark)) (by simp [nz, nz1, ML_nil, encLTMark]) rfl
@[simp] theorem c123_fn1 (s_l : Nat) (z_l : D) : c123.fn [.sl false s_l z_l []] [] = some ((fun (l : List TMark) => l.length ≤ 1099511627776) [], (fun (l : List TMark) => (.mp (0, 1) : D)) [], (fun (l : List TMark) => [((0, 1), .map 0 (keysI (ksQ l)) (dI 0) (ML dI ((ksQ l).map fun k => lookQ k l)))]) []) :=
  mkCon_fn (fun x y h _ => c123_inj x y h) ([] : (List TMark)) (by simp [nz, nz1, ML_nil, encLTMark]) rfl
theorem c123_pc (l : List TMark) (hpre : l.length ≤ 1099511627776) : PCo Try.prog 123 [encLTMark l] (Tab.of []) (.mp (0, 1)) (Tab.of [((0, 1), .map 0 (keysI (ksQ l)) (dI 0) (ML dI ((ksQ l).map fun k => lookQ k l)))]) := by
  refine pco_of_run [] (E := ⟨[], []⟩) (m := false) (base := 0) Env.ok_nil G_ok mix 300 6 Try.func123 (by kernel_rfl) rfl (by kernel_rfl) (by kernel_rfl) rfl ?_
  simp [Try.f123]
  refine loop_inv (fun p : Nat => p ≤ l.length) (fun p => [(3, .mp (0, 1)), (9, encLTMark l), (10, dI l.length), (11, dI p)]) (fun p => [((0, 1), .map 0 (keysI (ksQ (l.take p))) (dI 0) (ML dI ((ksQ (l.take p)).map fun k => lookQ k l)))]) 2 (fun p => l.length - p) 0 400 (by simp) (by simp) (by simp [ksQ, keysI]) ?_
  intro p hp
  simp
  refine ⟨fun hlt => ?_, fun hge => ?_⟩
  · have hk := ksQ_at hlt
    by_cases hm : (l[p]?.getD default).Question ∈ ksQ (l.take p)
    · simp [lookK_keys, hm]
      repeat' (first | omega | refine And.intro ?_ ?_ | intro _)
      exact Again.mk (p + 1) (by omega) (by simp [hk, insI_mem hm]) (by first | omega | (simp; omega))
    · simp [lookK_keys, hm]
      repeat' (first | omega | refine And.intro ?_ ?_ | intro _)
      exact Again.mk (p + 1) (by omega) (by simp [hk]; rw [← lookQ_new hlt hm]; exact updK_keys (f := fun k => lookQ k l) hm) (by first | omega | (simp; omega))
  · rw [List.take_of_length_le hge]; simp
theorem c123_ok : c123.ok Try.prog := mkCon_ok fun l hpre => c123_pc l hpre
/-- loop.example/g03007/impl.AnswerOf -/
noncomputable def c38 : Con := mkCon 38 false (α := (List TMark) × Int) (fun x => (fun (l : List TMark) (q : Int) => [encLTMark l, dI q]) x.1 x.2) (fun _ => []) (fun x => (fun (l : List TMark) (q : Int) => l.length ≤ 1099511627776) x.1 x.2) (fun x => (fun (l : List TMark) (q : Int) => (dI (lookQ q l) : D)) x.1 x.2) (fun x => (fun (l : List TMark) (q : Int) => []) x.1 x.2)
@[simp] theorem c38_f : c38.f = 38 := rfl
@[simp] theorem c38_own : c38.own = false := rfl
theorem c38_inj : ∀ u_ v_ : (List TMark) × Int, ((fun x => (fun (l : List TMark) (q : Int) => [encLTMark l, dI q]) x.1 x.2) u_).map nz = ((fun x => (fun (l : List TMark) (q : Int) => [encLTMark l, dI q]) x.1 x.2) v_).map nz → u_ = v_ := by
  intro u_ v_ h
  obtain ⟨l, q⟩ := u_
  obtain ⟨l', q'⟩ := v_
  simp [nz_lit, nz1_lit, nz_agg, nz_sl, nz1_sl, encLTMark] at h
  first | (simp [h]; done) | (obtain ⟨⟩ := h; simp_all; done) | simp_all
@[simp] theorem c38_fn (l : List TMark) (q : Int) : c38.fn [.sl false 2 yTMark (ML encTMark l), .lit (.int .i64 q)] [] = some ((fun (l : List TMark) (q : Int) => l.length ≤ 1099511627776) l q, (fun (l : List TMark) (q : Int) => (dI (lookQ q l) : D)) l q, (fun (l : List TMark) (q : Int) => []) l q) :=
  mkCon_fn (fun x y h _ => c38_inj x y h) ((l, q) : (List TMark) × Int) (by simp [nz, nz1, ML_nil, encLTMark]) rfl
@[simp] theorem c38_fn1 (s_l : Nat) (z_l : D) (q : Int) : c38.fn [.sl false s_l z_l [], .lit (.int .i64 q)] [] = some ((fun (l : List TMark) (q : Int) => l.length ≤ 1099511627776) [] q, (fun (l : List TMark) (q : Int) => (dI (lookQ q l) : D)) [] q, (fun (l : List TMark) (q : Int) => []) [] q) :=
  mkCon_fn (fun x y h _ => c38_inj x y h) (([], q) : (List TMark) × Int) (by simp [nz, nz1, ML_nil, encLTMark]) rfl
theorem c38_pc (l : List TMark) (q : Int) (hpre : l.length ≤ 1099511627776) : PCo Try.prog 38 [encLTMark l, dI q] (Tab.of []) (dI (lookQ q l)) (Tab.of []) := by
  refine pco_of_run [] (E := ⟨[c123], []⟩) (m := false) (base := 0) (Env.ok_cons c123_ok Env.ok_nil) G_ok mix 300 6 Try.func38 (by kernel_rfl) rfl (by kernel_rfl) (by kernel_rfl) rfl ?_
  by_cases hm : q ∈ ksQ l
  · simp [Try.f38, lookK_keys, hm]
    exact hpre
  · have := lookQ_none hm
    simp [Try.f38, lookK_keys, hm]
    exact ⟨hpre, this.symm⟩
theorem c38_ok : c38.ok Try.prog := mkCon_ok fun ⟨l, q⟩ hpre => c38_pc l q hpre
/-- loop.example/g03007/laws.FnExactAnswerOf -/
theorem law4 (l : List TMark) (wl : wfLTMark l) (q : Int) (wq : inR .i64 q) : PCo Try.prog 4 [encLTMark l, dI q] (Tab.of []) (dB true) (Tab.of []) := by
  refine pco_of_run [] (E := ⟨[c32, c34, c36, c37, c38], []⟩) (m := false) (base := 0) (Env.ok_cons c32_ok (Env.ok_cons c34_ok (Env.ok_cons c36_ok (Env.ok_cons c37_ok (Env.ok_cons c38_ok Env.ok_nil))))) G_ok mix 400 6 Try.func4 (by kernel_rfl) rfl (by kernel_rfl) (by kernel_rfl) rfl ?_
  simp [Try.f4]
  have h_l : l.length ≤ maxLen := wl.1
  repeat' (first | omega | assumption | refine And.intro ?_ ?_ | intro _)
  all_goals first | omega | grind | (split at * <;> omega)
theorem law4_pc (D0 : D) (h0 : Sh G 9 22 D0) (D1 : D) (h1 : Sh G 9 3 D1) : PC Try.prog 4 [D0, D1] (dB true) [] := by
  obtain ⟨l, rfl, wl⟩ := sh22 (n := 6) h0
  obtain ⟨q, rfl, wq⟩ := sh3 (n := 8) h1
  exact law4 l wl q wq

end Go.Proofs.Ytnnieeojfdjcoaa
