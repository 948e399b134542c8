/- Contracts of the functions that the laws run. -/
import Derived.Test.Ytadipfpojlceeaach03
import Derived.Test.YtadipfpojlceeaaEngB
namespace Go.Proofs.Ytadipfpojlceeaa
open Go Go.Eng
set_option linter.unusedSimpArgs false
set_option linter.unusedVariables false
set_option maxRecDepth 10000
set_option maxHeartbeats 1000000
/-- loop.example/g03007/laws.toMark -/
noncomputable def c201 : Con := mkCon 201 false (α := TMark) (fun x => (fun (a : TMark) => [encTMark a]) x) (fun _ => []) (fun x => (fun (a : TMark) => True) x) (fun x => (fun (a : TMark) => (encTMark a : D)) x) (fun x => (fun (a : TMark) => []) x)
@[simp] theorem c201_f : c201.f = 201 := rfl
@[simp] theorem c201_own : c201.own = false := rfl
theorem c201_inj : ∀ u_ v_ : TMark, ((fun x => (fun (a : TMark) => [encTMark a]) x) u_).map nz = ((fun x => (fun (a : TMark) => [encTMark a]) x) v_).map nz → u_ = v_ := by
  intro u_ v_ h
  obtain ⟨a_Question, a_Answer⟩ := u_
  obtain ⟨a_Question', a_Answer'⟩ := v_
  simp [nz_lit, nz1_lit, nz_agg, nz_sl, nz1_sl, encTMark] at h
  first | (simp [h]; done) | (obtain ⟨⟩ := h; simp_all; done) | simp_all
@[simp] theorem c201_fn (a_Question : Int) (a_Answer : Int) : c201.fn [.agg [.lit (.int .i64 a_Question), .lit (.int .i64 a_Answer)]] [] = some ((fun (a : TMark) => True) ⟨a_Question, a_Answer⟩, (fun (a : TMark) => (encTMark a : D)) ⟨a_Question, a_Answer⟩, (fun (a : TMark) => []) ⟨a_Question, a_Answer⟩) :=
  mkCon_fn (fun x y h _ => c201_inj x y h) (⟨a_Question, a_Answer⟩ : TMark) (by simp [nz, nz1, ML_nil, encTMark]) rfl
theorem c201_pc (a : TMark) : PCo Try.prog 201 [encTMark a] (Tab.of []) (encTMark a) (Tab.of []) := by
  obtain ⟨a_Question, a_Answer⟩ := a
  refine pco_of_run [] (E := ⟨[], []⟩) (m := false) (base := 0) Env.ok_nil G_ok mix 300 6 Try.func201 (by kernel_rfl) rfl (by kernel_rfl) (by kernel_rfl) rfl ?_
  simp [Try.f201]
  all_goals first | omega | (rw [Bool.eq_iff_iff]; simp; omega) | grind
theorem c201_ok : c201.ok Try.prog := mkCon_ok fun a hpre => c201_pc a
/-- loop.example/g03007/laws.eqMark -/
noncomputable def c204 : Con := mkCon 204 false (α := TMark × TMark) (fun x => (fun (a : TMark) (b : TMark) => [encTMark a, encTMark b]) x.1 x.2) (fun _ => []) (fun x => (fun (a : TMark) (b : TMark) => True) x.1 x.2) (fun x => (fun (a : TMark) (b : TMark) => (dB (decide (a = b)) : D)) x.1 x.2) (fun x => (fun (a : TMark) (b : TMark) => []) x.1 x.2)
@[simp] theorem c204_f : c204.f = 204 := rfl
@[simp] theorem c204_own : c204.own = false := rfl
theorem c204_inj : ∀ u_ v_ : TMark × TMark, ((fun x => (fun (a : TMark) (b : TMark) => [encTMark a, encTMark b]) x.1 x.2) u_).map nz = ((fun x => (fun (a : TMark) (b : TMark) => [encTMark a, encTMark b]) x.1 x.2) v_).map nz → u_ = v_ := by
  intro u_ v_ h
  obtain ⟨⟨a_Question, a_Answer⟩, ⟨b_Question, b_Answer⟩⟩ := u_
  obtain ⟨⟨a_Question', a_Answer'⟩, ⟨b_Question', b_Answer'⟩⟩ := v_
  simp [nz_lit, nz1_lit, nz_agg, nz_sl, nz1_sl, encTMark] at h
  first | (simp [h]; done) | (obtain ⟨⟩ := h; simp_all; done) | simp_all
@[simp] theorem c204_fn (a_Question : Int) (a_Answer : Int) (b_Question : Int) (b_Answer : Int) : c204.fn [.agg [.lit (.int .i64 a_Question), .lit (.int .i64 a_Answer)], .agg [.lit (.int .i64 b_Question), .lit (.int .i64 b_Answer)]] [] = some ((fun (a : TMark) (b : TMark) => True) ⟨a_Question, a_Answer⟩ ⟨b_Question, b_Answer⟩, (fun (a : TMark) (b : TMark) => (dB (decide (a = b)) : D)) ⟨a_Question, a_Answer⟩ ⟨b_Question, b_Answer⟩, (fun (a : TMark) (b : TMark) => []) ⟨a_Question, a_Answer⟩ ⟨b_Question, b_Answer⟩) :=
  mkCon_fn (fun x y h _ => c204_inj x y h) ((⟨a_Question, a_Answer⟩, ⟨b_Question, b_Answer⟩) : TMark × TMark) (by simp [nz, nz1, ML_nil, encTMark]) rfl
theorem c204_pc (a : TMark) (b : TMark) : PCo Try.prog 204 [encTMark a, encTMark b] (Tab.of []) (dB (decide (a = b))) (Tab.of []) := by
  obtain ⟨a_Question, a_Answer⟩ := a
  obtain ⟨b_Question, b_Answer⟩ := b
  refine pco_of_run [] (E := ⟨[], []⟩) (m := false) (base := 0) Env.ok_nil G_ok mix 300 6 Try.func204 (by kernel_rfl) rfl (by kernel_rfl) (by kernel_rfl) rfl ?_
  simp [Try.f204]
  all_goals first | omega | (rw [Bool.eq_iff_iff]; simp; omega) | grind
theorem c204_ok : c204.ok Try.prog := mkCon_ok fun ⟨a, b⟩ hpre => c204_pc a b
/-- loop.example/g03007/laws.szMarkS -/
noncomputable def c159 : Con := mkCon 159 false (α := (List TMark) × Int) (fun x => (fun (l : List TMark) (left : Int) => [encLTMark l, dI left]) x.1 x.2) (fun _ => []) (fun x => (fun (l : List TMark) (left : Int) => l.length ≤ maxLen ∧ 0 ≤ left ∧ left ≤ 1099511627776) x.1 x.2) (fun x => (fun (l : List TMark) (left : Int) => (dI (if left - l.length < 0 then -1 else left - l.length) : D)) x.1 x.2) (fun x => (fun (l : List TMark) (left : Int) => []) x.1 x.2)
@[simp] theorem c159_f : c159.f = 159 := rfl
@[simp] theorem c159_own : c159.own = false := rfl
theorem c159_inj : ∀ u_ v_ : (List TMark) × Int, ((fun x => (fun (l : List TMark) (left : Int) => [encLTMark l, dI left]) x.1 x.2) u_).map nz = ((fun x => (fun (l : List TMark) (left : Int) => [encLTMark l, dI left]) x.1 x.2) v_).map nz → u_ = v_ := by
  intro u_ v_ h
  obtain ⟨l, left⟩ := u_
  obtain ⟨l', left'⟩ := v_
  simp [nz_lit, nz1_lit, nz_agg, nz_sl, nz1_sl, encLTMark] at h
  first | (simp [h]; done) | (obtain ⟨⟩ := h; simp_all; done) | simp_all
@[simp] theorem c159_fn (l : List TMark) (left : Int) : c159.fn [.sl false 2 yTMark (ML encTMark l), .lit (.int .i64 left)] [] = some ((fun (l : List TMark) (left : Int) => l.length ≤ maxLen ∧ 0 ≤ left ∧ left ≤ 1099511627776) l left, (fun (l : List TMark) (left : Int) => (dI (if left - l.length < 0 then -1 else left - l.length) : D)) l left, (fun (l : List TMark) (left : Int) => []) l left) :=
  mkCon_fn (fun x y h _ => c159_inj x y h) ((l, left) : (List TMark) × Int) (by simp [nz, nz1, ML_nil, encLTMark]) rfl
@[simp] theorem c159_fn1 (s_l : Nat) (z_l : D) (left : Int) : c159.fn [.sl false s_l z_l [], .lit (.int .i64 left)] [] = some ((fun (l : List TMark) (left : Int) => l.length ≤ maxLen ∧ 0 ≤ left ∧ left ≤ 1099511627776) [] left, (fun (l : List TMark) (left : Int) => (dI (if left - l.length < 0 then -1 else left - l.length) : D)) [] left, (fun (l : List TMark) (left : Int) => []) [] left) :=
  mkCon_fn (fun x y h _ => c159_inj x y h) (([], left) : (List TMark) × Int) (by simp [nz, nz1, ML_nil, encLTMark]) rfl
theorem c159_pc (l : List TMark) (left : Int) (hpre : l.length ≤ maxLen ∧ 0 ≤ left ∧ left ≤ 1099511627776) : PCo Try.prog 159 [encLTMark l, dI left] (Tab.of []) (dI (if left - l.length < 0 then -1 else left - l.length)) (Tab.of []) := by
  refine pco_of_run [] (E := ⟨[], []⟩) (m := false) (base := 0) Env.ok_nil G_ok mix 300 6 Try.func159 (by kernel_rfl) rfl (by kernel_rfl) (by kernel_rfl) rfl ?_
  simp [Try.f159]
  simp [maxLen] at hpre
  all_goals omega
theorem c159_ok : c159.ok Try.prog := mkCon_ok fun ⟨l, left⟩ hpre => c159_pc l left hpre
/-- loop.example/g03007/laws.toMarkS -/
noncomputable def c161 : Con := mkCon 161 false (α := (List TMark)) (fun x => (fun (l : List TMark) => [encLTMark l]) x) (fun _ => []) (fun x => (fun (l : List TMark) => l.length ≤ 1099511627776) x) (fun x => (fun (l : List TMark) => (encLTMark l : D)) x) (fun x => (fun (l : List TMark) => []) x)
@[simp] theorem c161_f : c161.f = 161 := rfl
@[simp] theorem c161_own : c161.own = false := rfl
theorem c161_inj : ∀ u_ v_ : (List TMark), ((fun x => (fun (l : List TMark) => [encLTMark l]) x) u_).map nz = ((fun x => (fun (l : List TMark) => [encLTMark l]) x) v_).map nz → u_ = v_ := by
  intro u_ v_ h
  obtain l := u_
  obtain l' := v_
  simp [nz_lit, nz1_lit, nz_agg, nz_sl, nz1_sl, encLTMark] at h
  first | (simp [h]; done) | (obtain ⟨⟩ := h; simp_all; done) | simp_all
@[simp] theorem c161_fn (l : List TMark) : c161.fn [.sl false 2 yTMark (ML encTMark l)] [] = some ((fun (l : List TMark) => l.length ≤ 1099511627776) l, (fun (l : List TMark) => (encLTMark l : D)) l, (fun (l : List TMark) => []) l) :=
  mkCon_fn (fun x y h _ => c161_inj x y h) (l : (List TMark)) (by simp [nz, nz1, ML_nil, encLTMark]) rfl
@[simp] theorem c161_fn1 (s_l : Nat) (z_l : D) : c161.fn [.sl false s_l z_l []] [] = some ((fun (l : List TMark) => l.length ≤ 1099511627776) [], (fun (l : List TMark) => (encLTMark l : D)) [], (fun (l : List TMark) => []) []) :=
  mkCon_fn (fun x y h _ => c161_inj x y h) ([] : (List TMark)) (by simp [nz, nz1, ML_nil, encLTMark]) rfl
theorem c161_pc (l : List TMark) (hpre : l.length ≤ 1099511627776) : PCo Try.prog 161 [encLTMark l] (Tab.of []) (encLTMark l) (Tab.of []) := by
  refine pco_of_run [] (E := ⟨[c201], []⟩) (m := false) (base := 0) (Env.ok_cons c201_ok Env.ok_nil) G_ok mix 300 6 Try.func161 (by kernel_rfl) rfl (by kernel_rfl) (by kernel_rfl) rfl ?_
  simp [Try.f161]
  refine ⟨by omega, ?_⟩
  refine loop_inv (fun p : Nat => p ≤ l.length) (fun p => [(0, encLTMark l), (3, .own (0, 1) 2 0 l.length), (4, dI p)]) (fun p => [((0, 1), .arr false 2 yTMark (ML encTMark (l.take p ++ List.replicate (l.length - p) ⟨0, 0⟩)))]) 2 (fun p => l.length - p) 0 100 (by simp) (by simp) (by first | (simp; done) | (simp; simp only [ML, List.map_replicate]; rfl)) ?_
  intro p hp
  simp
  refine ⟨fun hlt => ⟨by omega, by omega, Again.mk (p + 1) (by omega) (by simp [fill_step hlt]) (by first | omega | (simp; omega))⟩, fun hge => ?_⟩
  have : p = l.length := by omega
  subst this
  simp
theorem c161_ok : c161.ok Try.prog := mkCon_ok fun l hpre => c161_pc l hpre
/-- loop.example/g03007/laws.eqMarkS -/
noncomputable def c163 : Con := mkCon 163 false (α := (List TMark) × (List TMark)) (fun x => (fun (a : List TMark) (b : List TMark) => [encLTMark a, encLTMark b]) x.1 x.2) (fun _ => []) (fun x => (fun (a : List TMark) (b : List TMark) => a.length ≤ 1099511627776 ∧ b.length ≤ 1099511627776) x.1 x.2) (fun x => (fun (a : List TMark) (b : List TMark) => (dB (decide (a = b)) : D)) x.1 x.2) (fun x => (fun (a : List TMark) (b : List TMark) => []) x.1 x.2)
@[simp] theorem c163_f : c163.f = 163 := rfl
@[simp] theorem c163_own : c163.own = false := rfl
theorem c163_inj : ∀ u_ v_ : (List TMark) × (List TMark), ((fun x => (fun (a : List TMark) (b : List TMark) => [encLTMark a, encLTMark b]) x.1 x.2) u_).map nz = ((fun x => (fun (a : List TMark) (b : List TMark) => [encLTMark a, encLTMark b]) x.1 x.2) v_).map nz → u_ = v_ := by
  intro u_ v_ h
  obtain ⟨a, b⟩ := u_
  obtain ⟨a', b'⟩ := v_
  simp [nz_lit, nz1_lit, nz_agg, nz_sl, nz1_sl, encLTMark] at h
  first | (simp [h]; done) | (obtain ⟨⟩ := h; simp_all; done) | simp_all
@[simp] theorem c163_fn (a : List TMark) (b : List TMark) : c163.fn [.sl false 2 yTMark (ML encTMark a), .sl false 2 yTMark (ML encTMark b)] [] = some ((fun (a : List TMark) (b : List TMark) => a.length ≤ 1099511627776 ∧ b.length ≤ 1099511627776) a b, (fun (a : List TMark) (b : List TMark) => (dB (decide (a = b)) : D)) a b, (fun (a : List TMark) (b : List TMark) => []) a b) :=
  mkCon_fn (fun x y h _ => c163_inj x y h) ((a, b) : (List TMark) × (List TMark)) (by simp [nz, nz1, ML_nil, encLTMark]) rfl
@[simp] theorem c163_fn1 (s_a : Nat) (z_a : D) (b : List TMark) : c163.fn [.sl false s_a z_a [], .sl false 2 yTMark (ML encTMark b)] [] = some ((fun (a : List TMark) (b : List TMark) => a.length ≤ 1099511627776 ∧ b.length ≤ 1099511627776) [] b, (fun (a : List TMark) (b : List TMark) => (dB (decide (a = b)) : D)) [] b, (fun (a : List TMark) (b : List TMark) => []) [] b) :=
  mkCon_fn (fun x y h _ => c163_inj x y h) (([], b) : (List TMark) × (List TMark)) (by simp [nz, nz1, ML_nil, encLTMark]) rfl
@[simp] theorem c163_fn2 (a : List TMark) (s_b : Nat) (z_b : D) : c163.fn [.sl false 2 yTMark (ML encTMark a), .sl false s_b z_b []] [] = some ((fun (a : List TMark) (b : List TMark) => a.length ≤ 1099511627776 ∧ b.length ≤ 1099511627776) a [], (fun (a : List TMark) (b : List TMark) => (dB (decide (a = b)) : D)) a [], (fun (a : List TMark) (b : List TMark) => []) a []) :=
  mkCon_fn (fun x y h _ => c163_inj x y h) ((a, []) : (List TMark) × (List TMark)) (by simp [nz, nz1, ML_nil, encLTMark]) rfl
@[simp] theorem c163_fn3 (s_a : Nat) (z_a : D) (s_b : Nat) (z_b : D) : c163.fn [.sl false s_a z_a [], .sl false s_b z_b []] [] = some ((fun (a : List TMark) (b : List TMark) => a.length ≤ 1099511627776 ∧ b.length ≤ 1099511627776) [] [], (fun (a : List TMark) (b : List TMark) => (dB (decide (a = b)) : D)) [] [], (fun (a : List TMark) (b : List TMark) => []) [] []) :=
  mkCon_fn (fun x y h _ => c163_inj x y h) (([], []) : (List TMark) × (List TMark)) (by simp [nz, nz1, ML_nil, encLTMark]) rfl
theorem c163_pc (a : List TMark) (b : List TMark) (hpre : a.length ≤ 1099511627776 ∧ b.length ≤ 1099511627776) : PCo Try.prog 163 [encLTMark a, encLTMark b] (Tab.of []) (dB (decide (a = b))) (Tab.of []) := by
  refine pco_of_run [] (E := ⟨[c204], []⟩) (m := false) (base := 0) (Env.ok_cons c204_ok Env.ok_nil) G_ok mix 300 6 Try.func163 (by kernel_rfl) rfl (by kernel_rfl) (by kernel_rfl) rfl ?_
  simp [Try.f163]
  obtain ⟨pre1, pre2⟩ := hpre
  refine ⟨fun h => ?_, fun h => by intro e; subst e; exact absurd rfl h⟩
  refine loop_inv (fun p : Nat => p ≤ a.length ∧ a.take p = b.take p) (fun p => [(0, encLTMark a), (1, encLTMark b), (5, dI p)]) (fun _ => []) 1 (fun p => a.length - p) 0 100 (by simp) (by simp) (by simp) ?_
  intro p ⟨hp, hi⟩
  simp
  refine ⟨fun hlt => ⟨by omega, fun h2 => ⟨by omega, Again.mk (p + 1) ⟨by omega, take_eq_step hi (by omega) (by omega) h2⟩ (by simp) (by first | omega | (simp; omega))⟩, fun h2 => by intro e; subst e; exact absurd rfl h2⟩, fun hge => ?_⟩
  exact take_eq_full hi (by omega) (by omega)
theorem c163_ok : c163.ok Try.prog := mkCon_ok fun ⟨a, b⟩ hpre => c163_pc a b hpre
def mIsMark (m : TMark) : Bool := mIn m.Question 1 20 && mIn m.Answer 0 99
@[simp] def nMark (m : TMark) : Int := m.Question
/-- loop.example/g03007/impl.isMark -/
noncomputable def c222 : Con := mkCon 222 false (α := TMark) (fun x => (fun (m : TMark) => [encTMark m]) x) (fun _ => []) (fun x => (fun (m : TMark) => True) x) (fun x => (fun (m : TMark) => (dB (mIsMark m) : D)) x) (fun x => (fun (m : TMark) => []) x)
@[simp] theorem c222_f : c222.f = 222 := rfl
@[simp] theorem c222_own : c222.own = false := rfl
theorem c222_inj : ∀ u_ v_ : TMark, ((fun x => (fun (m : TMark) => [encTMark m]) x) u_).map nz = ((fun x => (fun (m : TMark) => [encTMark m]) x) v_).map nz → u_ = v_ := by
  intro u_ v_ h
  obtain ⟨m_Question, m_Answer⟩ := u_
  obtain ⟨m_Question', m_Answer'⟩ := v_
  simp [nz_lit, nz1_lit, nz_agg, nz_sl, nz1_sl, encTMark] at h
  first | (simp [h]; done) | (obtain ⟨⟩ := h; simp_all; done) | simp_all
@[simp] theorem c222_fn (m_Question : Int) (m_Answer : Int) : c222.fn [.agg [.lit (.int .i64 m_Question), .lit (.int .i64 m_Answer)]] [] = some ((fun (m : TMark) => True) ⟨m_Question, m_Answer⟩, (fun (m : TMark) => (dB (mIsMark m) : D)) ⟨m_Question, m_Answer⟩, (fun (m : TMark) => []) ⟨m_Question, m_Answer⟩) :=
  mkCon_fn (fun x y h _ => c222_inj x y h) (⟨m_Question, m_Answer⟩ : TMark) (by simp [nz, nz1, ML_nil, encTMark]) rfl
theorem c222_pc (m : TMark) : PCo Try.prog 222 [encTMark m] (Tab.of []) (dB (mIsMark m)) (Tab.of []) := by
  obtain ⟨m_Question, m_Answer⟩ := m
  refine pco_of_run [1] (E := ⟨[c174], []⟩) (m := false) (base := 0) (Env.ok_cons c174_ok Env.ok_nil) G_ok mix 300 6 Try.func222 (by kernel_rfl) rfl (by kernel_rfl) (by kernel_rfl) rfl ?_
  simp [Try.f222]
  rw [Bool.eq_iff_iff]
  simp [mIsMark, mIn]
  omega
theorem c222_ok : c222.ok Try.prog := mkCon_ok fun m hpre => c222_pc m
def mAreMarks (l : List TMark) : Bool := decide (l.length ≤ 8) && ascBy mIsMark nMark none l
/-- loop.example/g03007/spec.AreMarks -/
noncomputable def c199 : Con := mkCon 199 false (α := (List TMark)) (fun x => (fun (l : List TMark) => [encLTMark l]) x) (fun _ => []) (fun x => (fun (l : List TMark) => l.length ≤ 1099511627776) x) (fun x => (fun (l : List TMark) => (dB (mAreMarks l) : D)) x) (fun x => (fun (l : List TMark) => []) x)
@[simp] theorem c199_f : c199.f = 199 := rfl
@[simp] theorem c199_own : c199.own = false := rfl
theorem c199_inj : ∀ u_ v_ : (List TMark), ((fun x => (fun (l : List TMark) => [encLTMark l]) x) u_).map nz = ((fun x => (fun (l : List TMark) => [encLTMark l]) x) v_).map nz → u_ = v_ := by
  intro u_ v_ h
  obtain l := u_
  obtain l' := v_
  simp [nz_lit, nz1_lit, nz_agg, nz_sl, nz1_sl, encLTMark] at h
  first | (simp [h]; done) | (obtain ⟨⟩ := h; simp_all; done) | simp_all
@[simp] theorem c199_fn (l : List TMark) : c199.fn [.sl false 2 yTMark (ML encTMark l)] [] = some ((fun (l : List TMark) => l.length ≤ 1099511627776) l, (fun (l : List TMark) => (dB (mAreMarks l) : D)) l, (fun (l : List TMark) => []) l) :=
  mkCon_fn (fun x y h _ => c199_inj x y h) (l : (List TMark)) (by simp [nz, nz1, ML_nil, encLTMark]) rfl
@[simp] theorem c199_fn1 (s_l : Nat) (z_l : D) : c199.fn [.sl false s_l z_l []] [] = some ((fun (l : List TMark) => l.length ≤ 1099511627776) [], (fun (l : List TMark) => (dB (mAreMarks l) : D)) [], (fun (l : List TMark) => []) []) :=
  mkCon_fn (fun x y h _ => c199_inj x y h) ([] : (List TMark)) (by simp [nz, nz1, ML_nil, encLTMark]) rfl
theorem c199_pc (l : List TMark) (hpre : l.length ≤ 1099511627776) : PCo Try.prog 199 [encLTMark l] (Tab.of []) (dB (mAreMarks l)) (Tab.of []) := by
  refine pco_of_run [] (E := ⟨[c121], []⟩) (m := false) (base := 0) (Env.ok_cons c121_ok Env.ok_nil) G_ok mix 300 6 Try.func199 (by kernel_rfl) rfl (by kernel_rfl) (by kernel_rfl) rfl ?_
  simp [Try.f199]
  refine loop_inv (fun p : Nat => p ≤ l.length ∧ ascBy mIsMark nMark none l = ascBy mIsMark nMark (prevO nMark l p) (l.drop p)) (fun p => [(0, encLTMark l), (2, dB false), (3, dI p)]) (fun _ => []) 1 (fun p => l.length - p) 0 400 (by simp) (by simp) (by simp) ?_
  intro p ⟨hp, hi⟩
  simp
  refine ⟨fun hlt => ?_, fun hge => ?_⟩
  · rw [ascBy_at hlt] at hi; simp only [nMark, mIsMark] at hi
    repeat' (first | omega | refine And.intro ?_ ?_ | intro _)
    all_goals first | exact Again.mk (p + 1) ⟨by omega, by rw [hi]; grind⟩ (by simp) (by first | omega | (simp; omega)) | (rw [mAreMarks, hi]; grind)
  · rw [mAreMarks, hi, ascBy_end hge]; simp; omega
theorem c199_ok : c199.ok Try.prog := mkCon_ok fun l hpre => c199_pc l hpre
/-- loop.example/g03007/impl.marksInOrder -/
noncomputable def c220 : Con := mkCon 220 false (α := (List TMark)) (fun x => (fun (l : List TMark) => [encLTMark l]) x) (fun _ => []) (fun x => (fun (l : List TMark) => True) x) (fun x => (fun (l : List TMark) => (.agg [.sl false 2 yTMark (ML encTMark l), .fn (.func 228) [] []] : D)) x) (fun x => (fun (l : List TMark) => []) x)
@[simp] theorem c220_f : c220.f = 220 := rfl
@[simp] theorem c220_own : c220.own = false := rfl
theorem c220_inj : ∀ u_ v_ : (List TMark), ((fun x => (fun (l : List TMark) => [encLTMark l]) x) u_).map nz = ((fun x => (fun (l : List TMark) => [encLTMark l]) x) v_).map nz → u_ = v_ := by
  intro u_ v_ h
  obtain l := u_
  obtain l' := v_
  simp [nz_lit, nz1_lit, nz_agg, nz_sl, nz1_sl, encLTMark] at h
  first | (simp [h]; done) | (obtain ⟨⟩ := h; simp_all; done) | simp_all
@[simp] theorem c220_fn (l : List TMark) : c220.fn [.sl false 2 yTMark (ML encTMark l)] [] = some ((fun (l : List TMark) => True) l, (fun (l : List TMark) => (.agg [.sl false 2 yTMark (ML encTMark l), .fn (.func 228) [] []] : D)) l, (fun (l : List TMark) => []) l) :=
  mkCon_fn (fun x y h _ => c220_inj x y h) (l : (List TMark)) (by simp [nz, nz1, ML_nil, encLTMark]) rfl
@[simp] theorem c220_fn1 (s_l : Nat) (z_l : D) : c220.fn [.sl false s_l z_l []] [] = some ((fun (l : List TMark) => True) [], (fun (l : List TMark) => (.agg [.sl false 2 yTMark (ML encTMark l), .fn (.func 228) [] []] : D)) [], (fun (l : List TMark) => []) []) :=
  mkCon_fn (fun x y h _ => c220_inj x y h) ([] : (List TMark)) (by simp [nz, nz1, ML_nil, encLTMark]) rfl
theorem c220_pc (l : List TMark) : PCo Try.prog 220 [encLTMark l] (Tab.of []) (.agg [.sl false 2 yTMark (ML encTMark l), .fn (.func 228) [] []]) (Tab.of []) := by
  refine pco_of_run [] (E := ⟨[], []⟩) (m := false) (base := 0) Env.ok_nil G_ok mix 300 6 Try.func220 (by kernel_rfl) rfl (by kernel_rfl) (by kernel_rfl) rfl ?_
  simp [Try.f220]
  all_goals first | omega | (rw [Bool.eq_iff_iff]; simp; omega) | grind
theorem c220_ok : c220.ok Try.prog := mkCon_ok fun l hpre => c220_pc l
/-- loop.example/g03007/impl.marksInOrder$1 -/
noncomputable def c228 : Con := mkCon 228 false (α := TMark) (fun x => (fun (x : TMark) => [encTMark x]) x) (fun _ => []) (fun x => (fun (x : TMark) => True) x) (fun x => (fun (x : TMark) => (dI (nMark x) : D)) x) (fun x => (fun (x : TMark) => []) x)
@[simp] theorem c228_f : c228.f = 228 := rfl
@[simp] theorem c228_own : c228.own = false := rfl
theorem c228_inj : ∀ u_ v_ : TMark, ((fun x => (fun (x : TMark) => [encTMark x]) x) u_).map nz = ((fun x => (fun (x : TMark) => [encTMark x]) x) v_).map nz → u_ = v_ := by
  intro u_ v_ h
  obtain ⟨x_Question, x_Answer⟩ := u_
  obtain ⟨x_Question', x_Answer'⟩ := v_
  simp [nz_lit, nz1_lit, nz_agg, nz_sl, nz1_sl, encTMark] at h
  first | (simp [h]; done) | (obtain ⟨⟩ := h; simp_all; done) | simp_all
@[simp] theorem c228_fn (x_Question : Int) (x_Answer : Int) : c228.fn [.agg [.lit (.int .i64 x_Question), .lit (.int .i64 x_Answer)]] [] = some ((fun (x : TMark) => True) ⟨x_Question, x_Answer⟩, (fun (x : TMark) => (dI (nMark x) : D)) ⟨x_Question, x_Answer⟩, (fun (x : TMark) => []) ⟨x_Question, x_Answer⟩) :=
  mkCon_fn (fun x y h _ => c228_inj x y h) (⟨x_Question, x_Answer⟩ : TMark) (by simp [nz, nz1, ML_nil, encTMark]) rfl
theorem c228_pc (x : TMark) : PCo Try.prog 228 [encTMark x] (Tab.of []) (dI (nMark x)) (Tab.of []) := by
  obtain ⟨x_Question, x_Answer⟩ := x
  refine pco_of_run [] (E := ⟨[], []⟩) (m := false) (base := 0) Env.ok_nil G_ok mix 300 6 Try.func228 (by kernel_rfl) rfl (by kernel_rfl) (by kernel_rfl) rfl ?_
  simp [Try.f228]
  all_goals first | omega | (rw [Bool.eq_iff_iff]; simp; omega) | grind
theorem c228_ok : c228.ok Try.prog := mkCon_ok fun x hpre => c228_pc x
/-- (loop.example/g03007/impl.sortedList[loop.example/g03007/impl.Mark]).isValid -/
noncomputable def c221 : Con := mkCon 221 false (α := (List TMark) × Int) (fun x => (fun (l : List TMark) (lim : Int) => ([.agg [.sl false 2 yTMark (ML encTMark l), .fn (.func 228) [] []], dI lim, .fn (.func 222) [] []] : List D)) x.1 x.2) (fun x => (fun (l : List TMark) (lim : Int) => ([] : List (Nm × OO))) x.1 x.2) (fun x => (fun (l : List TMark) (lim : Int) => l.length ≤ 1099511627776) x.1 x.2) (fun x => (fun (l : List TMark) (lim : Int) => (dB (decide (l.length ≤ lim) && ascBy mIsMark nMark none l) : D)) x.1 x.2) (fun x => (fun (l : List TMark) (lim : Int) => ([] : List (Nm × OO))) x.1 x.2)
@[simp] theorem c221_f : c221.f = 221 := rfl
@[simp] theorem c221_own : c221.own = false := rfl
theorem c221_inj : ∀ u_ v_ : (List TMark) × Int, ((fun x => (fun (l : List TMark) (lim : Int) => ([.agg [.sl false 2 yTMark (ML encTMark l), .fn (.func 228) [] []], dI lim, .fn (.func 222) [] []] : List D)) x.1 x.2) u_).map nz = ((fun x => (fun (l : List TMark) (lim : Int) => ([.agg [.sl false 2 yTMark (ML encTMark l), .fn (.func 228) [] []], dI lim, .fn (.func 222) [] []] : List D)) x.1 x.2) v_).map nz → (fun x => (fun (l : List TMark) (lim : Int) => ([] : List (Nm × OO))) x.1 x.2) u_ = (fun x => (fun (l : List TMark) (lim : Int) => ([] : List (Nm × OO))) x.1 x.2) v_ → u_ = v_ := by
  intro u_ v_ h h2_
  obtain ⟨l, lim⟩ := u_
  obtain ⟨l', lim'⟩ := v_
  simp [nz_lit, nz1_lit, nz_agg, nz_sl, nz1_sl, nz_sx, nz_el, nz1_el, nz_own, nz1_own, nz_ptr, nz_fn, nz_iface] at h h2_
  first | (simp [h, h2_]; done) | simp_all | grind
@[simp] theorem c221_fn (l : List TMark) (lim : Int) : c221.fn ([.agg [.sl false 2 yTMark (ML encTMark l), .fn (.func 228) [] []], dI lim, .fn (.func 222) [] []]) ([]) = some (l.length ≤ 1099511627776, dB (decide (l.length ≤ lim) && ascBy mIsMark nMark none l), []) :=
  mkCon_fn c221_inj ((l, lim) : (List TMark) × Int) rfl rfl
theorem c221_pc (l : List TMark) (lim : Int) (hpre : l.length ≤ 1099511627776) : PCo Try.prog 221 ([.agg [.sl false 2 yTMark (ML encTMark l), .fn (.func 228) [] []], dI lim, .fn (.func 222) [] []]) (Tab.of ([])) (dB (decide (l.length ≤ lim) && ascBy mIsMark nMark none l)) (Tab.of ([])) := by
  refine pco_of_run [6] (E := ⟨[c228, c222], []⟩) (m := false) (base := 0) (Env.ok_cons c228_ok (Env.ok_cons c222_ok Env.ok_nil)) G_ok mix 300 6 Try.func221 (by kernel_rfl) rfl (by kernel_rfl) (by kernel_rfl) rfl ?_
  simp [Try.f221]
  refine ⟨fun h h2 => by omega, fun hlim => ?_⟩
  refine loop_inv (fun p : Nat => p ≤ l.length ∧ ascBy mIsMark nMark none l = ascBy mIsMark nMark (prevO nMark l p) (l.drop p)) (fun p => [(2, .fn (.func 222) [] []), (3, .ptr (0, 1) 0), (6, dB false), (15, .sl false 2 yTMark (ML encTMark l)), (16, dI l.length), (17, dI p)]) (fun _ => [((0, 1), .box (.agg [.sl false 2 yTMark (ML encTMark l), .fn (.func 228) [] []]))]) 2 (fun p => l.length - p) 0 400 (by simp) (by simp) (by simp) ?_
  intro p ⟨hp, hi⟩
  simp
  refine ⟨fun hlt => ?_, fun hge => ?_⟩
  · rw [ascBy_at hlt] at hi; simp only [nMark, wantN] at hi
    repeat' (first | omega | refine And.intro ?_ ?_ | intro _)
    all_goals first | exact Again.mk (p + 1) ⟨by omega, by rw [hi]; grind⟩ (by simp) (by first | omega | (simp; omega)) | (rw [hi]; grind)
  · rw [hi, ascBy_end hge]; simp; omega
theorem c221_ok : c221.ok Try.prog := mkCon_ok fun ⟨l, lim⟩ hpre => c221_pc l lim hpre
/-- loop.example/g03007/impl.AreMarks -/
noncomputable def c202 : Con := mkCon 202 false (α := (List TMark)) (fun x => (fun (l : List TMark) => [encLTMark l]) x) (fun _ => []) (fun x => (fun (l : List TMark) => l.length ≤ 1099511627776) x) (fun x => (fun (l : List TMark) => (dB (mAreMarks l) : D)) x) (fun x => (fun (l : List TMark) => []) x)
@[simp] theorem c202_f : c202.f = 202 := rfl
@[simp] theorem c202_own : c202.own = false := rfl
theorem c202_inj : ∀ u_ v_ : (List TMark), ((fun x => (fun (l : List TMark) => [encLTMark l]) x) u_).map nz = ((fun x => (fun (l : List TMark) => [encLTMark l]) x) v_).map nz → u_ = v_ := by
  intro u_ v_ h
  obtain l := u_
  obtain l' := v_
  simp [nz_lit, nz1_lit, nz_agg, nz_sl, nz1_sl, encLTMark] at h
  first | (simp [h]; done) | (obtain ⟨⟩ := h; simp_all; done) | simp_all
@[simp] theorem c202_fn (l : List TMark) : c202.fn [.sl false 2 yTMark (ML encTMark l)] [] = some ((fun (l : List TMark) => l.length ≤ 1099511627776) l, (fun (l : List TMark) => (dB (mAreMarks l) : D)) l, (fun (l : List TMark) => []) l) :=
  mkCon_fn (fun x y h _ => c202_inj x y h) (l : (List TMark)) (by simp [nz, nz1, ML_nil, encLTMark]) rfl
@[simp] theorem c202_fn1 (s_l : Nat) (z_l : D) : c202.fn [.sl false s_l z_l []] [] = some ((fun (l : List TMark) => l.length ≤ 1099511627776) [], (fun (l : List TMark) => (dB (mAreMarks l) : D)) [], (fun (l : List TMark) => []) []) :=
  mkCon_fn (fun x y h _ => c202_inj x y h) ([] : (List TMark)) (by simp [nz, nz1, ML_nil, encLTMark]) rfl
theorem c202_pc (l : List TMark) (hpre : l.length ≤ 1099511627776) : PCo Try.prog 202 [encLTMark l] (Tab.of []) (dB (mAreMarks l)) (Tab.of []) := by
  refine pco_of_run [] (E := ⟨[c220, c221, c222, c222], []⟩) (m := false) (base := 0) (Env.ok_cons c220_ok (Env.ok_cons c221_ok (Env.ok_cons c222_ok (Env.ok_cons c222_ok Env.ok_nil)))) G_ok mix 300 6 Try.func202 (by kernel_rfl) rfl (by kernel_rfl) (by kernel_rfl) rfl ?_
  simp [Try.f202]
  have h : ((l.length : Int) ≤ 8) ↔ l.length ≤ 8 := by omega
  simp [mAreMarks, h, hpre]
theorem c202_ok : c202.ok Try.prog := mkCon_ok fun l hpre => c202_pc l hpre
/-- what the marks' text is sealed of -/
def sealL (salt : Int) : List TMark → List Int
  | [] => [salt]
  | l => salt :: l.flatMap fun m => [m.Question, m.Answer]
def mSealL (salt : Int) (l : List TMark) : List Int := salt :: l.flatMap fun m => [m.Question, m.Answer]
theorem mSealL_at {salt : Int} {l : List TMark} {p : Nat} (h : p < l.length) : mSealL salt (l.take (p + 1)) = mSealL salt (l.take p) ++ [(l[p]?.getD default).Question, (l[p]?.getD default).Answer] := by
  rw [take_at (d := default) h]; simp [mSealL]
theorem mSealL_len (salt : Int) : ∀ (l : List TMark), (mSealL salt l).length = 2 * l.length + 1
  | [] => rfl
  | x :: l => by have := mSealL_len salt l; simp [mSealL] at this ⊢; omega
def mSeal (l : List TMark) (salt : Int) : Int := mHash (mSealL salt l)
/-- loop.example/g03007/spec.SealMarks -/
noncomputable def c200 : Con := mkCon 200 false (α := (List TMark) × Int) (fun x => (fun (l : List TMark) (salt : Int) => [encLTMark l, dI salt]) x.1 x.2) (fun _ => []) (fun x => (fun (l : List TMark) (salt : Int) => l.length ≤ 1073741823) x.1 x.2) (fun x => (fun (l : List TMark) (salt : Int) => (dI (mSeal l salt) : D)) x.1 x.2) (fun x => (fun (l : List TMark) (salt : Int) => []) x.1 x.2)
@[simp] theorem c200_f : c200.f = 200 := rfl
@[simp] theorem c200_own : c200.own = false := rfl
theorem c200_inj : ∀ u_ v_ : (List TMark) × Int, ((fun x => (fun (l : List TMark) (salt : Int) => [encLTMark l, dI salt]) x.1 x.2) u_).map nz = ((fun x => (fun (l : List TMark) (salt : Int) => [encLTMark l, dI salt]) x.1 x.2) v_).map nz → u_ = v_ := by
  intro u_ v_ h
  obtain ⟨l, salt⟩ := u_
  obtain ⟨l', salt'⟩ := v_
  simp [nz_lit, nz1_lit, nz_agg, nz_sl, nz1_sl, encLTMark] at h
  first | (simp [h]; done) | (obtain ⟨⟩ := h; simp_all; done) | simp_all
@[simp] theorem c200_fn (l : List TMark) (salt : Int) : c200.fn [.sl false 2 yTMark (ML encTMark l), .lit (.int .i64 salt)] [] = some ((fun (l : List TMark) (salt : Int) => l.length ≤ 1073741823) l salt, (fun (l : List TMark) (salt : Int) => (dI (mSeal l salt) : D)) l salt, (fun (l : List TMark) (salt : Int) => []) l salt) :=
  mkCon_fn (fun x y h _ => c200_inj x y h) ((l, salt) : (List TMark) × Int) (by simp [nz, nz1, ML_nil, encLTMark]) rfl
@[simp] theorem c200_fn1 (s_l : Nat) (z_l : D) (salt : Int) : c200.fn [.sl false s_l z_l [], .lit (.int .i64 salt)] [] = some ((fun (l : List TMark) (salt : Int) => l.length ≤ 1073741823) [] salt, (fun (l : List TMark) (salt : Int) => (dI (mSeal l salt) : D)) [] salt, (fun (l : List TMark) (salt : Int) => []) [] salt) :=
  mkCon_fn (fun x y h _ => c200_inj x y h) (([], salt) : (List TMark) × Int) (by simp [nz, nz1, ML_nil, encLTMark]) rfl
theorem c200_pc (l : List TMark) (salt : Int) (hpre : l.length ≤ 1073741823) : PCo Try.prog 200 [encLTMark l, dI salt] (Tab.of []) (dI (mSeal l salt)) (Tab.of []) := by
  refine pco_of_run [] (E := ⟨[c114], []⟩) (m := false) (base := 0) (Env.ok_cons c114_ok Env.ok_nil) G_ok mix 300 6 Try.func200 (by kernel_rfl) rfl (by kernel_rfl) (by kernel_rfl) rfl ?_
  simp [Try.f200]
  refine loop_inv (fun p : Nat => p ≤ l.length) (fun p => [(0, encLTMark l), (5, .own (0, 1) 1 0 (2 * p + 1)), (6, dI p)]) (fun p => [((0, 1), .arr false 1 (dI 0) (ML dI (mSealL salt (l.take p))))]) 2 (fun p => l.length - p) 0 400 (by simp) (by simp) (by simp [mSealL]; first | done | rfl) ?_
  intro p hp
  have hl := mSealL_len salt (l.take p)
  have hm : min p l.length = p := by omega
  simp [hl, hm]
  refine ⟨fun hlt => ?_, fun hge => ?_⟩
  · have hs := mSealL_at (salt := salt) hlt
    repeat' (first | omega | refine And.intro ?_ ?_ | intro _)
    exact Again.mk (p + 1) (by omega) (by simp [hs, hl, hm]; exact ⟨by omega, by simp only [ML, List.map_append]; rfl⟩) (by first | omega | (simp; omega))
  · rw [List.take_of_length_le hge]
    refine ⟨by omega, rfl⟩
theorem c200_ok : c200.ok Try.prog := mkCon_ok fun ⟨l, salt⟩ hpre => c200_pc l salt hpre
/-- loop.example/g03007/impl.SealMarks -/
noncomputable def c203 : Con := mkCon 203 false (α := (List TMark) × Int) (fun x => (fun (l : List TMark) (salt : Int) => [encLTMark l, dI salt]) x.1 x.2) (fun _ => []) (fun x => (fun (l : List TMark) (salt : Int) => l.length ≤ 1073741823) x.1 x.2) (fun x => (fun (l : List TMark) (salt : Int) => (dI (mSeal l salt) : D)) x.1 x.2) (fun x => (fun (l : List TMark) (salt : Int) => []) x.1 x.2)
@[simp] theorem c203_f : c203.f = 203 := rfl
@[simp] theorem c203_own : c203.own = false := rfl
theorem c203_inj : ∀ u_ v_ : (List TMark) × Int, ((fun x => (fun (l : List TMark) (salt : Int) => [encLTMark l, dI salt]) x.1 x.2) u_).map nz = ((fun x => (fun (l : List TMark) (salt : Int) => [encLTMark l, dI salt]) x.1 x.2) v_).map nz → u_ = v_ := by
  intro u_ v_ h
  obtain ⟨l, salt⟩ := u_
  obtain ⟨l', salt'⟩ := v_
  simp [nz_lit, nz1_lit, nz_agg, nz_sl, nz1_sl, encLTMark] at h
  first | (simp [h]; done) | (obtain ⟨⟩ := h; simp_all; done) | simp_all
@[simp] theorem c203_fn (l : List TMark) (salt : Int) : c203.fn [.sl false 2 yTMark (ML encTMark l), .lit (.int .i64 salt)] [] = some ((fun (l : List TMark) (salt : Int) => l.length ≤ 1073741823) l salt, (fun (l : List TMark) (salt : Int) => (dI (mSeal l salt) : D)) l salt, (fun (l : List TMark) (salt : Int) => []) l salt) :=
  mkCon_fn (fun x y h _ => c203_inj x y h) ((l, salt) : (List TMark) × Int) (by simp [nz, nz1, ML_nil, encLTMark]) rfl
@[simp] theorem c203_fn1 (s_l : Nat) (z_l : D) (salt : Int) : c203.fn [.sl false s_l z_l [], .lit (.int .i64 salt)] [] = some ((fun (l : List TMark) (salt : Int) => l.length ≤ 1073741823) [] salt, (fun (l : List TMark) (salt : Int) => (dI (mSeal l salt) : D)) [] salt, (fun (l : List TMark) (salt : Int) => []) [] salt) :=
  mkCon_fn (fun x y h _ => c203_inj x y h) (([], salt) : (List TMark) × Int) (by simp [nz, nz1, ML_nil, encLTMark]) rfl
theorem c203_pc (l : List TMark) (salt : Int) (hpre : l.length ≤ 1073741823) : PCo Try.prog 203 [encLTMark l, dI salt] (Tab.of []) (dI (mSeal l salt)) (Tab.of []) := by
  refine pco_of_run [] (E := ⟨[c115], []⟩) (m := false) (base := 0) (Env.ok_cons c115_ok Env.ok_nil) G_ok mix 300 6 Try.func203 (by kernel_rfl) rfl (by kernel_rfl) (by kernel_rfl) rfl ?_
  simp [Try.f203]
  refine loop_inv (fun p : Nat => p ≤ l.length) (fun p => [(5, .own (0, 1) 1 0 (2 * p + 1)), (10, encLTMark l), (11, dI l.length), (12, dI p)]) (fun p => [((0, 1), .arr false 1 (dI 0) (ML dI (mSealL salt (l.take p))))]) 2 (fun p => l.length - p) 0 400 (by simp) (by simp) (by simp [mSealL]; first | done | rfl) ?_
  intro p hp
  have hl := mSealL_len salt (l.take p)
  have hm : min p l.length = p := by omega
  simp [hl, hm]
  refine ⟨fun hlt => ?_, fun hge => ?_⟩
  · have hs := mSealL_at (salt := salt) hlt
    repeat' (first | omega | refine And.intro ?_ ?_ | intro _)
    exact Again.mk (p + 1) (by omega) (by simp [hs, hl, hm]; exact ⟨by omega, by simp only [ML, List.map_append]; rfl⟩) (by first | omega | (simp; omega))
  · rw [List.take_of_length_le hge]
    refine ⟨by omega, rfl⟩
theorem c203_ok : c203.ok Try.prog := mkCon_ok fun ⟨l, salt⟩ hpre => c203_pc l salt hpre
def mOpens (l : List TMark) (salt s : Int) : Bool := mAreMarks l && decide (mSeal l salt = s)
/-- loop.example/g03007/spec.OpensSeal -/
noncomputable def c160 : Con := mkCon 160 false (α := (List TMark) × Int × Int) (fun x => (fun (l : List TMark) (salt : Int) (s : Int) => [encLTMark l, dI salt, dI s]) x.1 x.2.1 x.2.2) (fun _ => []) (fun x => (fun (l : List TMark) (salt : Int) (s : Int) => l.length ≤ 1073741823) x.1 x.2.1 x.2.2) (fun x => (fun (l : List TMark) (salt : Int) (s : Int) => (dB (mOpens l salt s) : D)) x.1 x.2.1 x.2.2) (fun x => (fun (l : List TMark) (salt : Int) (s : Int) => []) x.1 x.2.1 x.2.2)
@[simp] theorem c160_f : c160.f = 160 := rfl
@[simp] theorem c160_own : c160.own = false := rfl
theorem c160_inj : ∀ u_ v_ : (List TMark) × Int × Int, ((fun x => (fun (l : List TMark) (salt : Int) (s : Int) => [encLTMark l, dI salt, dI s]) x.1 x.2.1 x.2.2) u_).map nz = ((fun x => (fun (l : List TMark) (salt : Int) (s : Int) => [encLTMark l, dI salt, dI s]) x.1 x.2.1 x.2.2) v_).map nz → u_ = v_ := by
  intro u_ v_ h
  obtain ⟨l, salt, s⟩ := u_
  obtain ⟨l', salt', s'⟩ := v_
  simp [nz_lit, nz1_lit, nz_agg, nz_sl, nz1_sl, encLTMark] at h
  first | (simp [h]; done) | (obtain ⟨⟩ := h; simp_all; done) | simp_all
@[simp] theorem c160_fn (l : List TMark) (salt : Int) (s : Int) : c160.fn [.sl false 2 yTMark (ML encTMark l), .lit (.int .i64 salt), .lit (.int .i64 s)] [] = some ((fun (l : List TMark) (salt : Int) (s : Int) => l.length ≤ 1073741823) l salt s, (fun (l : List TMark) (salt : Int) (s : Int) => (dB (mOpens l salt s) : D)) l salt s, (fun (l : List TMark) (salt : Int) (s : Int) => []) l salt s) :=
  mkCon_fn (fun x y h _ => c160_inj x y h) ((l, salt, s) : (List TMark) × Int × Int) (by simp [nz, nz1, ML_nil, encLTMark]) rfl
@[simp] theorem c160_fn1 (s_l : Nat) (z_l : D) (salt : Int) (s : Int) : c160.fn [.sl false s_l z_l [], .lit (.int .i64 salt), .lit (.int .i64 s)] [] = some ((fun (l : List TMark) (salt : Int) (s : Int) => l.length ≤ 1073741823) [] salt s, (fun (l : List TMark) (salt : Int) (s : Int) => (dB (mOpens l salt s) : D)) [] salt s, (fun (l : List TMark) (salt : Int) (s : Int) => []) [] salt s) :=
  mkCon_fn (fun x y h _ => c160_inj x y h) (([], salt, s) : (List TMark) × Int × Int) (by simp [nz, nz1, ML_nil, encLTMark]) rfl
theorem c160_pc (l : List TMark) (salt : Int) (s : Int) (hpre : l.length ≤ 1073741823) : PCo Try.prog 160 [encLTMark l, dI salt, dI s] (Tab.of []) (dB (mOpens l salt s)) (Tab.of []) := by
  refine pco_of_run [] (E := ⟨[c199, c200], []⟩) (m := false) (base := 0) (Env.ok_cons c199_ok (Env.ok_cons c200_ok Env.ok_nil)) G_ok mix 300 6 Try.func160 (by kernel_rfl) rfl (by kernel_rfl) (by kernel_rfl) rfl ?_
  simp [Try.f160]
  simp [mOpens]
  refine ⟨⟨by omega, fun _ => hpre⟩, ?_⟩
  first | rfl | omega | (rw [Bool.eq_iff_iff]; simp; done) | (rw [Bool.eq_iff_iff]; simp; omega) | (rw [Bool.eq_iff_iff]; simp; grind) | grind
theorem c160_ok : c160.ok Try.prog := mkCon_ok fun ⟨l, salt, s⟩ hpre => c160_pc l salt s hpre
/-- loop.example/g03007/impl.OpensSeal -/
noncomputable def c162 : Con := mkCon 162 false (α := (List TMark) × Int × Int) (fun x => (fun (l : List TMark) (salt : Int) (s : Int) => [encLTMark l, dI salt, dI s]) x.1 x.2.1 x.2.2) (fun _ => []) (fun x => (fun (l : List TMark) (salt : Int) (s : Int) => l.length ≤ 1073741823) x.1 x.2.1 x.2.2) (fun x => (fun (l : List TMark) (salt : Int) (s : Int) => (dB (mOpens l salt s) : D)) x.1 x.2.1 x.2.2) (fun x => (fun (l : List TMark) (salt : Int) (s : Int) => []) x.1 x.2.1 x.2.2)
@[simp] theorem c162_f : c162.f = 162 := rfl
@[simp] theorem c162_own : c162.own = false := rfl
theorem c162_inj : ∀ u_ v_ : (List TMark) × Int × Int, ((fun x => (fun (l : List TMark) (salt : Int) (s : Int) => [encLTMark l, dI salt, dI s]) x.1 x.2.1 x.2.2) u_).map nz = ((fun x => (fun (l : List TMark) (salt : Int) (s : Int) => [encLTMark l, dI salt, dI s]) x.1 x.2.1 x.2.2) v_).map nz → u_ = v_ := by
  intro u_ v_ h
  obtain ⟨l, salt, s⟩ := u_
  obtain ⟨l', salt', s'⟩ := v_
  simp [nz_lit, nz1_lit, nz_agg, nz_sl, nz1_sl, encLTMark] at h
  first | (simp [h]; done) | (obtain ⟨⟩ := h; simp_all; done) | simp_all
@[simp] theorem c162_fn (l : List TMark) (salt : Int) (s : Int) : c162.fn [.sl false 2 yTMark (ML encTMark l), .lit (.int .i64 salt), .lit (.int .i64 s)] [] = some ((fun (l : List TMark) (salt : Int) (s : Int) => l.length ≤ 1073741823) l salt s, (fun (l : List TMark) (salt : Int) (s : Int) => (dB (mOpens l salt s) : D)) l salt s, (fun (l : List TMark) (salt : Int) (s : Int) => []) l salt s) :=
  mkCon_fn (fun x y h _ => c162_inj x y h) ((l, salt, s) : (List TMark) × Int × Int) (by simp [nz, nz1, ML_nil, encLTMark]) rfl
@[simp] theorem c162_fn1 (s_l : Nat) (z_l : D) (salt : Int) (s : Int) : c162.fn [.sl false s_l z_l [], .lit (.int .i64 salt), .lit (.int .i64 s)] [] = some ((fun (l : List TMark) (salt : Int) (s : Int) => l.length ≤ 1073741823) [] salt s, (fun (l : List TMark) (salt : Int) (s : Int) => (dB (mOpens l salt s) : D)) [] salt s, (fun (l : List TMark) (salt : Int) (s : Int) => []) [] salt s) :=
  mkCon_fn (fun x y h _ => c162_inj x y h) (([], salt, s) : (List TMark) × Int × Int) (by simp [nz, nz1, ML_nil, encLTMark]) rfl
theorem c162_pc (l : List TMark) (salt : Int) (s : Int) (hpre : l.length ≤ 1073741823) : PCo Try.prog 162 [encLTMark l, dI salt, dI s] (Tab.of []) (dB (mOpens l salt s)) (Tab.of []) := by
  refine pco_of_run [] (E := ⟨[c202, c203], []⟩) (m := false) (base := 0) (Env.ok_cons c202_ok (Env.ok_cons c203_ok Env.ok_nil)) G_ok mix 300 6 Try.func162 (by kernel_rfl) rfl (by kernel_rfl) (by kernel_rfl) rfl ?_
  simp [Try.f162]
  simp [mOpens]
  refine ⟨⟨by omega, fun _ => hpre⟩, ?_⟩
  first | rfl | omega | (rw [Bool.eq_iff_iff]; simp; done) | (rw [Bool.eq_iff_iff]; simp; omega) | (rw [Bool.eq_iff_iff]; simp; grind) | grind
theorem c162_ok : c162.ok Try.prog := mkCon_ok fun ⟨l, salt, s⟩ hpre => c162_pc l salt s hpre
def lookQ (q : Int) : List TMark → Int
  | [] => -1
  | x :: r => if x.Question = q then x.Answer else lookQ q r
theorem lookQ_at {q : Int} {l : List TMark} {p : Nat} (h : p < l.length) : lookQ q (l.drop p) = if (l[p]?.getD default).Question = q then (l[p]?.getD default).Answer else lookQ q (l.drop (p + 1)) := by
  rw [drop_at (d := default) h, lookQ]
theorem lookQ_end {q : Int} {l : List TMark} {p : Nat} (h : l.length ≤ p) : lookQ q (l.drop p) = -1 := by
  rw [List.drop_eq_nil_of_le h, lookQ]
def hInts (l : List Int) : Int := mHash l
@[simp] theorem c114_one (n : Int) : c114.fn [.sl false 1 (.lit (.int .i64 0)) [dI n]] [] = some (1 ≤ 1099511627776, dI (mHash [n]), []) := c114_fn [n]
@[simp] theorem c115_one (n : Int) : c115.fn [.sl false 1 (.lit (.int .i64 0)) [dI n]] [] = some (1 ≤ 1099511627776, dI (mHash [n]), []) := c115_fn [n]
def mQuestion (l : List TMark) (claim n : Int) : Int := if decide (l.length = 0) || !mAreMarks l || !mIn n 0 1000 then 0 else (l[((mHash [claim] + n) % l.length).toNat]?.getD default).Question
theorem question_nil {l : List TMark} {c n : Int} (h : (l = [] ∨ mAreMarks l = false) ∨ mIn n 0 1000 = false) : 0 = mQuestion l c n := by
  simp only [mQuestion]
  rw [if_pos]
  rcases h with (h | h) | h <;> simp [h]
theorem question_of {l : List TMark} {c n : Int} (h1 : ¬ l = []) (h2 : mAreMarks l = true) (h3 : mIn n 0 1000 = true) : mQuestion l c n = (l[((mHash [c] + n) % l.length).toNat]?.getD default).Question := by
  simp only [mQuestion]
  rw [if_neg (by simp [h1, h2, h3])]
def ksQ (l : List TMark) : List Int := l.foldl (fun ks m => insI ks m.Question) []
theorem insI_iff {ks : List Int} {v k : Int} : k ∈ insI ks v ↔ k ∈ ks ∨ k = v := by
  simp only [insI]; split
  · rename_i h; constructor
    · exact .inl
    · rintro (h' | rfl)
      · exact h'
      · exact h
  · simp
theorem ksQ_fold {k : Int} : ∀ (l : List TMark) (ks : List Int), k ∈ l.foldl (fun ks m => insI ks m.Question) ks ↔ k ∈ ks ∨ ∃ m ∈ l, m.Question = k
  | [], ks => by simp
  | x :: l, ks => by
    rw [List.foldl_cons, ksQ_fold l, insI_iff]
    simp only [List.mem_cons]
    constructor
    · rintro ((h | h) | ⟨m, h1, h2⟩)
      · exact .inl h
      · exact .inr ⟨x, .inl rfl, h.symm⟩
      · exact .inr ⟨m, .inr h1, h2⟩
    · rintro (h | ⟨m, (rfl | h1), h2⟩)
      · exact .inl (.inl h)
      · exact .inl (.inr h2.symm)
      · exact .inr ⟨m, h1, h2⟩
theorem ksQ_mem {k : Int} {l : List TMark} : k ∈ ksQ l ↔ ∃ m ∈ l, m.Question = k := by simp [ksQ, ksQ_fold]
theorem ksQ_at {l : List TMark} {p : Nat} (h : p < l.length) : ksQ (l.take (p + 1)) = insI (ksQ (l.take p)) (l[p]?.getD default).Question := by
  simp only [ksQ]; rw [foldl_at (d := default) h]
theorem lookQ_skip {k : Int} : ∀ (l r : List TMark), (¬ ∃ m ∈ l, m.Question = k) → lookQ k (l ++ r) = lookQ k r
  | [], r, _ => rfl
  | x :: l, r, h => by
    have h1 : ¬ x.Question = k := fun e => h ⟨x, by simp, e⟩
    have h2 : ¬ ∃ m ∈ l, m.Question = k := fun ⟨m, hm, e⟩ => h ⟨m, by simp [hm], e⟩
    rw [List.cons_append, lookQ, if_neg h1, lookQ_skip l r h2]
theorem lookQ_none {k : Int} {l : List TMark} (h : k ∉ ksQ l) : lookQ k l = -1 := by
  have := lookQ_skip l [] (fun h' => h (ksQ_mem.2 h'))
  simpa [lookQ] using this
theorem lookQ_new {l : List TMark} {p : Nat} (h : p < l.length) (hn : (l[p]?.getD default).Question ∉ ksQ (l.take p)) : lookQ (l[p]?.getD default).Question l = (l[p]?.getD default).Answer := by
  have h1 := lookQ_skip (k := (l[p]?.getD default).Question) (l.take p) (l.drop p) (fun h' => hn (ksQ_mem.2 h'))
  rw [List.take_append_drop, lookQ_at h, if_pos rfl] at h1
  exact h1
end Go.Proofs.Ytadipfpojlceeaa
