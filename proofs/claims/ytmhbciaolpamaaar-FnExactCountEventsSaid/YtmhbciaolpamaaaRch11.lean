/- Contracts of the functions that the laws run. -/
import Derived.Test.YtmhbciaolpamaaaRch03
import Derived.Test.YtmhbciaolpamaaaREngB
namespace Go.Proofs.YtmhbciaolpamaaaR
open Go Go.Eng
set_option linter.unusedSimpArgs false
set_option linter.unusedVariables false
set_option maxRecDepth 10000
set_option maxHeartbeats 1000000
/-- loop.example/g03007/laws.toMark -/
noncomputable def c229 : Con := mkCon 229 false (α := TMark) (fun x => (fun (a : TMark) => [encTMark a]) x) (fun _ => []) (fun x => (fun (a : TMark) => True) x) (fun x => (fun (a : TMark) => (encTMark a : D)) x) (fun x => (fun (a : TMark) => []) x)
@[simp] theorem c229_f : c229.f = 229 := rfl
@[simp] theorem c229_own : c229.own = false := rfl
theorem c229_inj : ∀ u_ v_ : TMark, ((fun x => (fun (a : TMark) => [encTMark a]) x) u_).map nz = ((fun x => (fun (a : TMark) => [encTMark a]) x) v_).map nz → u_ = v_ := by
  intro u_ v_ h
  obtain ⟨a_Question, a_Answer⟩ := u_
  obtain ⟨a_Question', a_Answer'⟩ := v_
  simp [nz_lit, nz1_lit, nz_agg, nz_sl, nz1_sl, encTMark] at h
  first | (simp [h]; done) | (obtain ⟨⟩ := h; simp_all; done) | simp_all
@[simp] theorem c229_fn (a_Question : Int) (a_Answer : Int) : c229.fn [.agg [.lit (.int .i64 a_Question), .lit (.int .i64 a_Answer)]] [] = some ((fun (a : TMark) => True) ⟨a_Question, a_Answer⟩, (fun (a : TMark) => (encTMark a : D)) ⟨a_Question, a_Answer⟩, (fun (a : TMark) => []) ⟨a_Question, a_Answer⟩) :=
  mkCon_fn (fun x y h _ => c229_inj x y h) (⟨a_Question, a_Answer⟩ : TMark) (by simp [nz, nz1, ML_nil, encTMark]) rfl
theorem c229_pc (a : TMark) : PCo Try.prog 229 [encTMark a] (Tab.of []) (encTMark a) (Tab.of []) := by
  obtain ⟨a_Question, a_Answer⟩ := a
  refine pco_of_run [] (E := ⟨[], []⟩) (m := false) (base := 0) Env.ok_nil G_ok mix 300 6 Try.func229 (by kernel_rfl) rfl (by kernel_rfl) (by kernel_rfl) rfl ?_
  simp [Try.f229]
  all_goals first | omega | (rw [Bool.eq_iff_iff]; simp; omega) | grind
theorem c229_ok : c229.ok Try.prog := mkCon_ok fun a hpre => c229_pc a
/-- loop.example/g03007/laws.eqMark -/
noncomputable def c233 : Con := mkCon 233 false (α := TMark × TMark) (fun x => (fun (a : TMark) (b : TMark) => [encTMark a, encTMark b]) x.1 x.2) (fun _ => []) (fun x => (fun (a : TMark) (b : TMark) => True) x.1 x.2) (fun x => (fun (a : TMark) (b : TMark) => (dB (decide (a = b)) : D)) x.1 x.2) (fun x => (fun (a : TMark) (b : TMark) => []) x.1 x.2)
@[simp] theorem c233_f : c233.f = 233 := rfl
@[simp] theorem c233_own : c233.own = false := rfl
theorem c233_inj : ∀ u_ v_ : TMark × TMark, ((fun x => (fun (a : TMark) (b : TMark) => [encTMark a, encTMark b]) x.1 x.2) u_).map nz = ((fun x => (fun (a : TMark) (b : TMark) => [encTMark a, encTMark b]) x.1 x.2) v_).map nz → u_ = v_ := by
  intro u_ v_ h
  obtain ⟨⟨a_Question, a_Answer⟩, ⟨b_Question, b_Answer⟩⟩ := u_
  obtain ⟨⟨a_Question', a_Answer'⟩, ⟨b_Question', b_Answer'⟩⟩ := v_
  simp [nz_lit, nz1_lit, nz_agg, nz_sl, nz1_sl, encTMark] at h
  first | (simp [h]; done) | (obtain ⟨⟩ := h; simp_all; done) | simp_all
@[simp] theorem c233_fn (a_Question : Int) (a_Answer : Int) (b_Question : Int) (b_Answer : Int) : c233.fn [.agg [.lit (.int .i64 a_Question), .lit (.int .i64 a_Answer)], .agg [.lit (.int .i64 b_Question), .lit (.int .i64 b_Answer)]] [] = some ((fun (a : TMark) (b : TMark) => True) ⟨a_Question, a_Answer⟩ ⟨b_Question, b_Answer⟩, (fun (a : TMark) (b : TMark) => (dB (decide (a = b)) : D)) ⟨a_Question, a_Answer⟩ ⟨b_Question, b_Answer⟩, (fun (a : TMark) (b : TMark) => []) ⟨a_Question, a_Answer⟩ ⟨b_Question, b_Answer⟩) :=
  mkCon_fn (fun x y h _ => c233_inj x y h) ((⟨a_Question, a_Answer⟩, ⟨b_Question, b_Answer⟩) : TMark × TMark) (by simp [nz, nz1, ML_nil, encTMark]) rfl
theorem c233_pc (a : TMark) (b : TMark) : PCo Try.prog 233 [encTMark a, encTMark b] (Tab.of []) (dB (decide (a = b))) (Tab.of []) := by
  obtain ⟨a_Question, a_Answer⟩ := a
  obtain ⟨b_Question, b_Answer⟩ := b
  refine pco_of_run [] (E := ⟨[], []⟩) (m := false) (base := 0) Env.ok_nil G_ok mix 300 6 Try.func233 (by kernel_rfl) rfl (by kernel_rfl) (by kernel_rfl) rfl ?_
  simp [Try.f233]
  all_goals first | omega | (rw [Bool.eq_iff_iff]; simp; omega) | grind
theorem c233_ok : c233.ok Try.prog := mkCon_ok fun ⟨a, b⟩ hpre => c233_pc a b
/-- loop.example/g03007/laws.szMarkS -/
noncomputable def c206 : Con := mkCon 206 false (α := (List TMark) × Int) (fun x => (fun (l : List TMark) (left : Int) => [encLTMark l, dI left]) x.1 x.2) (fun _ => []) (fun x => (fun (l : List TMark) (left : Int) => l.length ≤ maxLen ∧ 0 ≤ left ∧ left ≤ 1099511627776) x.1 x.2) (fun x => (fun (l : List TMark) (left : Int) => (dI (if left - l.length < 0 then -1 else left - l.length) : D)) x.1 x.2) (fun x => (fun (l : List TMark) (left : Int) => []) x.1 x.2)
@[simp] theorem c206_f : c206.f = 206 := rfl
@[simp] theorem c206_own : c206.own = false := rfl
theorem c206_inj : ∀ u_ v_ : (List TMark) × Int, ((fun x => (fun (l : List TMark) (left : Int) => [encLTMark l, dI left]) x.1 x.2) u_).map nz = ((fun x => (fun (l : List TMark) (left : Int) => [encLTMark l, dI left]) x.1 x.2) v_).map nz → u_ = v_ := by
  intro u_ v_ h
  obtain ⟨l, left⟩ := u_
  obtain ⟨l', left'⟩ := v_
  simp [nz_lit, nz1_lit, nz_agg, nz_sl, nz1_sl, encLTMark] at h
  first | (simp [h]; done) | (obtain ⟨⟩ := h; simp_all; done) | simp_all
@[simp] theorem c206_fn (l : List TMark) (left : Int) : c206.fn [.sl false 2 yTMark (ML encTMark l), .lit (.int .i64 left)] [] = some ((fun (l : List TMark) (left : Int) => l.length ≤ maxLen ∧ 0 ≤ left ∧ left ≤ 1099511627776) l left, (fun (l : List TMark) (left : Int) => (dI (if left - l.length < 0 then -1 else left - l.length) : D)) l left, (fun (l : List TMark) (left : Int) => []) l left) :=
  mkCon_fn (fun x y h _ => c206_inj x y h) ((l, left) : (List TMark) × Int) (by simp [nz, nz1, ML_nil, encLTMark]) rfl
@[simp] theorem c206_fn1 (s_l : Nat) (z_l : D) (left : Int) : c206.fn [.sl false s_l z_l [], .lit (.int .i64 left)] [] = some ((fun (l : List TMark) (left : Int) => l.length ≤ maxLen ∧ 0 ≤ left ∧ left ≤ 1099511627776) [] left, (fun (l : List TMark) (left : Int) => (dI (if left - l.length < 0 then -1 else left - l.length) : D)) [] left, (fun (l : List TMark) (left : Int) => []) [] left) :=
  mkCon_fn (fun x y h _ => c206_inj x y h) (([], left) : (List TMark) × Int) (by simp [nz, nz1, ML_nil, encLTMark]) rfl
theorem c206_pc (l : List TMark) (left : Int) (hpre : l.length ≤ maxLen ∧ 0 ≤ left ∧ left ≤ 1099511627776) : PCo Try.prog 206 [encLTMark l, dI left] (Tab.of []) (dI (if left - l.length < 0 then -1 else left - l.length)) (Tab.of []) := by
  refine pco_of_run [] (E := ⟨[], []⟩) (m := false) (base := 0) Env.ok_nil G_ok mix 300 6 Try.func206 (by kernel_rfl) rfl (by kernel_rfl) (by kernel_rfl) rfl ?_
  simp [Try.f206]
  simp [maxLen] at hpre
  all_goals omega
theorem c206_ok : c206.ok Try.prog := mkCon_ok fun ⟨l, left⟩ hpre => c206_pc l left hpre
/-- loop.example/g03007/laws.toMarkS -/
noncomputable def c207 : Con := mkCon 207 false (α := (List TMark)) (fun x => (fun (l : List TMark) => [encLTMark l]) x) (fun _ => []) (fun x => (fun (l : List TMark) => l.length ≤ 1099511627776) x) (fun x => (fun (l : List TMark) => (.own (0, 1) 2 0 l.length : D)) x) (fun x => (fun (l : List TMark) => [((0, 1), .arr false 2 yTMark (ML encTMark l))]) x)
@[simp] theorem c207_f : c207.f = 207 := rfl
@[simp] theorem c207_own : c207.own = false := rfl
theorem c207_inj : ∀ u_ v_ : (List TMark), ((fun x => (fun (l : List TMark) => [encLTMark l]) x) u_).map nz = ((fun x => (fun (l : List TMark) => [encLTMark l]) x) v_).map nz → u_ = v_ := by
  intro u_ v_ h
  obtain l := u_
  obtain l' := v_
  simp [nz_lit, nz1_lit, nz_agg, nz_sl, nz1_sl, encLTMark] at h
  first | (simp [h]; done) | (obtain ⟨⟩ := h; simp_all; done) | simp_all
@[simp] theorem c207_fn (l : List TMark) : c207.fn [.sl false 2 yTMark (ML encTMark l)] [] = some ((fun (l : List TMark) => l.length ≤ 1099511627776) l, (fun (l : List TMark) => (.own (0, 1) 2 0 l.length : D)) l, (fun (l : List TMark) => [((0, 1), .arr false 2 yTMark (ML encTMark l))]) l) :=
  mkCon_fn (fun x y h _ => c207_inj x y h) (l : (List TMark)) (by simp [nz, nz1, ML_nil, encLTMark]) rfl
@[simp] theorem c207_fn1 (s_l : Nat) (z_l : D) : c207.fn [.sl false s_l z_l []] [] = some ((fun (l : List TMark) => l.length ≤ 1099511627776) [], (fun (l : List TMark) => (.own (0, 1) 2 0 l.length : D)) [], (fun (l : List TMark) => [((0, 1), .arr false 2 yTMark (ML encTMark l))]) []) :=
  mkCon_fn (fun x y h _ => c207_inj x y h) ([] : (List TMark)) (by simp [nz, nz1, ML_nil, encLTMark]) rfl
theorem c207_pc (l : List TMark) (hpre : l.length ≤ 1099511627776) : PCo Try.prog 207 [encLTMark l] (Tab.of []) (.own (0, 1) 2 0 l.length) (Tab.of [((0, 1), .arr false 2 yTMark (ML encTMark l))]) := by
  refine pco_of_run [] (E := ⟨[c229], []⟩) (m := false) (base := 0) (Env.ok_cons c229_ok Env.ok_nil) G_ok mix 300 6 Try.func207 (by kernel_rfl) rfl (by kernel_rfl) (by kernel_rfl) rfl ?_
  simp [Try.f207]
  refine ⟨by omega, ?_⟩
  refine loop_inv (fun p : Nat => p ≤ l.length) (fun p => [(0, encLTMark l), (3, .own (0, 1) 2 0 l.length), (4, dI p)]) (fun p => [((0, 1), .arr false 2 yTMark (ML encTMark (l.take p ++ List.replicate (l.length - p) ⟨0, 0⟩)))]) 2 (fun p => l.length - p) 0 100 (by simp) (by simp) (by first | (simp; done) | (simp; simp only [ML, List.map_replicate]; rfl)) ?_
  intro p hp
  simp
  refine ⟨fun hlt => ⟨by omega, by omega, Again.mk (p + 1) (by omega) (by simp [fill_step hlt]) (by first | omega | (simp; omega))⟩, fun hge => ?_⟩
  have : p = l.length := by omega
  subst this
  simp
theorem c207_ok : c207.ok Try.prog := mkCon_ok fun l hpre => c207_pc l hpre
/-- loop.example/g03007/laws.eqMarkS -/
noncomputable def c210 : Con := mkCon 210 false (α := (List TMark) × (List TMark)) (fun x => (fun (a : List TMark) (b : List TMark) => [encLTMark a, encLTMark b]) x.1 x.2) (fun _ => []) (fun x => (fun (a : List TMark) (b : List TMark) => a.length ≤ 1099511627776 ∧ b.length ≤ 1099511627776) x.1 x.2) (fun x => (fun (a : List TMark) (b : List TMark) => (dB (decide (a = b)) : D)) x.1 x.2) (fun x => (fun (a : List TMark) (b : List TMark) => []) x.1 x.2)
@[simp] theorem c210_f : c210.f = 210 := rfl
@[simp] theorem c210_own : c210.own = false := rfl
theorem c210_inj : ∀ u_ v_ : (List TMark) × (List TMark), ((fun x => (fun (a : List TMark) (b : List TMark) => [encLTMark a, encLTMark b]) x.1 x.2) u_).map nz = ((fun x => (fun (a : List TMark) (b : List TMark) => [encLTMark a, encLTMark b]) x.1 x.2) v_).map nz → u_ = v_ := by
  intro u_ v_ h
  obtain ⟨a, b⟩ := u_
  obtain ⟨a', b'⟩ := v_
  simp [nz_lit, nz1_lit, nz_agg, nz_sl, nz1_sl, encLTMark] at h
  first | (simp [h]; done) | (obtain ⟨⟩ := h; simp_all; done) | simp_all
@[simp] theorem c210_fn (a : List TMark) (b : List TMark) : c210.fn [.sl false 2 yTMark (ML encTMark a), .sl false 2 yTMark (ML encTMark b)] [] = some ((fun (a : List TMark) (b : List TMark) => a.length ≤ 1099511627776 ∧ b.length ≤ 1099511627776) a b, (fun (a : List TMark) (b : List TMark) => (dB (decide (a = b)) : D)) a b, (fun (a : List TMark) (b : List TMark) => []) a b) :=
  mkCon_fn (fun x y h _ => c210_inj x y h) ((a, b) : (List TMark) × (List TMark)) (by simp [nz, nz1, ML_nil, encLTMark]) rfl
@[simp] theorem c210_fn1 (s_a : Nat) (z_a : D) (b : List TMark) : c210.fn [.sl false s_a z_a [], .sl false 2 yTMark (ML encTMark b)] [] = some ((fun (a : List TMark) (b : List TMark) => a.length ≤ 1099511627776 ∧ b.length ≤ 1099511627776) [] b, (fun (a : List TMark) (b : List TMark) => (dB (decide (a = b)) : D)) [] b, (fun (a : List TMark) (b : List TMark) => []) [] b) :=
  mkCon_fn (fun x y h _ => c210_inj x y h) (([], b) : (List TMark) × (List TMark)) (by simp [nz, nz1, ML_nil, encLTMark]) rfl
@[simp] theorem c210_fn2 (a : List TMark) (s_b : Nat) (z_b : D) : c210.fn [.sl false 2 yTMark (ML encTMark a), .sl false s_b z_b []] [] = some ((fun (a : List TMark) (b : List TMark) => a.length ≤ 1099511627776 ∧ b.length ≤ 1099511627776) a [], (fun (a : List TMark) (b : List TMark) => (dB (decide (a = b)) : D)) a [], (fun (a : List TMark) (b : List TMark) => []) a []) :=
  mkCon_fn (fun x y h _ => c210_inj x y h) ((a, []) : (List TMark) × (List TMark)) (by simp [nz, nz1, ML_nil, encLTMark]) rfl
@[simp] theorem c210_fn3 (s_a : Nat) (z_a : D) (s_b : Nat) (z_b : D) : c210.fn [.sl false s_a z_a [], .sl false s_b z_b []] [] = some ((fun (a : List TMark) (b : List TMark) => a.length ≤ 1099511627776 ∧ b.length ≤ 1099511627776) [] [], (fun (a : List TMark) (b : List TMark) => (dB (decide (a = b)) : D)) [] [], (fun (a : List TMark) (b : List TMark) => []) [] []) :=
  mkCon_fn (fun x y h _ => c210_inj x y h) (([], []) : (List TMark) × (List TMark)) (by simp [nz, nz1, ML_nil, encLTMark]) rfl
theorem c210_pc (a : List TMark) (b : List TMark) (hpre : a.length ≤ 1099511627776 ∧ b.length ≤ 1099511627776) : PCo Try.prog 210 [encLTMark a, encLTMark b] (Tab.of []) (dB (decide (a = b))) (Tab.of []) := by
  refine pco_of_run [] (E := ⟨[c233], []⟩) (m := false) (base := 0) (Env.ok_cons c233_ok Env.ok_nil) G_ok mix 300 6 Try.func210 (by kernel_rfl) rfl (by kernel_rfl) (by kernel_rfl) rfl ?_
  simp [Try.f210]
  obtain ⟨pre1, pre2⟩ := hpre
  refine ⟨fun h => ?_, fun h => by intro e; subst e; exact absurd rfl h⟩
  refine loop_inv (fun p : Nat => p ≤ a.length ∧ a.take p = b.take p) (fun p => [(0, encLTMark a), (1, encLTMark b), (5, dI p)]) (fun _ => []) 1 (fun p => a.length - p) 0 100 (by simp) (by simp) (by simp) ?_
  intro p ⟨hp, hi⟩
  simp
  refine ⟨fun hlt => ⟨by omega, fun h2 => ⟨by omega, Again.mk (p + 1) ⟨by omega, take_eq_step hi (by omega) (by omega) h2⟩ (by simp) (by first | omega | (simp; omega))⟩, fun h2 => by intro e; subst e; exact absurd rfl h2⟩, fun hge => ?_⟩
  exact take_eq_full hi (by omega) (by omega)
theorem c210_ok : c210.ok Try.prog := mkCon_ok fun ⟨a, b⟩ hpre => c210_pc a b hpre
def mIsMark (m : TMark) : Bool := mIn m.Question 1 20 && mIn m.Answer 0 99
@[simp] def nMark (m : TMark) : Int := m.Question
/-- loop.example/g03007/impl.isMark -/
noncomputable def c232 : Con := mkCon 232 false (α := TMark) (fun x => (fun (m : TMark) => [encTMark m]) x) (fun _ => []) (fun x => (fun (m : TMark) => True) x) (fun x => (fun (m : TMark) => (dB (mIsMark m) : D)) x) (fun x => (fun (m : TMark) => []) x)
@[simp] theorem c232_f : c232.f = 232 := rfl
@[simp] theorem c232_own : c232.own = false := rfl
theorem c232_inj : ∀ u_ v_ : TMark, ((fun x => (fun (m : TMark) => [encTMark m]) x) u_).map nz = ((fun x => (fun (m : TMark) => [encTMark m]) x) v_).map nz → u_ = v_ := by
  intro u_ v_ h
  obtain ⟨m_Question, m_Answer⟩ := u_
  obtain ⟨m_Question', m_Answer'⟩ := v_
  simp [nz_lit, nz1_lit, nz_agg, nz_sl, nz1_sl, encTMark] at h
  first | (simp [h]; done) | (obtain ⟨⟩ := h; simp_all; done) | simp_all
@[simp] theorem c232_fn (m_Question : Int) (m_Answer : Int) : c232.fn [.agg [.lit (.int .i64 m_Question), .lit (.int .i64 m_Answer)]] [] = some ((fun (m : TMark) => True) ⟨m_Question, m_Answer⟩, (fun (m : TMark) => (dB (mIsMark m) : D)) ⟨m_Question, m_Answer⟩, (fun (m : TMark) => []) ⟨m_Question, m_Answer⟩) :=
  mkCon_fn (fun x y h _ => c232_inj x y h) (⟨m_Question, m_Answer⟩ : TMark) (by simp [nz, nz1, ML_nil, encTMark]) rfl
theorem c232_pc (m : TMark) : PCo Try.prog 232 [encTMark m] (Tab.of []) (dB (mIsMark m)) (Tab.of []) := by
  obtain ⟨m_Question, m_Answer⟩ := m
  refine pco_of_run [1] (E := ⟨[c250], []⟩) (m := false) (base := 0) (Env.ok_cons c250_ok Env.ok_nil) G_ok mix 300 6 Try.func232 (by kernel_rfl) rfl (by kernel_rfl) (by kernel_rfl) rfl ?_
  simp [Try.f232]
  rw [Bool.eq_iff_iff]
  simp [mIsMark, mIn]
  omega
theorem c232_ok : c232.ok Try.prog := mkCon_ok fun m hpre => c232_pc m
def mAreMarks (l : List TMark) : Bool := decide (l.length ≤ 8) && ascBy mIsMark nMark none l
/-- loop.example/g03007/spec.AreMarks -/
noncomputable def c148 : Con := mkCon 148 false (α := (List TMark)) (fun x => (fun (l : List TMark) => [encLTMark l]) x) (fun _ => []) (fun x => (fun (l : List TMark) => l.length ≤ 1099511627776) x) (fun x => (fun (l : List TMark) => (dB (mAreMarks l) : D)) x) (fun x => (fun (l : List TMark) => []) x)
@[simp] theorem c148_f : c148.f = 148 := rfl
@[simp] theorem c148_own : c148.own = false := rfl
theorem c148_inj : ∀ u_ v_ : (List TMark), ((fun x => (fun (l : List TMark) => [encLTMark l]) x) u_).map nz = ((fun x => (fun (l : List TMark) => [encLTMark l]) x) v_).map nz → u_ = v_ := by
  intro u_ v_ h
  obtain l := u_
  obtain l' := v_
  simp [nz_lit, nz1_lit, nz_agg, nz_sl, nz1_sl, encLTMark] at h
  first | (simp [h]; done) | (obtain ⟨⟩ := h; simp_all; done) | simp_all
@[simp] theorem c148_fn (l : List TMark) : c148.fn [.sl false 2 yTMark (ML encTMark l)] [] = some ((fun (l : List TMark) => l.length ≤ 1099511627776) l, (fun (l : List TMark) => (dB (mAreMarks l) : D)) l, (fun (l : List TMark) => []) l) :=
  mkCon_fn (fun x y h _ => c148_inj x y h) (l : (List TMark)) (by simp [nz, nz1, ML_nil, encLTMark]) rfl
@[simp] theorem c148_fn1 (s_l : Nat) (z_l : D) : c148.fn [.sl false s_l z_l []] [] = some ((fun (l : List TMark) => l.length ≤ 1099511627776) [], (fun (l : List TMark) => (dB (mAreMarks l) : D)) [], (fun (l : List TMark) => []) []) :=
  mkCon_fn (fun x y h _ => c148_inj x y h) ([] : (List TMark)) (by simp [nz, nz1, ML_nil, encLTMark]) rfl
theorem c148_pc (l : List TMark) (hpre : l.length ≤ 1099511627776) : PCo Try.prog 148 [encLTMark l] (Tab.of []) (dB (mAreMarks l)) (Tab.of []) := by
  refine pco_of_run [] (E := ⟨[c102], []⟩) (m := false) (base := 0) (Env.ok_cons c102_ok Env.ok_nil) G_ok mix 300 6 Try.func148 (by kernel_rfl) rfl (by kernel_rfl) (by kernel_rfl) rfl ?_
  simp [Try.f148]
  refine loop_inv (fun p : Nat => p ≤ l.length ∧ ascBy mIsMark nMark none l = ascBy mIsMark nMark (prevO nMark l p) (l.drop p)) (fun p => [(0, encLTMark l), (2, dB false), (3, dI p)]) (fun _ => []) 1 (fun p => l.length - p) 0 400 (by simp) (by simp) (by simp) ?_
  intro p ⟨hp, hi⟩
  simp
  refine ⟨fun hlt => ?_, fun hge => ?_⟩
  · rw [ascBy_at hlt] at hi; simp only [nMark, mIsMark] at hi
    repeat' (first | omega | refine And.intro ?_ ?_ | intro _)
    all_goals first | exact Again.mk (p + 1) ⟨by omega, by rw [hi]; grind⟩ (by simp) (by first | omega | (simp; omega)) | (rw [mAreMarks, hi]; grind)
  · rw [mAreMarks, hi, ascBy_end hge]; simp; omega
theorem c148_ok : c148.ok Try.prog := mkCon_ok fun l hpre => c148_pc l hpre
/-- loop.example/g03007/impl.marksInOrder -/
noncomputable def c230 : Con := mkCon 230 false (α := (List TMark)) (fun x => (fun (l : List TMark) => [encLTMark l]) x) (fun _ => []) (fun x => (fun (l : List TMark) => True) x) (fun x => (fun (l : List TMark) => (.agg [.sl false 2 yTMark (ML encTMark l), .fn (.func 249) [] []] : D)) x) (fun x => (fun (l : List TMark) => []) x)
@[simp] theorem c230_f : c230.f = 230 := rfl
@[simp] theorem c230_own : c230.own = false := rfl
theorem c230_inj : ∀ u_ v_ : (List TMark), ((fun x => (fun (l : List TMark) => [encLTMark l]) x) u_).map nz = ((fun x => (fun (l : List TMark) => [encLTMark l]) x) v_).map nz → u_ = v_ := by
  intro u_ v_ h
  obtain l := u_
  obtain l' := v_
  simp [nz_lit, nz1_lit, nz_agg, nz_sl, nz1_sl, encLTMark] at h
  first | (simp [h]; done) | (obtain ⟨⟩ := h; simp_all; done) | simp_all
@[simp] theorem c230_fn (l : List TMark) : c230.fn [.sl false 2 yTMark (ML encTMark l)] [] = some ((fun (l : List TMark) => True) l, (fun (l : List TMark) => (.agg [.sl false 2 yTMark (ML encTMark l), .fn (.func 249) [] []] : D)) l, (fun (l : List TMark) => []) l) :=
  mkCon_fn (fun x y h _ => c230_inj x y h) (l : (List TMark)) (by simp [nz, nz1, ML_nil, encLTMark]) rfl
@[simp] theorem c230_fn1 (s_l : Nat) (z_l : D) : c230.fn [.sl false s_l z_l []] [] = some ((fun (l : List TMark) => True) [], (fun (l : List TMark) => (.agg [.sl false 2 yTMark (ML encTMark l), .fn (.func 249) [] []] : D)) [], (fun (l : List TMark) => []) []) :=
  mkCon_fn (fun x y h _ => c230_inj x y h) ([] : (List TMark)) (by simp [nz, nz1, ML_nil, encLTMark]) rfl
theorem c230_pc (l : List TMark) : PCo Try.prog 230 [encLTMark l] (Tab.of []) (.agg [.sl false 2 yTMark (ML encTMark l), .fn (.func 249) [] []]) (Tab.of []) := by
  refine pco_of_run [] (E := ⟨[], []⟩) (m := false) (base := 0) Env.ok_nil G_ok mix 300 6 Try.func230 (by kernel_rfl) rfl (by kernel_rfl) (by kernel_rfl) rfl ?_
  simp [Try.f230]
  all_goals first | omega | (rw [Bool.eq_iff_iff]; simp; omega) | grind
theorem c230_ok : c230.ok Try.prog := mkCon_ok fun l hpre => c230_pc l
/-- loop.example/g03007/impl.marksInOrder$1 -/
noncomputable def c249 : Con := mkCon 249 false (α := TMark) (fun x => (fun (x : TMark) => [encTMark x]) x) (fun _ => []) (fun x => (fun (x : TMark) => True) x) (fun x => (fun (x : TMark) => (dI (nMark x) : D)) x) (fun x => (fun (x : TMark) => []) x)
@[simp] theorem c249_f : c249.f = 249 := rfl
@[simp] theorem c249_own : c249.own = false := rfl
theorem c249_inj : ∀ u_ v_ : TMark, ((fun x => (fun (x : TMark) => [encTMark x]) x) u_).map nz = ((fun x => (fun (x : TMark) => [encTMark x]) x) v_).map nz → u_ = v_ := by
  intro u_ v_ h
  obtain ⟨x_Question, x_Answer⟩ := u_
  obtain ⟨x_Question', x_Answer'⟩ := v_
  simp [nz_lit, nz1_lit, nz_agg, nz_sl, nz1_sl, encTMark] at h
  first | (simp [h]; done) | (obtain ⟨⟩ := h; simp_all; done) | simp_all
@[simp] theorem c249_fn (x_Question : Int) (x_Answer : Int) : c249.fn [.agg [.lit (.int .i64 x_Question), .lit (.int .i64 x_Answer)]] [] = some ((fun (x : TMark) => True) ⟨x_Question, x_Answer⟩, (fun (x : TMark) => (dI (nMark x) : D)) ⟨x_Question, x_Answer⟩, (fun (x : TMark) => []) ⟨x_Question, x_Answer⟩) :=
  mkCon_fn (fun x y h _ => c249_inj x y h) (⟨x_Question, x_Answer⟩ : TMark) (by simp [nz, nz1, ML_nil, encTMark]) rfl
theorem c249_pc (x : TMark) : PCo Try.prog 249 [encTMark x] (Tab.of []) (dI (nMark x)) (Tab.of []) := by
  obtain ⟨x_Question, x_Answer⟩ := x
  refine pco_of_run [] (E := ⟨[], []⟩) (m := false) (base := 0) Env.ok_nil G_ok mix 300 6 Try.func249 (by kernel_rfl) rfl (by kernel_rfl) (by kernel_rfl) rfl ?_
  simp [Try.f249]
  all_goals first | omega | (rw [Bool.eq_iff_iff]; simp; omega) | grind
theorem c249_ok : c249.ok Try.prog := mkCon_ok fun x hpre => c249_pc x
/-- (loop.example/g03007/impl.sortedList[loop.example/g03007/impl.Mark]).isValid -/
noncomputable def c231 : Con := mkCon 231 false (α := (List TMark) × Int) (fun x => (fun (l : List TMark) (lim : Int) => ([.agg [.sl false 2 yTMark (ML encTMark l), .fn (.func 249) [] []], dI lim, .fn (.func 232) [] []] : List D)) x.1 x.2) (fun x => (fun (l : List TMark) (lim : Int) => ([] : List (Nm × OO))) x.1 x.2) (fun x => (fun (l : List TMark) (lim : Int) => l.length ≤ 1099511627776) x.1 x.2) (fun x => (fun (l : List TMark) (lim : Int) => (dB (decide (l.length ≤ lim) && ascBy mIsMark nMark none l) : D)) x.1 x.2) (fun x => (fun (l : List TMark) (lim : Int) => ([] : List (Nm × OO))) x.1 x.2)
@[simp] theorem c231_f : c231.f = 231 := rfl
@[simp] theorem c231_own : c231.own = false := rfl
theorem c231_inj : ∀ u_ v_ : (List TMark) × Int, ((fun x => (fun (l : List TMark) (lim : Int) => ([.agg [.sl false 2 yTMark (ML encTMark l), .fn (.func 249) [] []], dI lim, .fn (.func 232) [] []] : List D)) x.1 x.2) u_).map nz = ((fun x => (fun (l : List TMark) (lim : Int) => ([.agg [.sl false 2 yTMark (ML encTMark l), .fn (.func 249) [] []], dI lim, .fn (.func 232) [] []] : List D)) x.1 x.2) v_).map nz → (fun x => (fun (l : List TMark) (lim : Int) => ([] : List (Nm × OO))) x.1 x.2) u_ = (fun x => (fun (l : List TMark) (lim : Int) => ([] : List (Nm × OO))) x.1 x.2) v_ → u_ = v_ := by
  intro u_ v_ h h2_
  obtain ⟨l, lim⟩ := u_
  obtain ⟨l', lim'⟩ := v_
  simp [nz_lit, nz1_lit, nz_agg, nz_sl, nz1_sl, nz_sx, nz_el, nz1_el, nz_own, nz1_own, nz_ptr, nz_fn, nz_iface] at h h2_
  first | (simp [h, h2_]; done) | (obtain ⟨h3_, h4_⟩ := List.append_inj h2_ h.1; simp_all; done) | simp_all | grind
@[simp] theorem c231_fn (l : List TMark) (lim : Int) : c231.fn ([.agg [.sl false 2 yTMark (ML encTMark l), .fn (.func 249) [] []], dI lim, .fn (.func 232) [] []]) ([]) = some (l.length ≤ 1099511627776, dB (decide (l.length ≤ lim) && ascBy mIsMark nMark none l), []) :=
  mkCon_fn c231_inj ((l, lim) : (List TMark) × Int) rfl rfl
theorem c231_pc (l : List TMark) (lim : Int) (hpre : l.length ≤ 1099511627776) : PCo Try.prog 231 ([.agg [.sl false 2 yTMark (ML encTMark l), .fn (.func 249) [] []], dI lim, .fn (.func 232) [] []]) (Tab.of ([])) (dB (decide (l.length ≤ lim) && ascBy mIsMark nMark none l)) (Tab.of ([])) := by
  refine pco_of_run [6] (E := ⟨[c249, c232], []⟩) (m := false) (base := 0) (Env.ok_cons c249_ok (Env.ok_cons c232_ok Env.ok_nil)) G_ok mix 300 6 Try.func231 (by kernel_rfl) rfl (by kernel_rfl) (by kernel_rfl) rfl ?_
  simp [Try.f231]
  refine ⟨fun h h2 => by omega, fun hlim => ?_⟩
  refine loop_inv (fun p : Nat => p ≤ l.length ∧ ascBy mIsMark nMark none l = ascBy mIsMark nMark (prevO nMark l p) (l.drop p)) (fun p => [(2, .fn (.func 232) [] []), (3, .ptr (0, 1) 0), (6, dB false), (15, .sl false 2 yTMark (ML encTMark l)), (16, dI l.length), (17, dI p)]) (fun _ => [((0, 1), .box (.agg [.sl false 2 yTMark (ML encTMark l), .fn (.func 249) [] []]))]) 2 (fun p => l.length - p) 0 400 (by simp) (by simp) (by simp) ?_
  intro p ⟨hp, hi⟩
  simp
  refine ⟨fun hlt => ?_, fun hge => ?_⟩
  · rw [ascBy_at hlt] at hi; simp only [nMark, wantN] at hi
    repeat' (first | omega | refine And.intro ?_ ?_ | intro _)
    all_goals first | exact Again.mk (p + 1) ⟨by omega, by rw [hi]; grind⟩ (by simp) (by first | omega | (simp; omega)) | (rw [hi]; grind)
  · rw [hi, ascBy_end hge]; simp; omega
theorem c231_ok : c231.ok Try.prog := mkCon_ok fun ⟨l, lim⟩ hpre => c231_pc l lim hpre
/-- loop.example/g03007/impl.AreMarks -/
noncomputable def c209 : Con := mkCon 209 false (α := (List TMark)) (fun x => (fun (l : List TMark) => [encLTMark l]) x) (fun _ => []) (fun x => (fun (l : List TMark) => l.length ≤ 1099511627776) x) (fun x => (fun (l : List TMark) => (dB (mAreMarks l) : D)) x) (fun x => (fun (l : List TMark) => []) x)
@[simp] theorem c209_f : c209.f = 209 := rfl
@[simp] theorem c209_own : c209.own = false := rfl
theorem c209_inj : ∀ u_ v_ : (List TMark), ((fun x => (fun (l : List TMark) => [encLTMark l]) x) u_).map nz = ((fun x => (fun (l : List TMark) => [encLTMark l]) x) v_).map nz → u_ = v_ := by
  intro u_ v_ h
  obtain l := u_
  obtain l' := v_
  simp [nz_lit, nz1_lit, nz_agg, nz_sl, nz1_sl, encLTMark] at h
  first | (simp [h]; done) | (obtain ⟨⟩ := h; simp_all; done) | simp_all
@[simp] theorem c209_fn (l : List TMark) : c209.fn [.sl false 2 yTMark (ML encTMark l)] [] = some ((fun (l : List TMark) => l.length ≤ 1099511627776) l, (fun (l : List TMark) => (dB (mAreMarks l) : D)) l, (fun (l : List TMark) => []) l) :=
  mkCon_fn (fun x y h _ => c209_inj x y h) (l : (List TMark)) (by simp [nz, nz1, ML_nil, encLTMark]) rfl
@[simp] theorem c209_fn1 (s_l : Nat) (z_l : D) : c209.fn [.sl false s_l z_l []] [] = some ((fun (l : List TMark) => l.length ≤ 1099511627776) [], (fun (l : List TMark) => (dB (mAreMarks l) : D)) [], (fun (l : List TMark) => []) []) :=
  mkCon_fn (fun x y h _ => c209_inj x y h) ([] : (List TMark)) (by simp [nz, nz1, ML_nil, encLTMark]) rfl
theorem c209_pc (l : List TMark) (hpre : l.length ≤ 1099511627776) : PCo Try.prog 209 [encLTMark l] (Tab.of []) (dB (mAreMarks l)) (Tab.of []) := by
  refine pco_of_run [] (E := ⟨[c230, c231, c232, c232], []⟩) (m := false) (base := 0) (Env.ok_cons c230_ok (Env.ok_cons c231_ok (Env.ok_cons c232_ok (Env.ok_cons c232_ok Env.ok_nil)))) G_ok mix 300 6 Try.func209 (by kernel_rfl) rfl (by kernel_rfl) (by kernel_rfl) rfl ?_
  simp [Try.f209]
  have h : ((l.length : Int) ≤ 8) ↔ l.length ≤ 8 := by omega
  simp [mAreMarks, h, hpre]
theorem c209_ok : c209.ok Try.prog := mkCon_ok fun l hpre => c209_pc l hpre
/-- what the marks' text is sealed of -/
def sealL (salt : Int) : List TMark → List Int
  | [] => [salt]
  | l => salt :: l.flatMap fun m => [m.Question, m.Answer]
def mSealL (salt : Int) (l : List TMark) : List Int := salt :: l.flatMap fun m => [m.Question, m.Answer]
theorem mSealL_at {salt : Int} {l : List TMark} {p : Nat} (h : p < l.length) : mSealL salt (l.take (p + 1)) = mSealL salt (l.take p) ++ [(l[p]?.getD default).Question, (l[p]?.getD default).Answer] := by
  rw [take_at (d := default) h]; simp [mSealL]
theorem mSealL_len (salt : Int) : ∀ (l : List TMark), (mSealL salt l).length = 2 * l.length + 1
  | [] => rfl
  | x :: l => by have := mSealL_len salt l; simp [mSealL] at this ⊢; omega
def mSeal (l : List TMark) (salt : Int) : Int := mHash (mSealL salt l)
def mOpens (l : List TMark) (salt s : Int) : Bool := mAreMarks l && decide (mSeal l salt = s)
def lookQ (q : Int) : List TMark → Int
  | [] => -1
  | x :: r => if x.Question = q then x.Answer else lookQ q r
theorem lookQ_at {q : Int} {l : List TMark} {p : Nat} (h : p < l.length) : lookQ q (l.drop p) = if (l[p]?.getD default).Question = q then (l[p]?.getD default).Answer else lookQ q (l.drop (p + 1)) := by
  rw [drop_at (d := default) h, lookQ]
theorem lookQ_end {q : Int} {l : List TMark} {p : Nat} (h : l.length ≤ p) : lookQ q (l.drop p) = -1 := by
  rw [List.drop_eq_nil_of_le h, lookQ]
def hInts (l : List Int) : Int := mHash l
@[simp] theorem c183_one (n : Int) : c183.fn [.sl false 1 (.lit (.int .i64 0)) [dI n]] [] = some (1 ≤ 1099511627776, dI (mHash [n]), []) := c183_fn [n]
def mQuestion (l : List TMark) (claim n : Int) : Int := if decide (l.length = 0) || !mAreMarks l || !mIn n 0 1000 then 0 else (l[((mHash [claim] + n) % l.length).toNat]?.getD default).Question
theorem question_nil {l : List TMark} {c n : Int} (h : (l = [] ∨ mAreMarks l = false) ∨ mIn n 0 1000 = false) : 0 = mQuestion l c n := by
  simp only [mQuestion]
  rw [if_pos]
  rcases h with (h | h) | h <;> simp [h]
theorem question_of {l : List TMark} {c n : Int} (h1 : ¬ l = []) (h2 : mAreMarks l = true) (h3 : mIn n 0 1000 = true) : mQuestion l c n = (l[((mHash [c] + n) % l.length).toNat]?.getD default).Question := by
  simp only [mQuestion]
  rw [if_neg (by simp [h1, h2, h3])]
def ksQ (l : List TMark) : List Int := l.foldl (fun ks m => insI ks m.Question) []
theorem insI_iff {ks : List Int} {v k : Int} : k ∈ insI ks v ↔ k ∈ ks ∨ k = v := by
  simp only [insI]; split
  · rename_i h; constructor
    · exact .inl
    · rintro (h' | rfl)
      · exact h'
      · exact h
  · simp
theorem ksQ_fold {k : Int} : ∀ (l : List TMark) (ks : List Int), k ∈ l.foldl (fun ks m => insI ks m.Question) ks ↔ k ∈ ks ∨ ∃ m ∈ l, m.Question = k
  | [], ks => by simp
  | x :: l, ks => by
    rw [List.foldl_cons, ksQ_fold l, insI_iff]
    simp only [List.mem_cons]
    constructor
    · rintro ((h | h) | ⟨m, h1, h2⟩)
      · exact .inl h
      · exact .inr ⟨x, .inl rfl, h.symm⟩
      · exact .inr ⟨m, .inr h1, h2⟩
    · rintro (h | ⟨m, (rfl | h1), h2⟩)
      · exact .inl (.inl h)
      · exact .inl (.inr h2.symm)
      · exact .inr ⟨m, h1, h2⟩
theorem ksQ_mem {k : Int} {l : List TMark} : k ∈ ksQ l ↔ ∃ m ∈ l, m.Question = k := by simp [ksQ, ksQ_fold]
theorem ksQ_at {l : List TMark} {p : Nat} (h : p < l.length) : ksQ (l.take (p + 1)) = insI (ksQ (l.take p)) (l[p]?.getD default).Question := by
  simp only [ksQ]; rw [foldl_at (d := default) h]
theorem lookQ_skip {k : Int} : ∀ (l r : List TMark), (¬ ∃ m ∈ l, m.Question = k) → lookQ k (l ++ r) = lookQ k r
  | [], r, _ => rfl
  | x :: l, r, h => by
    have h1 : ¬ x.Question = k := fun e => h ⟨x, by simp, e⟩
    have h2 : ¬ ∃ m ∈ l, m.Question = k := fun ⟨m, hm, e⟩ => h ⟨m, by simp [hm], e⟩
    rw [List.cons_append, lookQ, if_neg h1, lookQ_skip l r h2]
theorem lookQ_none {k : Int} {l : List TMark} (h : k ∉ ksQ l) : lookQ k l = -1 := by
  have := lookQ_skip l [] (fun h' => h (ksQ_mem.2 h'))
  simpa [lookQ] using this
theorem lookQ_new {l : List TMark} {p : Nat} (h : p < l.length) (hn : (l[p]?.getD default).Question ∉ ksQ (l.take p)) : lookQ (l[p]?.getD default).Question l = (l[p]?.getD default).Answer := by
  have h1 := lookQ_skip (k := (l[p]?.getD default).Question) (l.take p) (l.drop p) (fun h' => hn (ksQ_mem.2 h'))
  rw [List.take_append_drop, lookQ_at h, if_pos rfl] at h1
  exact h1
end Go.Proofs.YtmhbciaolpamaaaR
