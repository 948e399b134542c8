/- Contracts of the functions that the laws run. -/
import Derived.Test.Ytkccphdoolpmaaach03
import Derived.Test.YtkccphdoolpmaaaEngB
namespace Go.Proofs.Ytkccphdoolpmaaa
open Go Go.Eng
set_option linter.unusedSimpArgs false
set_option linter.unusedVariables false
set_option maxRecDepth 10000
set_option maxHeartbeats 1000000
/-- loop.example/g03007/laws.toMark -/
noncomputable def c39 : Con := mkCon 39 false (α := TMark) (fun x => (fun (a : TMark) => [encTMark a]) x) (fun _ => []) (fun x => (fun (a : TMark) => True) x) (fun x => (fun (a : TMark) => (encTMark a : D)) x) (fun x => (fun (a : TMark) => []) x)
@[simp] theorem c39_f : c39.f = 39 := rfl
@[simp] theorem c39_own : c39.own = false := rfl
theorem c39_inj : ∀ u_ v_ : TMark, ((fun x => (fun (a : TMark) => [encTMark a]) x) u_).map nz = ((fun x => (fun (a : TMark) => [encTMark a]) x) v_).map nz → u_ = v_ := by
  intro u_ v_ h
  obtain ⟨a_Question, a_Answer⟩ := u_
  obtain ⟨a_Question', a_Answer'⟩ := v_
  simp [nz_lit, nz1_lit, nz_agg, nz_sl, nz1_sl, encTMark] at h
  first | (simp [h]; done) | (obtain ⟨⟩ := h; simp_all; done) | simp_all
@[simp] theorem c39_fn (a_Question : Int) (a_Answer : Int) : c39.fn [.agg [.lit (.int .i64 a_Question), .lit (.int .i64 a_Answer)]] [] = some ((fun (a : TMark) => True) ⟨a_Question, a_Answer⟩, (fun (a : TMark) => (encTMark a : D)) ⟨a_Question, a_Answer⟩, (fun (a : TMark) => []) ⟨a_Question, a_Answer⟩) :=
  mkCon_fn (fun x y h _ => c39_inj x y h) (⟨a_Question, a_Answer⟩ : TMark) (by simp [nz, nz1, ML_nil, encTMark]) rfl
theorem c39_pc (a : TMark) : PCo Try.prog 39 [encTMark a] (Tab.of []) (encTMark a) (Tab.of []) := by
  obtain ⟨a_Question, a_Answer⟩ := a
  refine pco_of_run [] (E := ⟨[], []⟩) (m := false) (base := 0) Env.ok_nil G_ok mix 300 6 Try.func39 (by kernel_rfl) rfl (by kernel_rfl) (by kernel_rfl) rfl ?_
  simp [Try.f39]
  all_goals first | omega | (rw [Bool.eq_iff_iff]; simp; omega) | grind
theorem c39_ok : c39.ok Try.prog := mkCon_ok fun a hpre => c39_pc a
/-- loop.example/g03007/laws.eqMark -/
noncomputable def c103 : Con := mkCon 103 false (α := TMark × TMark) (fun x => (fun (a : TMark) (b : TMark) => [encTMark a, encTMark b]) x.1 x.2) (fun _ => []) (fun x => (fun (a : TMark) (b : TMark) => True) x.1 x.2) (fun x => (fun (a : TMark) (b : TMark) => (dB (decide (a = b)) : D)) x.1 x.2) (fun x => (fun (a : TMark) (b : TMark) => []) x.1 x.2)
@[simp] theorem c103_f : c103.f = 103 := rfl
@[simp] theorem c103_own : c103.own = false := rfl
theorem c103_inj : ∀ u_ v_ : TMark × TMark, ((fun x => (fun (a : TMark) (b : TMark) => [encTMark a, encTMark b]) x.1 x.2) u_).map nz = ((fun x => (fun (a : TMark) (b : TMark) => [encTMark a, encTMark b]) x.1 x.2) v_).map nz → u_ = v_ := by
  intro u_ v_ h
  obtain ⟨⟨a_Question, a_Answer⟩, ⟨b_Question, b_Answer⟩⟩ := u_
  obtain ⟨⟨a_Question', a_Answer'⟩, ⟨b_Question', b_Answer'⟩⟩ := v_
  simp [nz_lit, nz1_lit, nz_agg, nz_sl, nz1_sl, encTMark] at h
  first | (simp [h]; done) | (obtain ⟨⟩ := h; simp_all; done) | simp_all
@[simp] theorem c103_fn (a_Question : Int) (a_Answer : Int) (b_Question : Int) (b_Answer : Int) : c103.fn [.agg [.lit (.int .i64 a_Question), .lit (.int .i64 a_Answer)], .agg [.lit (.int .i64 b_Question), .lit (.int .i64 b_Answer)]] [] = some ((fun (a : TMark) (b : TMark) => True) ⟨a_Question, a_Answer⟩ ⟨b_Question, b_Answer⟩, (fun (a : TMark) (b : TMark) => (dB (decide (a = b)) : D)) ⟨a_Question, a_Answer⟩ ⟨b_Question, b_Answer⟩, (fun (a : TMark) (b : TMark) => []) ⟨a_Question, a_Answer⟩ ⟨b_Question, b_Answer⟩) :=
  mkCon_fn (fun x y h _ => c103_inj x y h) ((⟨a_Question, a_Answer⟩, ⟨b_Question, b_Answer⟩) : TMark × TMark) (by simp [nz, nz1, ML_nil, encTMark]) rfl
theorem c103_pc (a : TMark) (b : TMark) : PCo Try.prog 103 [encTMark a, encTMark b] (Tab.of []) (dB (decide (a = b))) (Tab.of []) := by
  obtain ⟨a_Question, a_Answer⟩ := a
  obtain ⟨b_Question, b_Answer⟩ := b
  refine pco_of_run [] (E := ⟨[], []⟩) (m := false) (base := 0) Env.ok_nil G_ok mix 300 6 Try.func103 (by kernel_rfl) rfl (by kernel_rfl) (by kernel_rfl) rfl ?_
  simp [Try.f103]
  all_goals first | omega | (rw [Bool.eq_iff_iff]; simp; omega) | grind
theorem c103_ok : c103.ok Try.prog := mkCon_ok fun ⟨a, b⟩ hpre => c103_pc a b
/-- loop.example/g03007/laws.szMarkS -/
noncomputable def c36 : Con := mkCon 36 false (α := (List TMark) × Int) (fun x => (fun (l : List TMark) (left : Int) => [encLTMark l, dI left]) x.1 x.2) (fun _ => []) (fun x => (fun (l : List TMark) (left : Int) => l.length ≤ maxLen ∧ 0 ≤ left ∧ left ≤ 1099511627776) x.1 x.2) (fun x => (fun (l : List TMark) (left : Int) => (dI (if left - l.length < 0 then -1 else left - l.length) : D)) x.1 x.2) (fun x => (fun (l : List TMark) (left : Int) => []) x.1 x.2)
@[simp] theorem c36_f : c36.f = 36 := rfl
@[simp] theorem c36_own : c36.own = false := rfl
theorem c36_inj : ∀ u_ v_ : (List TMark) × Int, ((fun x => (fun (l : List TMark) (left : Int) => [encLTMark l, dI left]) x.1 x.2) u_).map nz = ((fun x => (fun (l : List TMark) (left : Int) => [encLTMark l, dI left]) x.1 x.2) v_).map nz → u_ = v_ := by
  intro u_ v_ h
  obtain ⟨l, left⟩ := u_
  obtain ⟨l', left'⟩ := v_
  simp [nz_lit, nz1_lit, nz_agg, nz_sl, nz1_sl, encLTMark] at h
  first | (simp [h]; done) | (obtain ⟨⟩ := h; simp_all; done) | simp_all
@[simp] theorem c36_fn (l : List TMark) (left : Int) : c36.fn [.sl false 2 yTMark (ML encTMark l), .lit (.int .i64 left)] [] = some ((fun (l : List TMark) (left : Int) => l.length ≤ maxLen ∧ 0 ≤ left ∧ left ≤ 1099511627776) l left, (fun (l : List TMark) (left : Int) => (dI (if left - l.length < 0 then -1 else left - l.length) : D)) l left, (fun (l : List TMark) (left : Int) => []) l left) :=
  mkCon_fn (fun x y h _ => c36_inj x y h) ((l, left) : (List TMark) × Int) (by simp [nz, nz1, ML_nil, encLTMark]) rfl
@[simp] theorem c36_fn1 (s_l : Nat) (z_l : D) (left : Int) : c36.fn [.sl false s_l z_l [], .lit (.int .i64 left)] [] = some ((fun (l : List TMark) (left : Int) => l.length ≤ maxLen ∧ 0 ≤ left ∧ left ≤ 1099511627776) [] left, (fun (l : List TMark) (left : Int) => (dI (if left - l.length < 0 then -1 else left - l.length) : D)) [] left, (fun (l : List TMark) (left : Int) => []) [] left) :=
  mkCon_fn (fun x y h _ => c36_inj x y h) (([], left) : (List TMark) × Int) (by simp [nz, nz1, ML_nil, encLTMark]) rfl
theorem c36_pc (l : List TMark) (left : Int) (hpre : l.length ≤ maxLen ∧ 0 ≤ left ∧ left ≤ 1099511627776) : PCo Try.prog 36 [encLTMark l, dI left] (Tab.of []) (dI (if left - l.length < 0 then -1 else left - l.length)) (Tab.of []) := by
  refine pco_of_run [] (E := ⟨[], []⟩) (m := false) (base := 0) Env.ok_nil G_ok mix 300 6 Try.func36 (by kernel_rfl) rfl (by kernel_rfl) (by kernel_rfl) rfl ?_
  simp [Try.f36]
  simp [maxLen] at hpre
  all_goals omega
theorem c36_ok : c36.ok Try.prog := mkCon_ok fun ⟨l, left⟩ hpre => c36_pc l left hpre
/-- loop.example/g03007/laws.toMarkS -/
noncomputable def c38 : Con := mkCon 38 false (α := (List TMark)) (fun x => (fun (l : List TMark) => [encLTMark l]) x) (fun _ => []) (fun x => (fun (l : List TMark) => l.length ≤ 1099511627776) x) (fun x => (fun (l : List TMark) => (.own (0, 1) 2 0 l.length : D)) x) (fun x => (fun (l : List TMark) => [((0, 1), .arr false 2 yTMark (ML encTMark l))]) x)
@[simp] theorem c38_f : c38.f = 38 := rfl
@[simp] theorem c38_own : c38.own = false := rfl
theorem c38_inj : ∀ u_ v_ : (List TMark), ((fun x => (fun (l : List TMark) => [encLTMark l]) x) u_).map nz = ((fun x => (fun (l : List TMark) => [encLTMark l]) x) v_).map nz → u_ = v_ := by
  intro u_ v_ h
  obtain l := u_
  obtain l' := v_
  simp [nz_lit, nz1_lit, nz_agg, nz_sl, nz1_sl, encLTMark] at h
  first | (simp [h]; done) | (obtain ⟨⟩ := h; simp_all; done) | simp_all
@[simp] theorem c38_fn (l : List TMark) : c38.fn [.sl false 2 yTMark (ML encTMark l)] [] = some ((fun (l : List TMark) => l.length ≤ 1099511627776) l, (fun (l : List TMark) => (.own (0, 1) 2 0 l.length : D)) l, (fun (l : List TMark) => [((0, 1), .arr false 2 yTMark (ML encTMark l))]) l) :=
  mkCon_fn (fun x y h _ => c38_inj x y h) (l : (List TMark)) (by simp [nz, nz1, ML_nil, encLTMark]) rfl
@[simp] theorem c38_fn1 (s_l : Nat) (z_l : D) : c38.fn [.sl false s_l z_l []] [] = some ((fun (l : List TMark) => l.length ≤ 1099511627776) [], (fun (l : List TMark) => (.own (0, 1) 2 0 l.length : D)) [], (fun (l : List TMark) => [((0, 1), .arr false 2 yTMark (ML encTMark l))]) []) :=
  mkCon_fn (fun x y h _ => c38_inj x y h) ([] : (List TMark)) (by simp [nz, nz1, ML_nil, encLTMark]) rfl
theorem c38_pc (l : List TMark) (hpre : l.length ≤ 1099511627776) : PCo Try.prog 38 [encLTMark l] (Tab.of []) (.own (0, 1) 2 0 l.length) (Tab.of [((0, 1), .arr false 2 yTMark (ML encTMark l))]) := by
  refine pco_of_run [] (E := ⟨[c39], []⟩) (m := false) (base := 0) (Env.ok_cons c39_ok Env.ok_nil) G_ok mix 300 6 Try.func38 (by kernel_rfl) rfl (by kernel_rfl) (by kernel_rfl) rfl ?_
  simp [Try.f38]
  refine ⟨by omega, ?_⟩
  refine loop_inv (fun p : Nat => p ≤ l.length) (fun p => [(0, encLTMark l), (3, .own (0, 1) 2 0 l.length), (4, dI p)]) (fun p => [((0, 1), .arr false 2 yTMark (ML encTMark (l.take p ++ List.replicate (l.length - p) ⟨0, 0⟩)))]) 2 (fun p => l.length - p) 0 100 (by simp) (by simp) (by first | (simp; done) | (simp; simp only [ML, List.map_replicate]; rfl)) ?_
  intro p hp
  simp
  refine ⟨fun hlt => ⟨by omega, by omega, Again.mk (p + 1) (by omega) (by simp [fill_step hlt]) (by first | omega | (simp; omega))⟩, fun hge => ?_⟩
  have : p = l.length := by omega
  subst this
  simp
theorem c38_ok : c38.ok Try.prog := mkCon_ok fun l hpre => c38_pc l hpre
/-- loop.example/g03007/laws.eqMarkS -/
noncomputable def c41 : Con := mkCon 41 false (α := (List TMark) × (List TMark)) (fun x => (fun (a : List TMark) (b : List TMark) => [encLTMark a, encLTMark b]) x.1 x.2) (fun _ => []) (fun x => (fun (a : List TMark) (b : List TMark) => a.length ≤ 1099511627776 ∧ b.length ≤ 1099511627776) x.1 x.2) (fun x => (fun (a : List TMark) (b : List TMark) => (dB (decide (a = b)) : D)) x.1 x.2) (fun x => (fun (a : List TMark) (b : List TMark) => []) x.1 x.2)
@[simp] theorem c41_f : c41.f = 41 := rfl
@[simp] theorem c41_own : c41.own = false := rfl
theorem c41_inj : ∀ u_ v_ : (List TMark) × (List TMark), ((fun x => (fun (a : List TMark) (b : List TMark) => [encLTMark a, encLTMark b]) x.1 x.2) u_).map nz = ((fun x => (fun (a : List TMark) (b : List TMark) => [encLTMark a, encLTMark b]) x.1 x.2) v_).map nz → u_ = v_ := by
  intro u_ v_ h
  obtain ⟨a, b⟩ := u_
  obtain ⟨a', b'⟩ := v_
  simp [nz_lit, nz1_lit, nz_agg, nz_sl, nz1_sl, encLTMark] at h
  first | (simp [h]; done) | (obtain ⟨⟩ := h; simp_all; done) | simp_all
@[simp] theorem c41_fn (a : List TMark) (b : List TMark) : c41.fn [.sl false 2 yTMark (ML encTMark a), .sl false 2 yTMark (ML encTMark b)] [] = some ((fun (a : List TMark) (b : List TMark) => a.length ≤ 1099511627776 ∧ b.length ≤ 1099511627776) a b, (fun (a : List TMark) (b : List TMark) => (dB (decide (a = b)) : D)) a b, (fun (a : List TMark) (b : List TMark) => []) a b) :=
  mkCon_fn (fun x y h _ => c41_inj x y h) ((a, b) : (List TMark) × (List TMark)) (by simp [nz, nz1, ML_nil, encLTMark]) rfl
@[simp] theorem c41_fn1 (s_a : Nat) (z_a : D) (b : List TMark) : c41.fn [.sl false s_a z_a [], .sl false 2 yTMark (ML encTMark b)] [] = some ((fun (a : List TMark) (b : List TMark) => a.length ≤ 1099511627776 ∧ b.length ≤ 1099511627776) [] b, (fun (a : List TMark) (b : List TMark) => (dB (decide (a = b)) : D)) [] b, (fun (a : List TMark) (b : List TMark) => []) [] b) :=
  mkCon_fn (fun x y h _ => c41_inj x y h) (([], b) : (List TMark) × (List TMark)) (by simp [nz, nz1, ML_nil, encLTMark]) rfl
@[simp] theorem c41_fn2 (a : List TMark) (s_b : Nat) (z_b : D) : c41.fn [.sl false 2 yTMark (ML encTMark a), .sl false s_b z_b []] [] = some ((fun (a : List TMark) (b : List TMark) => a.length ≤ 1099511627776 ∧ b.length ≤ 1099511627776) a [], (fun (a : List TMark) (b : List TMark) => (dB (decide (a = b)) : D)) a [], (fun (a : List TMark) (b : List TMark) => []) a []) :=
  mkCon_fn (fun x y h _ => c41_inj x y h) ((a, []) : (List TMark) × (List TMark)) (by simp [nz, nz1, ML_nil, encLTMark]) rfl
@[simp] theorem c41_fn3 (s_a : Nat) (z_a : D) (s_b : Nat) (z_b : D) : c41.fn [.sl false s_a z_a [], .sl false s_b z_b []] [] = some ((fun (a : List TMark) (b : List TMark) => a.length ≤ 1099511627776 ∧ b.length ≤ 1099511627776) [] [], (fun (a : List TMark) (b : List TMark) => (dB (decide (a = b)) : D)) [] [], (fun (a : List TMark) (b : List TMark) => []) [] []) :=
  mkCon_fn (fun x y h _ => c41_inj x y h) (([], []) : (List TMark) × (List TMark)) (by simp [nz, nz1, ML_nil, encLTMark]) rfl
theorem c41_pc (a : List TMark) (b : List TMark) (hpre : a.length ≤ 1099511627776 ∧ b.length ≤ 1099511627776) : PCo Try.prog 41 [encLTMark a, encLTMark b] (Tab.of []) (dB (decide (a = b))) (Tab.of []) := by
  refine pco_of_run [] (E := ⟨[c103], []⟩) (m := false) (base := 0) (Env.ok_cons c103_ok Env.ok_nil) G_ok mix 300 6 Try.func41 (by kernel_rfl) rfl (by kernel_rfl) (by kernel_rfl) rfl ?_
  simp [Try.f41]
  obtain ⟨pre1, pre2⟩ := hpre
  refine ⟨fun h => ?_, fun h => by intro e; subst e; exact absurd rfl h⟩
  refine loop_inv (fun p : Nat => p ≤ a.length ∧ a.take p = b.take p) (fun p => [(0, encLTMark a), (1, encLTMark b), (5, dI p)]) (fun _ => []) 1 (fun p => a.length - p) 0 100 (by simp) (by simp) (by simp) ?_
  intro p ⟨hp, hi⟩
  simp
  refine ⟨fun hlt => ⟨by omega, fun h2 => ⟨by omega, Again.mk (p + 1) ⟨by omega, take_eq_step hi (by omega) (by omega) h2⟩ (by simp) (by first | omega | (simp; omega))⟩, fun h2 => by intro e; subst e; exact absurd rfl h2⟩, fun hge => ?_⟩
  exact take_eq_full hi (by omega) (by omega)
theorem c41_ok : c41.ok Try.prog := mkCon_ok fun ⟨a, b⟩ hpre => c41_pc a b hpre
def mIsMark (m : TMark) : Bool := mIn m.Question 1 20 && mIn m.Answer 0 99
@[simp] def nMark (m : TMark) : Int := m.Question
/-- loop.example/g03007/impl.isMark -/
noncomputable def c143 : Con := mkCon 143 false (α := TMark) (fun x => (fun (m : TMark) => [encTMark m]) x) (fun _ => []) (fun x => (fun (m : TMark) => True) x) (fun x => (fun (m : TMark) => (dB (mIsMark m) : D)) x) (fun x => (fun (m : TMark) => []) x)
@[simp] theorem c143_f : c143.f = 143 := rfl
@[simp] theorem c143_own : c143.own = false := rfl
theorem c143_inj : ∀ u_ v_ : TMark, ((fun x => (fun (m : TMark) => [encTMark m]) x) u_).map nz = ((fun x => (fun (m : TMark) => [encTMark m]) x) v_).map nz → u_ = v_ := by
  intro u_ v_ h
  obtain ⟨m_Question, m_Answer⟩ := u_
  obtain ⟨m_Question', m_Answer'⟩ := v_
  simp [nz_lit, nz1_lit, nz_agg, nz_sl, nz1_sl, encTMark] at h
  first | (simp [h]; done) | (obtain ⟨⟩ := h; simp_all; done) | simp_all
@[simp] theorem c143_fn (m_Question : Int) (m_Answer : Int) : c143.fn [.agg [.lit (.int .i64 m_Question), .lit (.int .i64 m_Answer)]] [] = some ((fun (m : TMark) => True) ⟨m_Question, m_Answer⟩, (fun (m : TMark) => (dB (mIsMark m) : D)) ⟨m_Question, m_Answer⟩, (fun (m : TMark) => []) ⟨m_Question, m_Answer⟩) :=
  mkCon_fn (fun x y h _ => c143_inj x y h) (⟨m_Question, m_Answer⟩ : TMark) (by simp [nz, nz1, ML_nil, encTMark]) rfl
theorem c143_pc (m : TMark) : PCo Try.prog 143 [encTMark m] (Tab.of []) (dB (mIsMark m)) (Tab.of []) := by
  obtain ⟨m_Question, m_Answer⟩ := m
  refine pco_of_run [1] (E := ⟨[c155], []⟩) (m := false) (base := 0) (Env.ok_cons c155_ok Env.ok_nil) G_ok mix 300 6 Try.func143 (by kernel_rfl) rfl (by kernel_rfl) (by kernel_rfl) rfl ?_
  simp [Try.f143]
  rw [Bool.eq_iff_iff]
  simp [mIsMark, mIn]
  omega
theorem c143_ok : c143.ok Try.prog := mkCon_ok fun m hpre => c143_pc m
def mAreMarks (l : List TMark) : Bool := decide (l.length ≤ 8) && ascBy mIsMark nMark none l
/-- loop.example/g03007/spec.AreMarks -/
noncomputable def c98 : Con := mkCon 98 false (α := (List TMark)) (fun x => (fun (l : List TMark) => [encLTMark l]) x) (fun _ => []) (fun x => (fun (l : List TMark) => l.length ≤ 1099511627776) x) (fun x => (fun (l : List TMark) => (dB (mAreMarks l) : D)) x) (fun x => (fun (l : List TMark) => []) x)
@[simp] theorem c98_f : c98.f = 98 := rfl
@[simp] theorem c98_own : c98.own = false := rfl
theorem c98_inj : ∀ u_ v_ : (List TMark), ((fun x => (fun (l : List TMark) => [encLTMark l]) x) u_).map nz = ((fun x => (fun (l : List TMark) => [encLTMark l]) x) v_).map nz → u_ = v_ := by
  intro u_ v_ h
  obtain l := u_
  obtain l' := v_
  simp [nz_lit, nz1_lit, nz_agg, nz_sl, nz1_sl, encLTMark] at h
  first | (simp [h]; done) | (obtain ⟨⟩ := h; simp_all; done) | simp_all
@[simp] theorem c98_fn (l : List TMark) : c98.fn [.sl false 2 yTMark (ML encTMark l)] [] = some ((fun (l : List TMark) => l.length ≤ 1099511627776) l, (fun (l : List TMark) => (dB (mAreMarks l) : D)) l, (fun (l : List TMark) => []) l) :=
  mkCon_fn (fun x y h _ => c98_inj x y h) (l : (List TMark)) (by simp [nz, nz1, ML_nil, encLTMark]) rfl
@[simp] theorem c98_fn1 (s_l : Nat) (z_l : D) : c98.fn [.sl false s_l z_l []] [] = some ((fun (l : List TMark) => l.length ≤ 1099511627776) [], (fun (l : List TMark) => (dB (mAreMarks l) : D)) [], (fun (l : List TMark) => []) []) :=
  mkCon_fn (fun x y h _ => c98_inj x y h) ([] : (List TMark)) (by simp [nz, nz1, ML_nil, encLTMark]) rfl
theorem c98_pc (l : List TMark) (hpre : l.length ≤ 1099511627776) : PCo Try.prog 98 [encLTMark l] (Tab.of []) (dB (mAreMarks l)) (Tab.of []) := by
  refine pco_of_run [] (E := ⟨[c116], []⟩) (m := false) (base := 0) (Env.ok_cons c116_ok Env.ok_nil) G_ok mix 300 6 Try.func98 (by kernel_rfl) rfl (by kernel_rfl) (by kernel_rfl) rfl ?_
  simp [Try.f98]
  refine loop_inv (fun p : Nat => p ≤ l.length ∧ ascBy mIsMark nMark none l = ascBy mIsMark nMark (prevO nMark l p) (l.drop p)) (fun p => [(0, encLTMark l), (2, dB false), (3, dI p)]) (fun _ => []) 1 (fun p => l.length - p) 0 400 (by simp) (by simp) (by simp) ?_
  intro p ⟨hp, hi⟩
  simp
  refine ⟨fun hlt => ?_, fun hge => ?_⟩
  · rw [ascBy_at hlt] at hi; simp only [nMark, mIsMark] at hi
    repeat' (first | omega | refine And.intro ?_ ?_ | intro _)
    all_goals first | exact Again.mk (p + 1) ⟨by omega, by rw [hi]; grind⟩ (by simp) (by first | omega | (simp; omega)) | (rw [mAreMarks, hi]; grind)
  · rw [mAreMarks, hi, ascBy_end hge]; simp; omega
theorem c98_ok : c98.ok Try.prog := mkCon_ok fun l hpre => c98_pc l hpre
/-- loop.example/g03007/impl.marksInOrder -/
noncomputable def c99 : Con := mkCon 99 false (α := (List TMark)) (fun x => (fun (l : List TMark) => [encLTMark l]) x) (fun _ => []) (fun x => (fun (l : List TMark) => True) x) (fun x => (fun (l : List TMark) => (.agg [.sl false 2 yTMark (ML encTMark l), .fn (.func 139) [] []] : D)) x) (fun x => (fun (l : List TMark) => []) x)
@[simp] theorem c99_f : c99.f = 99 := rfl
@[simp] theorem c99_own : c99.own = false := rfl
theorem c99_inj : ∀ u_ v_ : (List TMark), ((fun x => (fun (l : List TMark) => [encLTMark l]) x) u_).map nz = ((fun x => (fun (l : List TMark) => [encLTMark l]) x) v_).map nz → u_ = v_ := by
  intro u_ v_ h
  obtain l := u_
  obtain l' := v_
  simp [nz_lit, nz1_lit, nz_agg, nz_sl, nz1_sl, encLTMark] at h
  first | (simp [h]; done) | (obtain ⟨⟩ := h; simp_all; done) | simp_all
@[simp] theorem c99_fn (l : List TMark) : c99.fn [.sl false 2 yTMark (ML encTMark l)] [] = some ((fun (l : List TMark) => True) l, (fun (l : List TMark) => (.agg [.sl false 2 yTMark (ML encTMark l), .fn (.func 139) [] []] : D)) l, (fun (l : List TMark) => []) l) :=
  mkCon_fn (fun x y h _ => c99_inj x y h) (l : (List TMark)) (by simp [nz, nz1, ML_nil, encLTMark]) rfl
@[simp] theorem c99_fn1 (s_l : Nat) (z_l : D) : c99.fn [.sl false s_l z_l []] [] = some ((fun (l : List TMark) => True) [], (fun (l : List TMark) => (.agg [.sl false 2 yTMark (ML encTMark l), .fn (.func 139) [] []] : D)) [], (fun (l : List TMark) => []) []) :=
  mkCon_fn (fun x y h _ => c99_inj x y h) ([] : (List TMark)) (by simp [nz, nz1, ML_nil, encLTMark]) rfl
theorem c99_pc (l : List TMark) : PCo Try.prog 99 [encLTMark l] (Tab.of []) (.agg [.sl false 2 yTMark (ML encTMark l), .fn (.func 139) [] []]) (Tab.of []) := by
  refine pco_of_run [] (E := ⟨[], []⟩) (m := false) (base := 0) Env.ok_nil G_ok mix 300 6 Try.func99 (by kernel_rfl) rfl (by kernel_rfl) (by kernel_rfl) rfl ?_
  simp [Try.f99]
  all_goals first | omega | (rw [Bool.eq_iff_iff]; simp; omega) | grind
theorem c99_ok : c99.ok Try.prog := mkCon_ok fun l hpre => c99_pc l
/-- loop.example/g03007/impl.marksInOrder$1 -/
noncomputable def c139 : Con := mkCon 139 false (α := TMark) (fun x => (fun (x : TMark) => [encTMark x]) x) (fun _ => []) (fun x => (fun (x : TMark) => True) x) (fun x => (fun (x : TMark) => (dI (nMark x) : D)) x) (fun x => (fun (x : TMark) => []) x)
@[simp] theorem c139_f : c139.f = 139 := rfl
@[simp] theorem c139_own : c139.own = false := rfl
theorem c139_inj : ∀ u_ v_ : TMark, ((fun x => (fun (x : TMark) => [encTMark x]) x) u_).map nz = ((fun x => (fun (x : TMark) => [encTMark x]) x) v_).map nz → u_ = v_ := by
  intro u_ v_ h
  obtain ⟨x_Question, x_Answer⟩ := u_
  obtain ⟨x_Question', x_Answer'⟩ := v_
  simp [nz_lit, nz1_lit, nz_agg, nz_sl, nz1_sl, encTMark] at h
  first | (simp [h]; done) | (obtain ⟨⟩ := h; simp_all; done) | simp_all
@[simp] theorem c139_fn (x_Question : Int) (x_Answer : Int) : c139.fn [.agg [.lit (.int .i64 x_Question), .lit (.int .i64 x_Answer)]] [] = some ((fun (x : TMark) => True) ⟨x_Question, x_Answer⟩, (fun (x : TMark) => (dI (nMark x) : D)) ⟨x_Question, x_Answer⟩, (fun (x : TMark) => []) ⟨x_Question, x_Answer⟩) :=
  mkCon_fn (fun x y h _ => c139_inj x y h) (⟨x_Question, x_Answer⟩ : TMark) (by simp [nz, nz1, ML_nil, encTMark]) rfl
theorem c139_pc (x : TMark) : PCo Try.prog 139 [encTMark x] (Tab.of []) (dI (nMark x)) (Tab.of []) := by
  obtain ⟨x_Question, x_Answer⟩ := x
  refine pco_of_run [] (E := ⟨[], []⟩) (m := false) (base := 0) Env.ok_nil G_ok mix 300 6 Try.func139 (by kernel_rfl) rfl (by kernel_rfl) (by kernel_rfl) rfl ?_
  simp [Try.f139]
  all_goals first | omega | (rw [Bool.eq_iff_iff]; simp; omega) | grind
theorem c139_ok : c139.ok Try.prog := mkCon_ok fun x hpre => c139_pc x
/-- (loop.example/g03007/impl.sortedList[loop.example/g03007/impl.Mark]).isValid -/
noncomputable def c142 : Con := mkCon 142 false (α := (List TMark) × Int) (fun x => (fun (l : List TMark) (lim : Int) => ([.agg [.sl false 2 yTMark (ML encTMark l), .fn (.func 139) [] []], dI lim, .fn (.func 143) [] []] : List D)) x.1 x.2) (fun x => (fun (l : List TMark) (lim : Int) => ([] : List (Nm × OO))) x.1 x.2) (fun x => (fun (l : List TMark) (lim : Int) => l.length ≤ 1099511627776) x.1 x.2) (fun x => (fun (l : List TMark) (lim : Int) => (dB (decide (l.length ≤ lim) && ascBy mIsMark nMark none l) : D)) x.1 x.2) (fun x => (fun (l : List TMark) (lim : Int) => ([] : List (Nm × OO))) x.1 x.2)
@[simp] theorem c142_f : c142.f = 142 := rfl
@[simp] theorem c142_own : c142.own = false := rfl
theorem c142_inj : ∀ u_ v_ : (List TMark) × Int, ((fun x => (fun (l : List TMark) (lim : Int) => ([.agg [.sl false 2 yTMark (ML encTMark l), .fn (.func 139) [] []], dI lim, .fn (.func 143) [] []] : List D)) x.1 x.2) u_).map nz = ((fun x => (fun (l : List TMark) (lim : Int) => ([.agg [.sl false 2 yTMark (ML encTMark l), .fn (.func 139) [] []], dI lim, .fn (.func 143) [] []] : List D)) x.1 x.2) v_).map nz → (fun x => (fun (l : List TMark) (lim : Int) => ([] : List (Nm × OO))) x.1 x.2) u_ = (fun x => (fun (l : List TMark) (lim : Int) => ([] : List (Nm × OO))) x.1 x.2) v_ → u_ = v_ := by
  intro u_ v_ h h2_
  obtain ⟨l, lim⟩ := u_
  obtain ⟨l', lim'⟩ := v_
  simp [nz_lit, nz1_lit, nz_agg, nz_sl, nz1_sl, nz_sx, nz_el, nz1_el, nz_own, nz1_own, nz_ptr, nz_fn, nz_iface] at h h2_
  first | (simp [h, h2_]; done) | simp_all | grind
@[simp] theorem c142_fn (l : List TMark) (lim : Int) : c142.fn ([.agg [.sl false 2 yTMark (ML encTMark l), .fn (.func 139) [] []], dI lim, .fn (.func 143) [] []]) ([]) = some (l.length ≤ 1099511627776, dB (decide (l.length ≤ lim) && ascBy mIsMark nMark none l), []) :=
  mkCon_fn c142_inj ((l, lim) : (List TMark) × Int) rfl rfl
theorem c142_pc (l : List TMark) (lim : Int) (hpre : l.length ≤ 1099511627776) : PCo Try.prog 142 ([.agg [.sl false 2 yTMark (ML encTMark l), .fn (.func 139) [] []], dI lim, .fn (.func 143) [] []]) (Tab.of ([])) (dB (decide (l.length ≤ lim) && ascBy mIsMark nMark none l)) (Tab.of ([])) := by
  refine pco_of_run [6] (E := ⟨[c139, c143], []⟩) (m := false) (base := 0) (Env.ok_cons c139_ok (Env.ok_cons c143_ok Env.ok_nil)) G_ok mix 300 6 Try.func142 (by kernel_rfl) rfl (by kernel_rfl) (by kernel_rfl) rfl ?_
  simp [Try.f142]
  refine ⟨fun h h2 => by omega, fun hlim => ?_⟩
  refine loop_inv (fun p : Nat => p ≤ l.length ∧ ascBy mIsMark nMark none l = ascBy mIsMark nMark (prevO nMark l p) (l.drop p)) (fun p => [(2, .fn (.func 143) [] []), (3, .ptr (0, 1) 0), (6, dB false), (15, .sl false 2 yTMark (ML encTMark l)), (16, dI l.length), (17, dI p)]) (fun _ => [((0, 1), .box (.agg [.sl false 2 yTMark (ML encTMark l), .fn (.func 139) [] []]))]) 2 (fun p => l.length - p) 0 400 (by simp) (by simp) (by simp) ?_
  intro p ⟨hp, hi⟩
  simp
  refine ⟨fun hlt => ?_, fun hge => ?_⟩
  · rw [ascBy_at hlt] at hi; simp only [nMark, wantN] at hi
    repeat' (first | omega | refine And.intro ?_ ?_ | intro _)
    all_goals first | exact Again.mk (p + 1) ⟨by omega, by rw [hi]; grind⟩ (by simp) (by first | omega | (simp; omega)) | (rw [hi]; grind)
  · rw [hi, ascBy_end hge]; simp; omega
theorem c142_ok : c142.ok Try.prog := mkCon_ok fun ⟨l, lim⟩ hpre => c142_pc l lim hpre
/-- loop.example/g03007/impl.AreMarks -/
noncomputable def c101 : Con := mkCon 101 false (α := (List TMark)) (fun x => (fun (l : List TMark) => [encLTMark l]) x) (fun _ => []) (fun x => (fun (l : List TMark) => l.length ≤ 1099511627776) x) (fun x => (fun (l : List TMark) => (dB (mAreMarks l) : D)) x) (fun x => (fun (l : List TMark) => []) x)
@[simp] theorem c101_f : c101.f = 101 := rfl
@[simp] theorem c101_own : c101.own = false := rfl
theorem c101_inj : ∀ u_ v_ : (List TMark), ((fun x => (fun (l : List TMark) => [encLTMark l]) x) u_).map nz = ((fun x => (fun (l : List TMark) => [encLTMark l]) x) v_).map nz → u_ = v_ := by
  intro u_ v_ h
  obtain l := u_
  obtain l' := v_
  simp [nz_lit, nz1_lit, nz_agg, nz_sl, nz1_sl, encLTMark] at h
  first | (simp [h]; done) | (obtain ⟨⟩ := h; simp_all; done) | simp_all
@[simp] theorem c101_fn (l : List TMark) : c101.fn [.sl false 2 yTMark (ML encTMark l)] [] = some ((fun (l : List TMark) => l.length ≤ 1099511627776) l, (fun (l : List TMark) => (dB (mAreMarks l) : D)) l, (fun (l : List TMark) => []) l) :=
  mkCon_fn (fun x y h _ => c101_inj x y h) (l : (List TMark)) (by simp [nz, nz1, ML_nil, encLTMark]) rfl
@[simp] theorem c101_fn1 (s_l : Nat) (z_l : D) : c101.fn [.sl false s_l z_l []] [] = some ((fun (l : List TMark) => l.length ≤ 1099511627776) [], (fun (l : List TMark) => (dB (mAreMarks l) : D)) [], (fun (l : List TMark) => []) []) :=
  mkCon_fn (fun x y h _ => c101_inj x y h) ([] : (List TMark)) (by simp [nz, nz1, ML_nil, encLTMark]) rfl
theorem c101_pc (l : List TMark) (hpre : l.length ≤ 1099511627776) : PCo Try.prog 101 [encLTMark l] (Tab.of []) (dB (mAreMarks l)) (Tab.of []) := by
  refine pco_of_run [] (E := ⟨[c99, c142, c143, c143], []⟩) (m := false) (base := 0) (Env.ok_cons c99_ok (Env.ok_cons c142_ok (Env.ok_cons c143_ok (Env.ok_cons c143_ok Env.ok_nil)))) G_ok mix 300 6 Try.func101 (by kernel_rfl) rfl (by kernel_rfl) (by kernel_rfl) rfl ?_
  simp [Try.f101]
  have h : ((l.length : Int) ≤ 8) ↔ l.length ≤ 8 := by omega
  simp [mAreMarks, h, hpre]
theorem c101_ok : c101.ok Try.prog := mkCon_ok fun l hpre => c101_pc l hpre
/-- what the marks' text is sealed of -/
def sealL (salt : Int) : List TMark → List Int
  | [] => [salt]
  | l => salt :: l.flatMap fun m => [m.Question, m.Answer]
def mSealL (salt : Int) (l : List TMark) : List Int := salt :: l.flatMap fun m => [m.Question, m.Answer]
theorem mSealL_at {salt : Int} {l : List TMark} {p : Nat} (h : p < l.length) : mSealL salt (l.take (p + 1)) = mSealL salt (l.take p) ++ [(l[p]?.getD default).Question, (l[p]?.getD default).Answer] := by
  rw [take_at (d := default) h]; simp [mSealL]
theorem mSealL_len (salt : Int) : ∀ (l : List TMark), (mSealL salt l).length = 2 * l.length + 1
  | [] => rfl
  | x :: l => by have := mSealL_len salt l; simp [mSealL] at this ⊢; omega
def mSeal (l : List TMark) (salt : Int) : Int := mHash (mSealL salt l)
def mOpens (l : List TMark) (salt s : Int) : Bool := mAreMarks l && decide (mSeal l salt = s)
def lookQ (q : Int) : List TMark → Int
  | [] => -1
  | x :: r => if x.Question = q then x.Answer else lookQ q r
theorem lookQ_at {q : Int} {l : List TMark} {p : Nat} (h : p < l.length) : lookQ q (l.drop p) = if (l[p]?.getD default).Question = q then (l[p]?.getD default).Answer else lookQ q (l.drop (p + 1)) := by
  rw [drop_at (d := default) h, lookQ]
theorem lookQ_end {q : Int} {l : List TMark} {p : Nat} (h : l.length ≤ p) : lookQ q (l.drop p) = -1 := by
  rw [List.drop_eq_nil_of_le h, lookQ]
def hInts (l : List Int) : Int := mHash l
def mQuestion (l : List TMark) (claim n : Int) : Int := if decide (l.length = 0) || !mAreMarks l || !mIn n 0 1000 then 0 else (l[((mHash [claim] + n) % l.length).toNat]?.getD default).Question
theorem question_nil {l : List TMark} {c n : Int} (h : (l = [] ∨ mAreMarks l = false) ∨ mIn n 0 1000 = false) : 0 = mQuestion l c n := by
  simp only [mQuestion]
  rw [if_pos]
  rcases h with (h | h) | h <;> simp [h]
theorem question_of {l : List TMark} {c n : Int} (h1 : ¬ l = []) (h2 : mAreMarks l = true) (h3 : mIn n 0 1000 = true) : mQuestion l c n = (l[((mHash [c] + n) % l.length).toNat]?.getD default).Question := by
  simp only [mQuestion]
  rw [if_neg (by simp [h1, h2, h3])]
def ksQ (l : List TMark) : List Int := l.foldl (fun ks m => insI ks m.Question) []
theorem insI_iff {ks : List Int} {v k : Int} : k ∈ insI ks v ↔ k ∈ ks ∨ k = v := by
  simp only [insI]; split
  · rename_i h; constructor
    · exact .inl
    · rintro (h' | rfl)
      · exact h'
      · exact h
  · simp
theorem ksQ_fold {k : Int} : ∀ (l : List TMark) (ks : List Int), k ∈ l.foldl (fun ks m => insI ks m.Question) ks ↔ k ∈ ks ∨ ∃ m ∈ l, m.Question = k
  | [], ks => by simp
  | x :: l, ks => by
    rw [List.foldl_cons, ksQ_fold l, insI_iff]
    simp only [List.mem_cons]
    constructor
    · rintro ((h | h) | ⟨m, h1, h2⟩)
      · exact .inl h
      · exact .inr ⟨x, .inl rfl, h.symm⟩
      · exact .inr ⟨m, .inr h1, h2⟩
    · rintro (h | ⟨m, (rfl | h1), h2⟩)
      · exact .inl (.inl h)
      · exact .inl (.inr h2.symm)
      · exact .inr ⟨m, h1, h2⟩
theorem ksQ_mem {k : Int} {l : List TMark} : k ∈ ksQ l ↔ ∃ m ∈ l, m.Question = k := by simp [ksQ, ksQ_fold]
theorem ksQ_at {l : List TMark} {p : Nat} (h : p < l.length) : ksQ (l.take (p + 1)) = insI (ksQ (l.take p)) (l[p]?.getD default).Question := by
  simp only [ksQ]; rw [foldl_at (d := default) h]
theorem lookQ_skip {k : Int} : ∀ (l r : List TMark), (¬ ∃ m ∈ l, m.Question = k) → lookQ k (l ++ r) = lookQ k r
  | [], r, _ => rfl
  | x :: l, r, h => by
    have h1 : ¬ x.Question = k := fun e => h ⟨x, by simp, e⟩
    have h2 : ¬ ∃ m ∈ l, m.Question = k := fun ⟨m, hm, e⟩ => h ⟨m, by simp [hm], e⟩
    rw [List.cons_append, lookQ, if_neg h1, lookQ_skip l r h2]
theorem lookQ_none {k : Int} {l : List TMark} (h : k ∉ ksQ l) : lookQ k l = -1 := by
  have := lookQ_skip l [] (fun h' => h (ksQ_mem.2 h'))
  simpa [lookQ] using this
theorem lookQ_new {l : List TMark} {p : Nat} (h : p < l.length) (hn : (l[p]?.getD default).Question ∉ ksQ (l.take p)) : lookQ (l[p]?.getD default).Question l = (l[p]?.getD default).Answer := by
  have h1 := lookQ_skip (k := (l[p]?.getD default).Question) (l.take p) (l.drop p) (fun h' => hn (ksQ_mem.2 h'))
  rw [List.take_append_drop, lookQ_at h, if_pos rfl] at h1
  exact h1
end Go.Proofs.Ytkccphdoolpmaaa
