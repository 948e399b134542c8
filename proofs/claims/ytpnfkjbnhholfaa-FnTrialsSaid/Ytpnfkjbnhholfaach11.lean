/- Contracts of the functions that the laws run. -/
import Derived.Test.Ytpnfkjbnhholfaach03
import Derived.Test.YtpnfkjbnhholfaaEngB
namespace Go.Proofs.Ytpnfkjbnhholfaa
open Go Go.Eng
set_option linter.unusedSimpArgs false
set_option linter.unusedVariables false
set_option maxRecDepth 10000
set_option maxHeartbeats 1000000
def mIsMark (m : TMark) : Bool := mIn m.Question 1 20 && mIn m.Answer 0 99
@[simp] def nMark (m : TMark) : Int := m.Question
/-- loop.example/g03007/impl.isMark -/
noncomputable def c92 : Con := mkCon 92 false (α := TMark) (fun x => (fun (m : TMark) => [encTMark m]) x) (fun _ => []) (fun x => (fun (m : TMark) => True) x) (fun x => (fun (m : TMark) => (dB (mIsMark m) : D)) x) (fun x => (fun (m : TMark) => []) x)
@[simp] theorem c92_f : c92.f = 92 := rfl
@[simp] theorem c92_own : c92.own = false := rfl
theorem c92_inj : ∀ u_ v_ : TMark, ((fun x => (fun (m : TMark) => [encTMark m]) x) u_).map nz = ((fun x => (fun (m : TMark) => [encTMark m]) x) v_).map nz → u_ = v_ := by
  intro u_ v_ h
  obtain ⟨m_Question, m_Answer⟩ := u_
  obtain ⟨m_Question', m_Answer'⟩ := v_
  simp [nz_lit, nz1_lit, nz_agg, nz_sl, nz1_sl, encTMark] at h
  first | (simp [h]; done) | (obtain ⟨⟩ := h; simp_all; done) | simp_all
@[simp] theorem c92_fn (m_Question : Int) (m_Answer : Int) : c92.fn [.agg [.lit (.int .i64 m_Question), .lit (.int .i64 m_Answer)]] [] = some ((fun (m : TMark) => True) ⟨m_Question, m_Answer⟩, (fun (m : TMark) => (dB (mIsMark m) : D)) ⟨m_Question, m_Answer⟩, (fun (m : TMark) => []) ⟨m_Question, m_Answer⟩) :=
  mkCon_fn (fun x y h _ => c92_inj x y h) (⟨m_Question, m_Answer⟩ : TMark) (by simp [nz, nz1, ML_nil, encTMark]) rfl
theorem c92_pc (m : TMark) : PCo Try.prog 92 [encTMark m] (Tab.of []) (dB (mIsMark m)) (Tab.of []) := by
  obtain ⟨m_Question, m_Answer⟩ := m
  refine pco_of_run [1] (E := ⟨[c155], [], []⟩) (m := false) (base := 0) (Env.ok_cons c155_ok Env.ok_nil) G_ok mix 300 6 Try.func92 (by kernel_rfl) rfl (by kernel_rfl) (by kernel_rfl) rfl ?_
  simp [Try.f92]
  rw [Bool.eq_iff_iff]
  simp [mIsMark, mIn]
  omega
theorem c92_ok : c92.ok Try.prog := mkCon_ok fun m hpre => c92_pc m
def mAreMarks (l : List TMark) : Bool := decide (l.length ≤ 8) && ascBy mIsMark nMark none l
/-- loop.example/g03007/spec.AreMarks -/
noncomputable def c194 : Con := mkCon 194 false (α := (List TMark)) (fun x => (fun (l : List TMark) => [encLTMark l]) x) (fun _ => []) (fun x => (fun (l : List TMark) => l.length ≤ 1099511627776) x) (fun x => (fun (l : List TMark) => (dB (mAreMarks l) : D)) x) (fun x => (fun (l : List TMark) => []) x)
@[simp] theorem c194_f : c194.f = 194 := rfl
@[simp] theorem c194_own : c194.own = false := rfl
theorem c194_inj : ∀ u_ v_ : (List TMark), ((fun x => (fun (l : List TMark) => [encLTMark l]) x) u_).map nz = ((fun x => (fun (l : List TMark) => [encLTMark l]) x) v_).map nz → u_ = v_ := by
  intro u_ v_ h
  obtain l := u_
  obtain l' := v_
  simp [nz_lit, nz1_lit, nz_agg, nz_sl, nz1_sl, encLTMark] at h
  first | (simp [h]; done) | (obtain ⟨⟩ := h; simp_all; done) | simp_all
@[simp] theorem c194_fn (l : List TMark) : c194.fn [.sl false 2 yTMark (ML encTMark l)] [] = some ((fun (l : List TMark) => l.length ≤ 1099511627776) l, (fun (l : List TMark) => (dB (mAreMarks l) : D)) l, (fun (l : List TMark) => []) l) :=
  mkCon_fn (fun x y h _ => c194_inj x y h) (l : (List TMark)) (by simp [nz, nz1, ML_nil, encLTMark]) rfl
@[simp] theorem c194_fn1 (s_l : Nat) (z_l : D) : c194.fn [.sl false s_l z_l []] [] = some ((fun (l : List TMark) => l.length ≤ 1099511627776) [], (fun (l : List TMark) => (dB (mAreMarks l) : D)) [], (fun (l : List TMark) => []) []) :=
  mkCon_fn (fun x y h _ => c194_inj x y h) ([] : (List TMark)) (by simp [nz, nz1, ML_nil, encLTMark]) rfl
theorem c194_pc (l : List TMark) (hpre : l.length ≤ 1099511627776) : PCo Try.prog 194 [encLTMark l] (Tab.of []) (dB (mAreMarks l)) (Tab.of []) := by
  refine pco_of_run [] (E := ⟨[c108], [], []⟩) (m := false) (base := 0) (Env.ok_cons c108_ok Env.ok_nil) G_ok mix 300 6 Try.func194 (by kernel_rfl) rfl (by kernel_rfl) (by kernel_rfl) rfl ?_
  simp [Try.f194]
  refine loop_inv (fun p : Nat => p ≤ l.length ∧ ascBy mIsMark nMark none l = ascBy mIsMark nMark (prevO nMark l p) (l.drop p)) (fun p => [(0, encLTMark l), (2, dB false), (3, dI p)]) (fun _ => []) 1 (fun p => l.length - p) 0 400 (by simp) (by simp) (by simp) ?_
  intro p ⟨hp, hi⟩
  simp
  refine ⟨fun hlt => ?_, fun hge => ?_⟩
  · rw [ascBy_at hlt] at hi; simp only [nMark, mIsMark] at hi
    repeat' (first | omega | refine And.intro ?_ ?_ | intro _)
    all_goals first | exact Again.mk (p + 1) ⟨by omega, by rw [hi]; grind⟩ (by simp) (by first | omega | (simp; omega)) | (rw [mAreMarks, hi]; grind)
  · rw [mAreMarks, hi, ascBy_end hge]; simp; omega
theorem c194_ok : c194.ok Try.prog := mkCon_ok fun l hpre => c194_pc l hpre
/-- loop.example/g03007/impl.marksInOrder -/
noncomputable def c90 : Con := mkCon 90 false (α := (List TMark)) (fun x => (fun (l : List TMark) => [encLTMark l]) x) (fun _ => []) (fun x => (fun (l : List TMark) => True) x) (fun x => (fun (l : List TMark) => (.agg [.sl false 2 yTMark (ML encTMark l), .fn (.func 154) [] []] : D)) x) (fun x => (fun (l : List TMark) => []) x)
@[simp] theorem c90_f : c90.f = 90 := rfl
@[simp] theorem c90_own : c90.own = false := rfl
theorem c90_inj : ∀ u_ v_ : (List TMark), ((fun x => (fun (l : List TMark) => [encLTMark l]) x) u_).map nz = ((fun x => (fun (l : List TMark) => [encLTMark l]) x) v_).map nz → u_ = v_ := by
  intro u_ v_ h
  obtain l := u_
  obtain l' := v_
  simp [nz_lit, nz1_lit, nz_agg, nz_sl, nz1_sl, encLTMark] at h
  first | (simp [h]; done) | (obtain ⟨⟩ := h; simp_all; done) | simp_all
@[simp] theorem c90_fn (l : List TMark) : c90.fn [.sl false 2 yTMark (ML encTMark l)] [] = some ((fun (l : List TMark) => True) l, (fun (l : List TMark) => (.agg [.sl false 2 yTMark (ML encTMark l), .fn (.func 154) [] []] : D)) l, (fun (l : List TMark) => []) l) :=
  mkCon_fn (fun x y h _ => c90_inj x y h) (l : (List TMark)) (by simp [nz, nz1, ML_nil, encLTMark]) rfl
@[simp] theorem c90_fn1 (s_l : Nat) (z_l : D) : c90.fn [.sl false s_l z_l []] [] = some ((fun (l : List TMark) => True) [], (fun (l : List TMark) => (.agg [.sl false 2 yTMark (ML encTMark l), .fn (.func 154) [] []] : D)) [], (fun (l : List TMark) => []) []) :=
  mkCon_fn (fun x y h _ => c90_inj x y h) ([] : (List TMark)) (by simp [nz, nz1, ML_nil, encLTMark]) rfl
theorem c90_pc (l : List TMark) : PCo Try.prog 90 [encLTMark l] (Tab.of []) (.agg [.sl false 2 yTMark (ML encTMark l), .fn (.func 154) [] []]) (Tab.of []) := by
  refine pco_of_run [] (E := ⟨[], [], []⟩) (m := false) (base := 0) Env.ok_nil G_ok mix 300 6 Try.func90 (by kernel_rfl) rfl (by kernel_rfl) (by kernel_rfl) rfl ?_
  simp [Try.f90]
  all_goals first | omega | (rw [Bool.eq_iff_iff]; simp; omega) | grind
theorem c90_ok : c90.ok Try.prog := mkCon_ok fun l hpre => c90_pc l
/-- loop.example/g03007/impl.marksInOrder$1 -/
noncomputable def c154 : Con := mkCon 154 false (α := TMark) (fun x => (fun (x : TMark) => [encTMark x]) x) (fun _ => []) (fun x => (fun (x : TMark) => True) x) (fun x => (fun (x : TMark) => (dI (nMark x) : D)) x) (fun x => (fun (x : TMark) => []) x)
@[simp] theorem c154_f : c154.f = 154 := rfl
@[simp] theorem c154_own : c154.own = false := rfl
theorem c154_inj : ∀ u_ v_ : TMark, ((fun x => (fun (x : TMark) => [encTMark x]) x) u_).map nz = ((fun x => (fun (x : TMark) => [encTMark x]) x) v_).map nz → u_ = v_ := by
  intro u_ v_ h
  obtain ⟨x_Question, x_Answer⟩ := u_
  obtain ⟨x_Question', x_Answer'⟩ := v_
  simp [nz_lit, nz1_lit, nz_agg, nz_sl, nz1_sl, encTMark] at h
  first | (simp [h]; done) | (obtain ⟨⟩ := h; simp_all; done) | simp_all
@[simp] theorem c154_fn (x_Question : Int) (x_Answer : Int) : c154.fn [.agg [.lit (.int .i64 x_Question), .lit (.int .i64 x_Answer)]] [] = some ((fun (x : TMark) => True) ⟨x_Question, x_Answer⟩, (fun (x : TMark) => (dI (nMark x) : D)) ⟨x_Question, x_Answer⟩, (fun (x : TMark) => []) ⟨x_Question, x_Answer⟩) :=
  mkCon_fn (fun x y h _ => c154_inj x y h) (⟨x_Question, x_Answer⟩ : TMark) (by simp [nz, nz1, ML_nil, encTMark]) rfl
theorem c154_pc (x : TMark) : PCo Try.prog 154 [encTMark x] (Tab.of []) (dI (nMark x)) (Tab.of []) := by
  obtain ⟨x_Question, x_Answer⟩ := x
  refine pco_of_run [] (E := ⟨[], [], []⟩) (m := false) (base := 0) Env.ok_nil G_ok mix 300 6 Try.func154 (by kernel_rfl) rfl (by kernel_rfl) (by kernel_rfl) rfl ?_
  simp [Try.f154]
  all_goals first | omega | (rw [Bool.eq_iff_iff]; simp; omega) | grind
theorem c154_ok : c154.ok Try.prog := mkCon_ok fun x hpre => c154_pc x
/-- (loop.example/g03007/impl.sortedList[loop.example/g03007/impl.Mark]).isValid -/
noncomputable def c91 : Con := mkCon 91 false (α := (List TMark) × Int) (fun x => (fun (l : List TMark) (lim : Int) => ([.agg [.sl false 2 yTMark (ML encTMark l), .fn (.func 154) [] []], dI lim, .fn (.func 92) [] []] : List D)) x.1 x.2) (fun x => (fun (l : List TMark) (lim : Int) => ([] : List (Nm × OO))) x.1 x.2) (fun x => (fun (l : List TMark) (lim : Int) => l.length ≤ 1099511627776) x.1 x.2) (fun x => (fun (l : List TMark) (lim : Int) => (dB (decide (l.length ≤ lim) && ascBy mIsMark nMark none l) : D)) x.1 x.2) (fun x => (fun (l : List TMark) (lim : Int) => ([] : List (Nm × OO))) x.1 x.2)
@[simp] theorem c91_f : c91.f = 91 := rfl
@[simp] theorem c91_own : c91.own = false := rfl
theorem c91_inj : ∀ u_ v_ : (List TMark) × Int, ((fun x => (fun (l : List TMark) (lim : Int) => ([.agg [.sl false 2 yTMark (ML encTMark l), .fn (.func 154) [] []], dI lim, .fn (.func 92) [] []] : List D)) x.1 x.2) u_).map nz = ((fun x => (fun (l : List TMark) (lim : Int) => ([.agg [.sl false 2 yTMark (ML encTMark l), .fn (.func 154) [] []], dI lim, .fn (.func 92) [] []] : List D)) x.1 x.2) v_).map nz → (fun x => (fun (l : List TMark) (lim : Int) => ([] : List (Nm × OO))) x.1 x.2) u_ = (fun x => (fun (l : List TMark) (lim : Int) => ([] : List (Nm × OO))) x.1 x.2) v_ → u_ = v_ := by
  intro u_ v_ h h2_
  obtain ⟨l, lim⟩ := u_
  obtain ⟨l', lim'⟩ := v_
  simp [nz_lit, nz1_lit, nz_agg, nz_sl, nz1_sl, nz_sx, nz_el, nz1_el, nz_own, nz1_own, nz_ptr, nz_fn, nz_iface] at h h2_
  first | (simp [h, h2_]; done) | (obtain ⟨h3_, h4_⟩ := List.append_inj h2_ h.1; simp_all; done) | simp_all | grind
@[simp] theorem c91_fn (l : List TMark) (lim : Int) : c91.fn ([.agg [.sl false 2 yTMark (ML encTMark l), .fn (.func 154) [] []], dI lim, .fn (.func 92) [] []]) ([]) = some (l.length ≤ 1099511627776, dB (decide (l.length ≤ lim) && ascBy mIsMark nMark none l), []) :=
  mkCon_fn c91_inj ((l, lim) : (List TMark) × Int) rfl rfl
theorem c91_pc (l : List TMark) (lim : Int) (hpre : l.length ≤ 1099511627776) : PCo Try.prog 91 ([.agg [.sl false 2 yTMark (ML encTMark l), .fn (.func 154) [] []], dI lim, .fn (.func 92) [] []]) (Tab.of ([])) (dB (decide (l.length ≤ lim) && ascBy mIsMark nMark none l)) (Tab.of ([])) := by
  refine pco_of_run [6] (E := ⟨[c154, c92], [], []⟩) (m := false) (base := 0) (Env.ok_cons c154_ok (Env.ok_cons c92_ok Env.ok_nil)) G_ok mix 300 6 Try.func91 (by kernel_rfl) rfl (by kernel_rfl) (by kernel_rfl) rfl ?_
  simp [Try.f91]
  refine ⟨fun h h2 => by omega, fun hlim => ?_⟩
  refine loop_inv (fun p : Nat => p ≤ l.length ∧ ascBy mIsMark nMark none l = ascBy mIsMark nMark (prevO nMark l p) (l.drop p)) (fun p => [(2, .fn (.func 92) [] []), (3, .ptr (0, 1) 0), (6, dB false), (15, .sl false 2 yTMark (ML encTMark l)), (16, dI l.length), (17, dI p)]) (fun _ => [((0, 1), .box (.agg [.sl false 2 yTMark (ML encTMark l), .fn (.func 154) [] []]))]) 2 (fun p => l.length - p) 0 400 (by simp) (by simp) (by simp) ?_
  intro p ⟨hp, hi⟩
  simp
  refine ⟨fun hlt => ?_, fun hge => ?_⟩
  · rw [ascBy_at hlt] at hi; simp only [nMark, wantN] at hi
    repeat' (first | omega | refine And.intro ?_ ?_ | intro _)
    all_goals first | exact Again.mk (p + 1) ⟨by omega, by rw [hi]; grind⟩ (by simp) (by first | omega | (simp; omega)) | (rw [hi]; grind)
  · rw [hi, ascBy_end hge]; simp; omega
theorem c91_ok : c91.ok Try.prog := mkCon_ok fun ⟨l, lim⟩ hpre => c91_pc l lim hpre
/-- loop.example/g03007/impl.AreMarks -/
noncomputable def c26 : Con := mkCon 26 false (α := (List TMark)) (fun x => (fun (l : List TMark) => [encLTMark l]) x) (fun _ => []) (fun x => (fun (l : List TMark) => l.length ≤ 1099511627776) x) (fun x => (fun (l : List TMark) => (dB (mAreMarks l) : D)) x) (fun x => (fun (l : List TMark) => []) x)
@[simp] theorem c26_f : c26.f = 26 := rfl
@[simp] theorem c26_own : c26.own = false := rfl
theorem c26_inj : ∀ u_ v_ : (List TMark), ((fun x => (fun (l : List TMark) => [encLTMark l]) x) u_).map nz = ((fun x => (fun (l : List TMark) => [encLTMark l]) x) v_).map nz → u_ = v_ := by
  intro u_ v_ h
  obtain l := u_
  obtain l' := v_
  simp [nz_lit, nz1_lit, nz_agg, nz_sl, nz1_sl, encLTMark] at h
  first | (simp [h]; done) | (obtain ⟨⟩ := h; simp_all; done) | simp_all
@[simp] theorem c26_fn (l : List TMark) : c26.fn [.sl false 2 yTMark (ML encTMark l)] [] = some ((fun (l : List TMark) => l.length ≤ 1099511627776) l, (fun (l : List TMark) => (dB (mAreMarks l) : D)) l, (fun (l : List TMark) => []) l) :=
  mkCon_fn (fun x y h _ => c26_inj x y h) (l : (List TMark)) (by simp [nz, nz1, ML_nil, encLTMark]) rfl
@[simp] theorem c26_fn1 (s_l : Nat) (z_l : D) : c26.fn [.sl false s_l z_l []] [] = some ((fun (l : List TMark) => l.length ≤ 1099511627776) [], (fun (l : List TMark) => (dB (mAreMarks l) : D)) [], (fun (l : List TMark) => []) []) :=
  mkCon_fn (fun x y h _ => c26_inj x y h) ([] : (List TMark)) (by simp [nz, nz1, ML_nil, encLTMark]) rfl
theorem c26_pc (l : List TMark) (hpre : l.length ≤ 1099511627776) : PCo Try.prog 26 [encLTMark l] (Tab.of []) (dB (mAreMarks l)) (Tab.of []) := by
  refine pco_of_run [] (E := ⟨[c90, c91, c92, c92], [], []⟩) (m := false) (base := 0) (Env.ok_cons c90_ok (Env.ok_cons c91_ok (Env.ok_cons c92_ok (Env.ok_cons c92_ok Env.ok_nil)))) G_ok mix 300 6 Try.func26 (by kernel_rfl) rfl (by kernel_rfl) (by kernel_rfl) rfl ?_
  simp [Try.f26]
  have h : ((l.length : Int) ≤ 8) ↔ l.length ≤ 8 := by omega
  simp [mAreMarks, h, hpre]
theorem c26_ok : c26.ok Try.prog := mkCon_ok fun l hpre => c26_pc l hpre
/-- what the marks' text is sealed of -/
def sealL (salt : Int) : List TMark → List Int
  | [] => [salt]
  | l => salt :: l.flatMap fun m => [m.Question, m.Answer]
def mSealL (salt : Int) (l : List TMark) : List Int := salt :: l.flatMap fun m => [m.Question, m.Answer]
theorem mSealL_at {salt : Int} {l : List TMark} {p : Nat} (h : p < l.length) : mSealL salt (l.take (p + 1)) = mSealL salt (l.take p) ++ [(l[p]?.getD default).Question, (l[p]?.getD default).Answer] := by
  rw [take_at (d := default) h]; simp [mSealL]
theorem mSealL_len (salt : Int) : ∀ (l : List TMark), (mSealL salt l).length = 2 * l.length + 1
  | [] => rfl
  | x :: l => by have := mSealL_len salt l; simp [mSealL] at this ⊢; omega
def mSeal (l : List TMark) (salt : Int) : Int := mHash (mSealL salt l)
def mOpens (l : List TMark) (salt s : Int) : Bool := mAreMarks l && decide (mSeal l salt = s)
def lookQ (q : Int) : List TMark → Int
  | [] => -1
  | x :: r => if x.Question = q then x.Answer else lookQ q r
theorem lookQ_at {q : Int} {l : List TMark} {p : Nat} (h : p < l.length) : lookQ q (l.drop p) = if (l[p]?.getD default).Question = q then (l[p]?.getD default).Answer else lookQ q (l.drop (p + 1)) := by
  rw [drop_at (d := default) h, lookQ]
theorem lookQ_end {q : Int} {l : List TMark} {p : Nat} (h : l.length ≤ p) : lookQ q (l.drop p) = -1 := by
  rw [List.drop_eq_nil_of_le h, lookQ]
/-- loop.example/g03007/spec.AnswerOf -/
noncomputable def c86 : Con := mkCon 86 false (α := (List TMark) × Int) (fun x => (fun (l : List TMark) (q : Int) => [encLTMark l, dI q]) x.1 x.2) (fun _ => []) (fun x => (fun (l : List TMark) (q : Int) => l.length ≤ 1099511627776) x.1 x.2) (fun x => (fun (l : List TMark) (q : Int) => (dI (lookQ q l) : D)) x.1 x.2) (fun x => (fun (l : List TMark) (q : Int) => []) x.1 x.2)
@[simp] theorem c86_f : c86.f = 86 := rfl
@[simp] theorem c86_own : c86.own = false := rfl
theorem c86_inj : ∀ u_ v_ : (List TMark) × Int, ((fun x => (fun (l : List TMark) (q : Int) => [encLTMark l, dI q]) x.1 x.2) u_).map nz = ((fun x => (fun (l : List TMark) (q : Int) => [encLTMark l, dI q]) x.1 x.2) v_).map nz → u_ = v_ := by
  intro u_ v_ h
  obtain ⟨l, q⟩ := u_
  obtain ⟨l', q'⟩ := v_
  simp [nz_lit, nz1_lit, nz_agg, nz_sl, nz1_sl, encLTMark] at h
  first | (simp [h]; done) | (obtain ⟨⟩ := h; simp_all; done) | simp_all
@[simp] theorem c86_fn (l : List TMark) (q : Int) : c86.fn [.sl false 2 yTMark (ML encTMark l), .lit (.int .i64 q)] [] = some ((fun (l : List TMark) (q : Int) => l.length ≤ 1099511627776) l q, (fun (l : List TMark) (q : Int) => (dI (lookQ q l) : D)) l q, (fun (l : List TMark) (q : Int) => []) l q) :=
  mkCon_fn (fun x y h _ => c86_inj x y h) ((l, q) : (List TMark) × Int) (by simp [nz, nz1, ML_nil, encLTMark]) rfl
@[simp] theorem c86_fn1 (s_l : Nat) (z_l : D) (q : Int) : c86.fn [.sl false s_l z_l [], .lit (.int .i64 q)] [] = some ((fun (l : List TMark) (q : Int) => l.length ≤ 1099511627776) [] q, (fun (l : List TMark) (q : Int) => (dI (lookQ q l) : D)) [] q, (fun (l : List TMark) (q : Int) => []) [] q) :=
  mkCon_fn (fun x y h _ => c86_inj x y h) (([], q) : (List TMark) × Int) (by simp [nz, nz1, ML_nil, encLTMark]) rfl
theorem c86_pc (l : List TMark) (q : Int) (hpre : l.length ≤ 1099511627776) : PCo Try.prog 86 [encLTMark l, dI q] (Tab.of []) (dI (lookQ q l)) (Tab.of []) := by
  refine pco_of_run [] (E := ⟨[], [], []⟩) (m := false) (base := 0) Env.ok_nil G_ok mix 300 6 Try.func86 (by kernel_rfl) rfl (by kernel_rfl) (by kernel_rfl) rfl ?_
  simp [Try.f86]
  refine loop_inv (fun p : Nat => p ≤ l.length ∧ lookQ q l = lookQ q (l.drop p)) (fun p => [(0, encLTMark l), (1, dI q), (5, dI p)]) (fun _ => []) 1 (fun p => l.length - p) 0 400 (by simp) (by simp) (by simp) ?_
  intro p ⟨hp, hi⟩
  simp
  refine ⟨fun hlt => ?_, fun hge => ?_⟩
  · rw [lookQ_at hlt] at hi
    repeat' (first | omega | refine And.intro ?_ ?_ | intro _)
    all_goals first | exact Again.mk (p + 1) ⟨by omega, by rw [hi]; grind⟩ (by simp) (by first | omega | (simp; omega)) | (rw [hi]; grind)
  · rw [hi, lookQ_end hge]
theorem c86_ok : c86.ok Try.prog := mkCon_ok fun ⟨l, q⟩ hpre => c86_pc l q hpre
def hInts (l : List Int) : Int := mHash l
@[simp] theorem c197_one (n : Int) : c197.fn [.sl false 1 (.lit (.int .i64 0)) [dI n]] [] = some (1 ≤ 1099511627776, dI (mHash [n]), []) := c197_fn [n]
@[simp] theorem c130_one (n : Int) : c130.fn [.sl false 1 (.lit (.int .i64 0)) [dI n]] [] = some (1 ≤ 1099511627776, dI (mHash [n]), []) := c130_fn [n]
def mQuestion (l : List TMark) (claim n : Int) : Int := if decide (l.length = 0) || !mAreMarks l || !mIn n 0 1000 then 0 else (l[((mHash [claim] + n) % l.length).toNat]?.getD default).Question
theorem question_nil {l : List TMark} {c n : Int} (h : (l = [] ∨ mAreMarks l = false) ∨ mIn n 0 1000 = false) : 0 = mQuestion l c n := by
  simp only [mQuestion]
  rw [if_pos]
  rcases h with (h | h) | h <;> simp [h]
theorem question_of {l : List TMark} {c n : Int} (h1 : ¬ l = []) (h2 : mAreMarks l = true) (h3 : mIn n 0 1000 = true) : mQuestion l c n = (l[((mHash [c] + n) % l.length).toNat]?.getD default).Question := by
  simp only [mQuestion]
  rw [if_neg (by simp [h1, h2, h3])]
/-- loop.example/g03007/spec.QuestionFor -/
noncomputable def c152 : Con := mkCon 152 false (α := (List TMark) × Int × Int) (fun x => (fun (l : List TMark) (c : Int) (n : Int) => [encLTMark l, dI c, dI n]) x.1 x.2.1 x.2.2) (fun _ => []) (fun x => (fun (l : List TMark) (c : Int) (n : Int) => l.length ≤ 1073741823) x.1 x.2.1 x.2.2) (fun x => (fun (l : List TMark) (c : Int) (n : Int) => (dI (mQuestion l c n) : D)) x.1 x.2.1 x.2.2) (fun x => (fun (l : List TMark) (c : Int) (n : Int) => []) x.1 x.2.1 x.2.2)
@[simp] theorem c152_f : c152.f = 152 := rfl
@[simp] theorem c152_own : c152.own = false := rfl
theorem c152_inj : ∀ u_ v_ : (List TMark) × Int × Int, ((fun x => (fun (l : List TMark) (c : Int) (n : Int) => [encLTMark l, dI c, dI n]) x.1 x.2.1 x.2.2) u_).map nz = ((fun x => (fun (l : List TMark) (c : Int) (n : Int) => [encLTMark l, dI c, dI n]) x.1 x.2.1 x.2.2) v_).map nz → u_ = v_ := by
  intro u_ v_ h
  obtain ⟨l, c, n⟩ := u_
  obtain ⟨l', c', n'⟩ := v_
  simp [nz_lit, nz1_lit, nz_agg, nz_sl, nz1_sl, encLTMark] at h
  first | (simp [h]; done) | (obtain ⟨⟩ := h; simp_all; done) | simp_all
@[simp] theorem c152_fn (l : List TMark) (c : Int) (n : Int) : c152.fn [.sl false 2 yTMark (ML encTMark l), .lit (.int .i64 c), .lit (.int .i64 n)] [] = some ((fun (l : List TMark) (c : Int) (n : Int) => l.length ≤ 1073741823) l c n, (fun (l : List TMark) (c : Int) (n : Int) => (dI (mQuestion l c n) : D)) l c n, (fun (l : List TMark) (c : Int) (n : Int) => []) l c n) :=
  mkCon_fn (fun x y h _ => c152_inj x y h) ((l, c, n) : (List TMark) × Int × Int) (by simp [nz, nz1, ML_nil, encLTMark]) rfl
@[simp] theorem c152_fn1 (s_l : Nat) (z_l : D) (c : Int) (n : Int) : c152.fn [.sl false s_l z_l [], .lit (.int .i64 c), .lit (.int .i64 n)] [] = some ((fun (l : List TMark) (c : Int) (n : Int) => l.length ≤ 1073741823) [] c n, (fun (l : List TMark) (c : Int) (n : Int) => (dI (mQuestion l c n) : D)) [] c n, (fun (l : List TMark) (c : Int) (n : Int) => []) [] c n) :=
  mkCon_fn (fun x y h _ => c152_inj x y h) (([], c, n) : (List TMark) × Int × Int) (by simp [nz, nz1, ML_nil, encLTMark]) rfl
theorem c152_pc (l : List TMark) (c : Int) (n : Int) (hpre : l.length ≤ 1073741823) : PCo Try.prog 152 [encLTMark l, dI c, dI n] (Tab.of []) (dI (mQuestion l c n)) (Tab.of []) := by
  refine pco_of_run [] (E := ⟨[c108, c194, c196, c197], [], []⟩) (m := false) (base := 0) (Env.ok_cons c108_ok (Env.ok_cons c194_ok (Env.ok_cons c196_ok (Env.ok_cons c197_ok Env.ok_nil)))) G_ok mix 300 6 Try.func152 (by kernel_rfl) rfl (by kernel_rfl) (by kernel_rfl) rfl ?_
  simp [Try.f152]
  refine ⟨fun _ => by omega, question_nil, fun h1 h2 h3 => ?_⟩
  have hl : 0 < l.length := List.length_pos_iff.2 h1
  have hb := mHash_bd [c]
  have hn := mIn_iff.1 h3
  have hq : mMod (mHash [c]) (l.length : Int) = mHash [c] % (l.length : Int) := by
    have : mIn (l.length : Int) 1 1000000000000 = true := mIn_iff.2 (by omega)
    simp [mMod, this]
  have hm := emod_bd (mHash [c]) (show (0 : Int) < l.length by omega)
  rw [hq, question_of h1 h2 h3, Int.tmod_eq_emod_of_nonneg (by omega), Int.emod_add_emod]
  have hm2 := emod_bd (mHash [c] + n) (show (0 : Int) < l.length by omega)
  repeat' (first | omega | refine And.intro ?_ ?_ | intro _)
  all_goals first | exact h1 | rfl
theorem c152_ok : c152.ok Try.prog := mkCon_ok fun ⟨l, c, n⟩ hpre => c152_pc l c n hpre
/-- loop.example/g03007/impl.QuestionFor -/
noncomputable def c89 : Con := mkCon 89 false (α := (List TMark) × Int × Int) (fun x => (fun (l : List TMark) (c : Int) (n : Int) => [encLTMark l, dI c, dI n]) x.1 x.2.1 x.2.2) (fun _ => []) (fun x => (fun (l : List TMark) (c : Int) (n : Int) => l.length ≤ 1073741823) x.1 x.2.1 x.2.2) (fun x => (fun (l : List TMark) (c : Int) (n : Int) => (dI (mQuestion l c n) : D)) x.1 x.2.1 x.2.2) (fun x => (fun (l : List TMark) (c : Int) (n : Int) => []) x.1 x.2.1 x.2.2)
@[simp] theorem c89_f : c89.f = 89 := rfl
@[simp] theorem c89_own : c89.own = false := rfl
theorem c89_inj : ∀ u_ v_ : (List TMark) × Int × Int, ((fun x => (fun (l : List TMark) (c : Int) (n : Int) => [encLTMark l, dI c, dI n]) x.1 x.2.1 x.2.2) u_).map nz = ((fun x => (fun (l : List TMark) (c : Int) (n : Int) => [encLTMark l, dI c, dI n]) x.1 x.2.1 x.2.2) v_).map nz → u_ = v_ := by
  intro u_ v_ h
  obtain ⟨l, c, n⟩ := u_
  obtain ⟨l', c', n'⟩ := v_
  simp [nz_lit, nz1_lit, nz_agg, nz_sl, nz1_sl, encLTMark] at h
  first | (simp [h]; done) | (obtain ⟨⟩ := h; simp_all; done) | simp_all
@[simp] theorem c89_fn (l : List TMark) (c : Int) (n : Int) : c89.fn [.sl false 2 yTMark (ML encTMark l), .lit (.int .i64 c), .lit (.int .i64 n)] [] = some ((fun (l : List TMark) (c : Int) (n : Int) => l.length ≤ 1073741823) l c n, (fun (l : List TMark) (c : Int) (n : Int) => (dI (mQuestion l c n) : D)) l c n, (fun (l : List TMark) (c : Int) (n : Int) => []) l c n) :=
  mkCon_fn (fun x y h _ => c89_inj x y h) ((l, c, n) : (List TMark) × Int × Int) (by simp [nz, nz1, ML_nil, encLTMark]) rfl
@[simp] theorem c89_fn1 (s_l : Nat) (z_l : D) (c : Int) (n : Int) : c89.fn [.sl false s_l z_l [], .lit (.int .i64 c), .lit (.int .i64 n)] [] = some ((fun (l : List TMark) (c : Int) (n : Int) => l.length ≤ 1073741823) [] c n, (fun (l : List TMark) (c : Int) (n : Int) => (dI (mQuestion l c n) : D)) [] c n, (fun (l : List TMark) (c : Int) (n : Int) => []) [] c n) :=
  mkCon_fn (fun x y h _ => c89_inj x y h) (([], c, n) : (List TMark) × Int × Int) (by simp [nz, nz1, ML_nil, encLTMark]) rfl
theorem c89_pc (l : List TMark) (c : Int) (n : Int) (hpre : l.length ≤ 1073741823) : PCo Try.prog 89 [encLTMark l, dI c, dI n] (Tab.of []) (dI (mQuestion l c n)) (Tab.of []) := by
  refine pco_of_run [] (E := ⟨[c26, c84, c130, c153], [], []⟩) (m := false) (base := 0) (Env.ok_cons c26_ok (Env.ok_cons c84_ok (Env.ok_cons c130_ok (Env.ok_cons c153_ok Env.ok_nil)))) G_ok mix 300 6 Try.func89 (by kernel_rfl) rfl (by kernel_rfl) (by kernel_rfl) rfl ?_
  simp [Try.f89]
  refine ⟨fun _ => by omega, question_nil, fun h1 h2 h3 => ?_⟩
  have hl : 0 < l.length := List.length_pos_iff.2 h1
  have hb := mHash_bd [c]
  have hn := mIn_iff.1 h3
  have hq : mMod (mHash [c] + n) (l.length : Int) = (mHash [c] + n) % (l.length : Int) := by
    have : mIn (l.length : Int) 1 1000000000000 = true := mIn_iff.2 (by omega)
    simp [mMod, this]
  rw [hq, question_of h1 h2 h3]
  have hm2 := emod_bd (mHash [c] + n) (show (0 : Int) < l.length by omega)
  repeat' (first | omega | refine And.intro ?_ ?_ | intro _)
  all_goals first | exact h1 | rfl
theorem c89_ok : c89.ok Try.prog := mkCon_ok fun ⟨l, c, n⟩ hpre => c89_pc l c n hpre
def ksQ (l : List TMark) : List Int := l.foldl (fun ks m => insI ks m.Question) []
theorem insI_iff {ks : List Int} {v k : Int} : k ∈ insI ks v ↔ k ∈ ks ∨ k = v := by
  simp only [insI]; split
  · rename_i h; constructor
    · exact .inl
    · rintro (h' | rfl)
      · exact h'
      · exact h
  · simp
theorem ksQ_fold {k : Int} : ∀ (l : List TMark) (ks : List Int), k ∈ l.foldl (fun ks m => insI ks m.Question) ks ↔ k ∈ ks ∨ ∃ m ∈ l, m.Question = k
  | [], ks => by simp
  | x :: l, ks => by
    rw [List.foldl_cons, ksQ_fold l, insI_iff]
    simp only [List.mem_cons]
    constructor
    · rintro ((h | h) | ⟨m, h1, h2⟩)
      · exact .inl h
      · exact .inr ⟨x, .inl rfl, h.symm⟩
      · exact .inr ⟨m, .inr h1, h2⟩
    · rintro (h | ⟨m, (rfl | h1), h2⟩)
      · exact .inl (.inl h)
      · exact .inl (.inr h2.symm)
      · exact .inr ⟨m, h1, h2⟩
theorem ksQ_mem {k : Int} {l : List TMark} : k ∈ ksQ l ↔ ∃ m ∈ l, m.Question = k := by simp [ksQ, ksQ_fold]
theorem ksQ_at {l : List TMark} {p : Nat} (h : p < l.length) : ksQ (l.take (p + 1)) = insI (ksQ (l.take p)) (l[p]?.getD default).Question := by
  simp only [ksQ]; rw [foldl_at (d := default) h]
theorem lookQ_skip {k : Int} : ∀ (l r : List TMark), (¬ ∃ m ∈ l, m.Question = k) → lookQ k (l ++ r) = lookQ k r
  | [], r, _ => rfl
  | x :: l, r, h => by
    have h1 : ¬ x.Question = k := fun e => h ⟨x, by simp, e⟩
    have h2 : ¬ ∃ m ∈ l, m.Question = k := fun ⟨m, hm, e⟩ => h ⟨m, by simp [hm], e⟩
    rw [List.cons_append, lookQ, if_neg h1, lookQ_skip l r h2]
theorem lookQ_none {k : Int} {l : List TMark} (h : k ∉ ksQ l) : lookQ k l = -1 := by
  have := lookQ_skip l [] (fun h' => h (ksQ_mem.2 h'))
  simpa [lookQ] using this
theorem lookQ_new {l : List TMark} {p : Nat} (h : p < l.length) (hn : (l[p]?.getD default).Question ∉ ksQ (l.take p)) : lookQ (l[p]?.getD default).Question l = (l[p]?.getD default).Answer := by
  have h1 := lookQ_skip (k := (l[p]?.getD default).Question) (l.take p) (l.drop p) (fun h' => hn (ksQ_mem.2 h'))
  rw [List.take_append_drop, lookQ_at h, if_pos rfl] at h1
  exact h1
/-- loop.example/g03007/impl.answersOf -/
noncomputable def c94 : Con := mkCon 94 false (α := (List TMark)) (fun x => (fun (l : List TMark) => [encLTMark l]) x) (fun _ => []) (fun x => (fun (l : List TMark) => l.length ≤ 1099511627776) x) (fun x => (fun (l : List TMark) => (.mp (0, 1) : D)) x) (fun x => (fun (l : List TMark) => [((0, 1), .map 0 (keysI (ksQ l)) (dI 0) (ML dI ((ksQ l).map fun k => lookQ k l)))]) x)
@[simp] theorem c94_f : c94.f = 94 := rfl
@[simp] theorem c94_own : c94.own = false := rfl
theorem c94_inj : ∀ u_ v_ : (List TMark), ((fun x => (fun (l : List TMark) => [encLTMark l]) x) u_).map nz = ((fun x => (fun (l : List TMark) => [encLTMark l]) x) v_).map nz → u_ = v_ := by
  intro u_ v_ h
  obtain l := u_
  obtain l' := v_
  simp [nz_lit, nz1_lit, nz_agg, nz_sl, nz1_sl, encLTMark] at h
  first | (simp [h]; done) | (obtain ⟨⟩ := h; simp_all; done) | simp_all
@[simp] theorem c94_fn (l : List TMark) : c94.fn [.sl false 2 yTMark (ML encTMark l)] [] = some ((fun (l : List TMark) => l.length ≤ 1099511627776) l, (fun (l : List TMark) => (.mp (0, 1) : D)) l, (fun (l : List TMark) => [((0, 1), .map 0 (keysI (ksQ l)) (dI 0) (ML dI ((ksQ l).map fun k => lookQ k l)))]) l) :=
  mkCon_fn (fun x y h _ => c94_inj x y h) (l : (List TMark)) (by simp [nz, nz1, ML_nil, encLTMark]) rfl
@[simp] theorem c94_fn1 (s_l : Nat) (z_l : D) : c94.fn [.sl false s_l z_l []] [] = some ((fun (l : List TMark) => l.length ≤ 1099511627776) [], (fun (l : List TMark) => (.mp (0, 1) : D)) [], (fun (l : List TMark) => [((0, 1), .map 0 (keysI (ksQ l)) (dI 0) (ML dI ((ksQ l).map fun k => lookQ k l)))]) []) :=
  mkCon_fn (fun x y h _ => c94_inj x y h) ([] : (List TMark)) (by simp [nz, nz1, ML_nil, encLTMark]) rfl
theorem c94_pc (l : List TMark) (hpre : l.length ≤ 1099511627776) : PCo Try.prog 94 [encLTMark l] (Tab.of []) (.mp (0, 1)) (Tab.of [((0, 1), .map 0 (keysI (ksQ l)) (dI 0) (ML dI ((ksQ l).map fun k => lookQ k l)))]) := by
  refine pco_of_run [] (E := ⟨[], [], []⟩) (m := false) (base := 0) Env.ok_nil G_ok mix 300 6 Try.func94 (by kernel_rfl) rfl (by kernel_rfl) (by kernel_rfl) rfl ?_
  simp [Try.f94]
  refine loop_inv (fun p : Nat => p ≤ l.length) (fun p => [(3, .mp (0, 1)), (9, encLTMark l), (10, dI l.length), (11, dI p)]) (fun p => [((0, 1), .map 0 (keysI (ksQ (l.take p))) (dI 0) (ML dI ((ksQ (l.take p)).map fun k => lookQ k l)))]) 2 (fun p => l.length - p) 0 400 (by simp) (by simp) (by simp [ksQ, keysI]) ?_
  intro p hp
  simp
  refine ⟨fun hlt => ?_, fun hge => ?_⟩
  · have hk := ksQ_at hlt
    by_cases hm : (l[p]?.getD default).Question ∈ ksQ (l.take p)
    · simp [lookK_keys, hm]
      repeat' (first | omega | refine And.intro ?_ ?_ | intro _)
      exact Again.mk (p + 1) (by omega) (by simp [hk, insI_mem hm]) (by first | omega | (simp; omega))
    · simp [lookK_keys, hm]
      repeat' (first | omega | refine And.intro ?_ ?_ | intro _)
      exact Again.mk (p + 1) (by omega) (by simp [hk]; rw [← lookQ_new hlt hm]; exact updK_keys (f := fun k => lookQ k l) hm) (by first | omega | (simp; omega))
  · rw [List.take_of_length_le hge]; simp
theorem c94_ok : c94.ok Try.prog := mkCon_ok fun l hpre => c94_pc l hpre
/-- loop.example/g03007/impl.AnswerOf -/
noncomputable def c28 : Con := mkCon 28 false (α := (List TMark) × Int) (fun x => (fun (l : List TMark) (q : Int) => [encLTMark l, dI q]) x.1 x.2) (fun _ => []) (fun x => (fun (l : List TMark) (q : Int) => l.length ≤ 1099511627776) x.1 x.2) (fun x => (fun (l : List TMark) (q : Int) => (dI (lookQ q l) : D)) x.1 x.2) (fun x => (fun (l : List TMark) (q : Int) => []) x.1 x.2)
@[simp] theorem c28_f : c28.f = 28 := rfl
@[simp] theorem c28_own : c28.own = false := rfl
theorem c28_inj : ∀ u_ v_ : (List TMark) × Int, ((fun x => (fun (l : List TMark) (q : Int) => [encLTMark l, dI q]) x.1 x.2) u_).map nz = ((fun x => (fun (l : List TMark) (q : Int) => [encLTMark l, dI q]) x.1 x.2) v_).map nz → u_ = v_ := by
  intro u_ v_ h
  obtain ⟨l, q⟩ := u_
  obtain ⟨l', q'⟩ := v_
  simp [nz_lit, nz1_lit, nz_agg, nz_sl, nz1_sl, encLTMark] at h
  first | (simp [h]; done) | (obtain ⟨⟩ := h; simp_all; done) | simp_all
@[simp] theorem c28_fn (l : List TMark) (q : Int) : c28.fn [.sl false 2 yTMark (ML encTMark l), .lit (.int .i64 q)] [] = some ((fun (l : List TMark) (q : Int) => l.length ≤ 1099511627776) l q, (fun (l : List TMark) (q : Int) => (dI (lookQ q l) : D)) l q, (fun (l : List TMark) (q : Int) => []) l q) :=
  mkCon_fn (fun x y h _ => c28_inj x y h) ((l, q) : (List TMark) × Int) (by simp [nz, nz1, ML_nil, encLTMark]) rfl
@[simp] theorem c28_fn1 (s_l : Nat) (z_l : D) (q : Int) : c28.fn [.sl false s_l z_l [], .lit (.int .i64 q)] [] = some ((fun (l : List TMark) (q : Int) => l.length ≤ 1099511627776) [] q, (fun (l : List TMark) (q : Int) => (dI (lookQ q l) : D)) [] q, (fun (l : List TMark) (q : Int) => []) [] q) :=
  mkCon_fn (fun x y h _ => c28_inj x y h) (([], q) : (List TMark) × Int) (by simp [nz, nz1, ML_nil, encLTMark]) rfl
theorem c28_pc (l : List TMark) (q : Int) (hpre : l.length ≤ 1099511627776) : PCo Try.prog 28 [encLTMark l, dI q] (Tab.of []) (dI (lookQ q l)) (Tab.of []) := by
  refine pco_of_run [] (E := ⟨[c94], [], []⟩) (m := false) (base := 0) (Env.ok_cons c94_ok Env.ok_nil) G_ok mix 300 6 Try.func28 (by kernel_rfl) rfl (by kernel_rfl) (by kernel_rfl) rfl ?_
  by_cases hm : q ∈ ksQ l
  · simp [Try.f28, lookK_keys, hm]
    exact hpre
  · have := lookQ_none hm
    simp [Try.f28, lookK_keys, hm]
    exact ⟨hpre, this.symm⟩
theorem c28_ok : c28.ok Try.prog := mkCon_ok fun ⟨l, q⟩ hpre => c28_pc l q hpre
end Go.Proofs.Ytpnfkjbnhholfaa
