/- Contracts of the functions that the laws run. -/
import Derived.Test.Ytojpebfoajeilaach03
import Derived.Test.YtojpebfoajeilaaEngB
namespace Go.Proofs.Ytojpebfoajeilaa
open Go Go.Eng
set_option linter.unusedSimpArgs false
set_option linter.unusedVariables false
set_option maxRecDepth 10000
set_option maxHeartbeats 1000000
def mIsMark (m : TMark) : Bool := mIn m.Question 1 20 && mIn m.Answer 0 99
@[simp] def nMark (m : TMark) : Int := m.Question
/-- loop.example/g03007/impl.isMark -/
noncomputable def c38 : Con := mkCon 38 false (α := TMark) (fun x => (fun (m : TMark) => [encTMark m]) x) (fun _ => []) (fun x => (fun (m : TMark) => True) x) (fun x => (fun (m : TMark) => (dB (mIsMark m) : D)) x) (fun x => (fun (m : TMark) => []) x)
@[simp] theorem c38_f : c38.f = 38 := rfl
@[simp] theorem c38_own : c38.own = false := rfl
theorem c38_inj : ∀ u_ v_ : TMark, ((fun x => (fun (m : TMark) => [encTMark m]) x) u_).map nz = ((fun x => (fun (m : TMark) => [encTMark m]) x) v_).map nz → u_ = v_ := by
  intro u_ v_ h
  obtain ⟨m_Question, m_Answer⟩ := u_
  obtain ⟨m_Question', m_Answer'⟩ := v_
  simp [nz_lit, nz1_lit, nz_agg, nz_sl, nz1_sl, encTMark] at h
  first | (simp [h]; done) | (obtain ⟨⟩ := h; simp_all; done) | simp_all
@[simp] theorem c38_fn (m_Question : Int) (m_Answer : Int) : c38.fn [.agg [.lit (.int .i64 m_Question), .lit (.int .i64 m_Answer)]] [] = some ((fun (m : TMark) => True) ⟨m_Question, m_Answer⟩, (fun (m : TMark) => (dB (mIsMark m) : D)) ⟨m_Question, m_Answer⟩, (fun (m : TMark) => []) ⟨m_Question, m_Answer⟩) :=
  mkCon_fn (fun x y h _ => c38_inj x y h) (⟨m_Question, m_Answer⟩ : TMark) (by simp [nz, nz1, ML_nil, encTMark]) rfl
theorem c38_pc (m : TMark) : PCo Try.prog 38 [encTMark m] (Tab.of []) (dB (mIsMark m)) (Tab.of []) := by
  obtain ⟨m_Question, m_Answer⟩ := m
  refine pco_of_run [1] (E := ⟨[c52], [], []⟩) (m := false) (base := 0) (Env.ok_cons c52_ok Env.ok_nil) G_ok mix 300 6 Try.func38 (by kernel_rfl) rfl (by kernel_rfl) (by kernel_rfl) rfl ?_
  simp [Try.f38]
  rw [Bool.eq_iff_iff]
  simp [mIsMark, mIn]
  omega
theorem c38_ok : c38.ok Try.prog := mkCon_ok fun m hpre => c38_pc m
def mAreMarks (l : List TMark) : Bool := decide (l.length ≤ 8) && ascBy mIsMark nMark none l
/-- loop.example/g03007/spec.AreMarks -/
noncomputable def c59 : Con := mkCon 59 false (α := (List TMark)) (fun x => (fun (l : List TMark) => [encLTMark l]) x) (fun _ => []) (fun x => (fun (l : List TMark) => l.length ≤ 1099511627776) x) (fun x => (fun (l : List TMark) => (dB (mAreMarks l) : D)) x) (fun x => (fun (l : List TMark) => []) x)
@[simp] theorem c59_f : c59.f = 59 := rfl
@[simp] theorem c59_own : c59.own = false := rfl
theorem c59_inj : ∀ u_ v_ : (List TMark), ((fun x => (fun (l : List TMark) => [encLTMark l]) x) u_).map nz = ((fun x => (fun (l : List TMark) => [encLTMark l]) x) v_).map nz → u_ = v_ := by
  intro u_ v_ h
  obtain l := u_
  obtain l' := v_
  simp [nz_lit, nz1_lit, nz_agg, nz_sl, nz1_sl, encLTMark] at h
  first | (simp [h]; done) | (obtain ⟨⟩ := h; simp_all; done) | simp_all
@[simp] theorem c59_fn (l : List TMark) : c59.fn [.sl false 2 yTMark (ML encTMark l)] [] = some ((fun (l : List TMark) => l.length ≤ 1099511627776) l, (fun (l : List TMark) => (dB (mAreMarks l) : D)) l, (fun (l : List TMark) => []) l) :=
  mkCon_fn (fun x y h _ => c59_inj x y h) (l : (List TMark)) (by simp [nz, nz1, ML_nil, encLTMark]) rfl
@[simp] theorem c59_fn1 (s_l : Nat) (z_l : D) : c59.fn [.sl false s_l z_l []] [] = some ((fun (l : List TMark) => l.length ≤ 1099511627776) [], (fun (l : List TMark) => (dB (mAreMarks l) : D)) [], (fun (l : List TMark) => []) []) :=
  mkCon_fn (fun x y h _ => c59_inj x y h) ([] : (List TMark)) (by simp [nz, nz1, ML_nil, encLTMark]) rfl
theorem c59_pc (l : List TMark) (hpre : l.length ≤ 1099511627776) : PCo Try.prog 59 [encLTMark l] (Tab.of []) (dB (mAreMarks l)) (Tab.of []) := by
  refine pco_of_run [] (E := ⟨[c46], [], []⟩) (m := false) (base := 0) (Env.ok_cons c46_ok Env.ok_nil) G_ok mix 300 6 Try.func59 (by kernel_rfl) rfl (by kernel_rfl) (by kernel_rfl) rfl ?_
  simp [Try.f59]
  refine loop_inv (fun p : Nat => p ≤ l.length ∧ ascBy mIsMark nMark none l = ascBy mIsMark nMark (prevO nMark l p) (l.drop p)) (fun p => [(0, encLTMark l), (2, dB false), (3, dI p)]) (fun _ => []) 1 (fun p => l.length - p) 0 400 (by simp) (by simp) (by simp) ?_
  intro p ⟨hp, hi⟩
  simp
  refine ⟨fun hlt => ?_, fun hge => ?_⟩
  · rw [ascBy_at hlt] at hi; simp only [nMark, mIsMark] at hi
    repeat' (first | omega | refine And.intro ?_ ?_ | intro _)
    all_goals first | exact Again.mk (p + 1) ⟨by omega, by rw [hi]; grind⟩ (by simp) (by first | omega | (simp; omega)) | (rw [mAreMarks, hi]; grind)
  · rw [mAreMarks, hi, ascBy_end hge]; simp; omega
theorem c59_ok : c59.ok Try.prog := mkCon_ok fun l hpre => c59_pc l hpre
/-- loop.example/g03007/impl.marksInOrder -/
noncomputable def c36 : Con := mkCon 36 false (α := (List TMark)) (fun x => (fun (l : List TMark) => [encLTMark l]) x) (fun _ => []) (fun x => (fun (l : List TMark) => True) x) (fun x => (fun (l : List TMark) => (.agg [.sl false 2 yTMark (ML encTMark l), .fn (.func 51) [] []] : D)) x) (fun x => (fun (l : List TMark) => []) x)
@[simp] theorem c36_f : c36.f = 36 := rfl
@[simp] theorem c36_own : c36.own = false := rfl
theorem c36_inj : ∀ u_ v_ : (List TMark), ((fun x => (fun (l : List TMark) => [encLTMark l]) x) u_).map nz = ((fun x => (fun (l : List TMark) => [encLTMark l]) x) v_).map nz → u_ = v_ := by
  intro u_ v_ h
  obtain l := u_
  obtain l' := v_
  simp [nz_lit, nz1_lit, nz_agg, nz_sl, nz1_sl, encLTMark] at h
  first | (simp [h]; done) | (obtain ⟨⟩ := h; simp_all; done) | simp_all
@[simp] theorem c36_fn (l : List TMark) : c36.fn [.sl false 2 yTMark (ML encTMark l)] [] = some ((fun (l : List TMark) => True) l, (fun (l : List TMark) => (.agg [.sl false 2 yTMark (ML encTMark l), .fn (.func 51) [] []] : D)) l, (fun (l : List TMark) => []) l) :=
  mkCon_fn (fun x y h _ => c36_inj x y h) (l : (List TMark)) (by simp [nz, nz1, ML_nil, encLTMark]) rfl
@[simp] theorem c36_fn1 (s_l : Nat) (z_l : D) : c36.fn [.sl false s_l z_l []] [] = some ((fun (l : List TMark) => True) [], (fun (l : List TMark) => (.agg [.sl false 2 yTMark (ML encTMark l), .fn (.func 51) [] []] : D)) [], (fun (l : List TMark) => []) []) :=
  mkCon_fn (fun x y h _ => c36_inj x y h) ([] : (List TMark)) (by simp [nz, nz1, ML_nil, encLTMark]) rfl
theorem c36_pc (l : List TMark) : PCo Try.prog 36 [encLTMark l] (Tab.of []) (.agg [.sl false 2 yTMark (ML encTMark l), .fn (.func 51) [] []]) (Tab.of []) := by
  refine pco_of_run [] (E := ⟨[], [], []⟩) (m := false) (base := 0) Env.ok_nil G_ok mix 300 6 Try.func36 (by kernel_rfl) rfl (by kernel_rfl) (by kernel_rfl) rfl ?_
  simp [Try.f36]
  all_goals first | omega | (rw [Bool.eq_iff_iff]; simp; omega) | grind
theorem c36_ok : c36.ok Try.prog := mkCon_ok fun l hpre => c36_pc l
/-- loop.example/g03007/impl.marksInOrder$1 -/
noncomputable def c51 : Con := mkCon 51 false (α := TMark) (fun x => (fun (x : TMark) => [encTMark x]) x) (fun _ => []) (fun x => (fun (x : TMark) => True) x) (fun x => (fun (x : TMark) => (dI (nMark x) : D)) x) (fun x => (fun (x : TMark) => []) x)
@[simp] theorem c51_f : c51.f = 51 := rfl
@[simp] theorem c51_own : c51.own = false := rfl
theorem c51_inj : ∀ u_ v_ : TMark, ((fun x => (fun (x : TMark) => [encTMark x]) x) u_).map nz = ((fun x => (fun (x : TMark) => [encTMark x]) x) v_).map nz → u_ = v_ := by
  intro u_ v_ h
  obtain ⟨x_Question, x_Answer⟩ := u_
  obtain ⟨x_Question', x_Answer'⟩ := v_
  simp [nz_lit, nz1_lit, nz_agg, nz_sl, nz1_sl, encTMark] at h
  first | (simp [h]; done) | (obtain ⟨⟩ := h; simp_all; done) | simp_all
@[simp] theorem c51_fn (x_Question : Int) (x_Answer : Int) : c51.fn [.agg [.lit (.int .i64 x_Question), .lit (.int .i64 x_Answer)]] [] = some ((fun (x : TMark) => True) ⟨x_Question, x_Answer⟩, (fun (x : TMark) => (dI (nMark x) : D)) ⟨x_Question, x_Answer⟩, (fun (x : TMark) => []) ⟨x_Question, x_Answer⟩) :=
  mkCon_fn (fun x y h _ => c51_inj x y h) (⟨x_Question, x_Answer⟩ : TMark) (by simp [nz, nz1, ML_nil, encTMark]) rfl
theorem c51_pc (x : TMark) : PCo Try.prog 51 [encTMark x] (Tab.of []) (dI (nMark x)) (Tab.of []) := by
  obtain ⟨x_Question, x_Answer⟩ := x
  refine pco_of_run [] (E := ⟨[], [], []⟩) (m := false) (base := 0) Env.ok_nil G_ok mix 300 6 Try.func51 (by kernel_rfl) rfl (by kernel_rfl) (by kernel_rfl) rfl ?_
  simp [Try.f51]
  all_goals first | omega | (rw [Bool.eq_iff_iff]; simp; omega) | grind
theorem c51_ok : c51.ok Try.prog := mkCon_ok fun x hpre => c51_pc x
/-- (loop.example/g03007/impl.sortedList[loop.example/g03007/impl.Mark]).isValid -/
noncomputable def c37 : Con := mkCon 37 false (α := (List TMark) × Int) (fun x => (fun (l : List TMark) (lim : Int) => ([.agg [.sl false 2 yTMark (ML encTMark l), .fn (.func 51) [] []], dI lim, .fn (.func 38) [] []] : List D)) x.1 x.2) (fun x => (fun (l : List TMark) (lim : Int) => ([] : List (Nm × OO))) x.1 x.2) (fun x => (fun (l : List TMark) (lim : Int) => l.length ≤ 1099511627776) x.1 x.2) (fun x => (fun (l : List TMark) (lim : Int) => (dB (decide (l.length ≤ lim) && ascBy mIsMark nMark none l) : D)) x.1 x.2) (fun x => (fun (l : List TMark) (lim : Int) => ([] : List (Nm × OO))) x.1 x.2)
@[simp] theorem c37_f : c37.f = 37 := rfl
@[simp] theorem c37_own : c37.own = false := rfl
theorem c37_inj : ∀ u_ v_ : (List TMark) × Int, ((fun x => (fun (l : List TMark) (lim : Int) => ([.agg [.sl false 2 yTMark (ML encTMark l), .fn (.func 51) [] []], dI lim, .fn (.func 38) [] []] : List D)) x.1 x.2) u_).map nz = ((fun x => (fun (l : List TMark) (lim : Int) => ([.agg [.sl false 2 yTMark (ML encTMark l), .fn (.func 51) [] []], dI lim, .fn (.func 38) [] []] : List D)) x.1 x.2) v_).map nz → (fun x => (fun (l : List TMark) (lim : Int) => ([] : List (Nm × OO))) x.1 x.2) u_ = (fun x => (fun (l : List TMark) (lim : Int) => ([] : List (Nm × OO))) x.1 x.2) v_ → u_ = v_ := by
  intro u_ v_ h h2_
  obtain ⟨l, lim⟩ := u_
  obtain ⟨l', lim'⟩ := v_
  simp [nz_lit, nz1_lit, nz_agg, nz_sl, nz1_sl, nz_sx, nz_el, nz1_el, nz_own, nz1_own, nz_ptr, nz_fn, nz_iface] at h h2_
  first | (simp [h, h2_]; done) | (obtain ⟨h3_, h4_⟩ := List.append_inj h2_ h.1; simp_all; done) | simp_all | grind
@[simp] theorem c37_fn (l : List TMark) (lim : Int) : c37.fn ([.agg [.sl false 2 yTMark (ML encTMark l), .fn (.func 51) [] []], dI lim, .fn (.func 38) [] []]) ([]) = some (l.length ≤ 1099511627776, dB (decide (l.length ≤ lim) && ascBy mIsMark nMark none l), []) :=
  mkCon_fn c37_inj ((l, lim) : (List TMark) × Int) rfl rfl
theorem c37_pc (l : List TMark) (lim : Int) (hpre : l.length ≤ 1099511627776) : PCo Try.prog 37 ([.agg [.sl false 2 yTMark (ML encTMark l), .fn (.func 51) [] []], dI lim, .fn (.func 38) [] []]) (Tab.of ([])) (dB (decide (l.length ≤ lim) && ascBy mIsMark nMark none l)) (Tab.of ([])) := by
  refine pco_of_run [6] (E := ⟨[c51, c38], [], []⟩) (m := false) (base := 0) (Env.ok_cons c51_ok (Env.ok_cons c38_ok Env.ok_nil)) G_ok mix 300 6 Try.func37 (by kernel_rfl) rfl (by kernel_rfl) (by kernel_rfl) rfl ?_
  simp [Try.f37]
  refine ⟨fun h h2 => by omega, fun hlim => ?_⟩
  refine loop_inv (fun p : Nat => p ≤ l.length ∧ ascBy mIsMark nMark none l = ascBy mIsMark nMark (prevO nMark l p) (l.drop p)) (fun p => [(2, .fn (.func 38) [] []), (3, .ptr (0, 1) 0), (6, dB false), (15, .sl false 2 yTMark (ML encTMark l)), (16, dI l.length), (17, dI p)]) (fun _ => [((0, 1), .box (.agg [.sl false 2 yTMark (ML encTMark l), .fn (.func 51) [] []]))]) 2 (fun p => l.length - p) 0 400 (by simp) (by simp) (by simp) ?_
  intro p ⟨hp, hi⟩
  simp
  refine ⟨fun hlt => ?_, fun hge => ?_⟩
  · rw [ascBy_at hlt] at hi; simp only [nMark, wantN] at hi
    repeat' (first | omega | refine And.intro ?_ ?_ | intro _)
    all_goals first | exact Again.mk (p + 1) ⟨by omega, by rw [hi]; grind⟩ (by simp) (by first | omega | (simp; omega)) | (rw [hi]; grind)
  · rw [hi, ascBy_end hge]; simp; omega
theorem c37_ok : c37.ok Try.prog := mkCon_ok fun ⟨l, lim⟩ hpre => c37_pc l lim hpre
/-- loop.example/g03007/impl.AreMarks -/
noncomputable def c19 : Con := mkCon 19 false (α := (List TMark)) (fun x => (fun (l : List TMark) => [encLTMark l]) x) (fun _ => []) (fun x => (fun (l : List TMark) => l.length ≤ 1099511627776) x) (fun x => (fun (l : List TMark) => (dB (mAreMarks l) : D)) x) (fun x => (fun (l : List TMark) => []) x)
@[simp] theorem c19_f : c19.f = 19 := rfl
@[simp] theorem c19_own : c19.own = false := rfl
theorem c19_inj : ∀ u_ v_ : (List TMark), ((fun x => (fun (l : List TMark) => [encLTMark l]) x) u_).map nz = ((fun x => (fun (l : List TMark) => [encLTMark l]) x) v_).map nz → u_ = v_ := by
  intro u_ v_ h
  obtain l := u_
  obtain l' := v_
  simp [nz_lit, nz1_lit, nz_agg, nz_sl, nz1_sl, encLTMark] at h
  first | (simp [h]; done) | (obtain ⟨⟩ := h; simp_all; done) | simp_all
@[simp] theorem c19_fn (l : List TMark) : c19.fn [.sl false 2 yTMark (ML encTMark l)] [] = some ((fun (l : List TMark) => l.length ≤ 1099511627776) l, (fun (l : List TMark) => (dB (mAreMarks l) : D)) l, (fun (l : List TMark) => []) l) :=
  mkCon_fn (fun x y h _ => c19_inj x y h) (l : (List TMark)) (by simp [nz, nz1, ML_nil, encLTMark]) rfl
@[simp] theorem c19_fn1 (s_l : Nat) (z_l : D) : c19.fn [.sl false s_l z_l []] [] = some ((fun (l : List TMark) => l.length ≤ 1099511627776) [], (fun (l : List TMark) => (dB (mAreMarks l) : D)) [], (fun (l : List TMark) => []) []) :=
  mkCon_fn (fun x y h _ => c19_inj x y h) ([] : (List TMark)) (by simp [nz, nz1, ML_nil, encLTMark]) rfl
theorem c19_pc (l : List TMark) (hpre : l.length ≤ 1099511627776) : PCo Try.prog 19 [encLTMark l] (Tab.of []) (dB (mAreMarks l)) (Tab.of []) := by
  refine pco_of_run [] (E := ⟨[c36, c37, c38, c38], [], []⟩) (m := false) (base := 0) (Env.ok_cons c36_ok (Env.ok_cons c37_ok (Env.ok_cons c38_ok (Env.ok_cons c38_ok Env.ok_nil)))) G_ok mix 300 6 Try.func19 (by kernel_rfl) rfl (by kernel_rfl) (by kernel_rfl) rfl ?_
  simp [Try.f19]
  have h : ((l.length : Int) ≤ 8) ↔ l.length ≤ 8 := by omega
  simp [mAreMarks, h, hpre]
theorem c19_ok : c19.ok Try.prog := mkCon_ok fun l hpre => c19_pc l hpre
/-- what the marks' text is sealed of -/
def sealL (salt : Int) : List TMark → List Int
  | [] => [salt]
  | l => salt :: l.flatMap fun m => [m.Question, m.Answer]
def mSealL (salt : Int) (l : List TMark) : List Int := salt :: l.flatMap fun m => [m.Question, m.Answer]
theorem mSealL_at {salt : Int} {l : List TMark} {p : Nat} (h : p < l.length) : mSealL salt (l.take (p + 1)) = mSealL salt (l.take p) ++ [(l[p]?.getD default).Question, (l[p]?.getD default).Answer] := by
  rw [take_at (d := default) h]; simp [mSealL]
theorem mSealL_len (salt : Int) : ∀ (l : List TMark), (mSealL salt l).length = 2 * l.length + 1
  | [] => rfl
  | x :: l => by have := mSealL_len salt l; simp [mSealL] at this ⊢; omega
def mSeal (l : List TMark) (salt : Int) : Int := mHash (mSealL salt l)
/-- loop.example/g03007/impl.SealMarks -/
noncomputable def c18 : Con := mkCon 18 false (α := (List TMark) × Int) (fun x => (fun (l : List TMark) (salt : Int) => [encLTMark l, dI salt]) x.1 x.2) (fun _ => []) (fun x => (fun (l : List TMark) (salt : Int) => l.length ≤ 1073741823) x.1 x.2) (fun x => (fun (l : List TMark) (salt : Int) => (dI (mSeal l salt) : D)) x.1 x.2) (fun x => (fun (l : List TMark) (salt : Int) => []) x.1 x.2)
@[simp] theorem c18_f : c18.f = 18 := rfl
@[simp] theorem c18_own : c18.own = false := rfl
theorem c18_inj : ∀ u_ v_ : (List TMark) × Int, ((fun x => (fun (l : List TMark) (salt : Int) => [encLTMark l, dI salt]) x.1 x.2) u_).map nz = ((fun x => (fun (l : List TMark) (salt : Int) => [encLTMark l, dI salt]) x.1 x.2) v_).map nz → u_ = v_ := by
  intro u_ v_ h
  obtain ⟨l, salt⟩ := u_
  obtain ⟨l', salt'⟩ := v_
  simp [nz_lit, nz1_lit, nz_agg, nz_sl, nz1_sl, encLTMark] at h
  first | (simp [h]; done) | (obtain ⟨⟩ := h; simp_all; done) | simp_all
@[simp] theorem c18_fn (l : List TMark) (salt : Int) : c18.fn [.sl false 2 yTMark (ML encTMark l), .lit (.int .i64 salt)] [] = some ((fun (l : List TMark) (salt : Int) => l.length ≤ 1073741823) l salt, (fun (l : List TMark) (salt : Int) => (dI (mSeal l salt) : D)) l salt, (fun (l : List TMark) (salt : Int) => []) l salt) :=
  mkCon_fn (fun x y h _ => c18_inj x y h) ((l, salt) : (List TMark) × Int) (by simp [nz, nz1, ML_nil, encLTMark]) rfl
@[simp] theorem c18_fn1 (s_l : Nat) (z_l : D) (salt : Int) : c18.fn [.sl false s_l z_l [], .lit (.int .i64 salt)] [] = some ((fun (l : List TMark) (salt : Int) => l.length ≤ 1073741823) [] salt, (fun (l : List TMark) (salt : Int) => (dI (mSeal l salt) : D)) [] salt, (fun (l : List TMark) (salt : Int) => []) [] salt) :=
  mkCon_fn (fun x y h _ => c18_inj x y h) (([], salt) : (List TMark) × Int) (by simp [nz, nz1, ML_nil, encLTMark]) rfl
theorem c18_pc (l : List TMark) (salt : Int) (hpre : l.length ≤ 1073741823) : PCo Try.prog 18 [encLTMark l, dI salt] (Tab.of []) (dI (mSeal l salt)) (Tab.of []) := by
  refine pco_of_run [] (E := ⟨[c35], [], []⟩) (m := false) (base := 0) (Env.ok_cons c35_ok Env.ok_nil) G_ok mix 300 6 Try.func18 (by kernel_rfl) rfl (by kernel_rfl) (by kernel_rfl) rfl ?_
  simp [Try.f18]
  refine loop_inv (fun p : Nat => p ≤ l.length) (fun p => [(5, .own (0, 1) 1 0 (2 * p + 1)), (10, encLTMark l), (11, dI l.length), (12, dI p)]) (fun p => [((0, 1), .arr false 1 (dI 0) (ML dI (mSealL salt (l.take p))))]) 2 (fun p => l.length - p) 0 400 (by simp) (by simp) (by simp [mSealL]; first | done | rfl) ?_
  intro p hp
  have hl := mSealL_len salt (l.take p)
  have hm : min p l.length = p := by omega
  simp [hl, hm]
  refine ⟨fun hlt => ?_, fun hge => ?_⟩
  · have hs := mSealL_at (salt := salt) hlt
    repeat' (first | omega | refine And.intro ?_ ?_ | intro _)
    exact Again.mk (p + 1) (by omega) (by simp [hs, hl, hm]; exact ⟨by omega, by simp only [ML, List.map_append]; rfl⟩) (by first | omega | (simp; omega))
  · rw [List.take_of_length_le hge]
    refine ⟨by omega, rfl⟩
theorem c18_ok : c18.ok Try.prog := mkCon_ok fun ⟨l, salt⟩ hpre => c18_pc l salt hpre
def mOpens (l : List TMark) (salt s : Int) : Bool := mAreMarks l && decide (mSeal l salt = s)
/-- loop.example/g03007/impl.OpensSeal -/
noncomputable def c17 : Con := mkCon 17 false (α := (List TMark) × Int × Int) (fun x => (fun (l : List TMark) (salt : Int) (s : Int) => [encLTMark l, dI salt, dI s]) x.1 x.2.1 x.2.2) (fun _ => []) (fun x => (fun (l : List TMark) (salt : Int) (s : Int) => l.length ≤ 1073741823) x.1 x.2.1 x.2.2) (fun x => (fun (l : List TMark) (salt : Int) (s : Int) => (dB (mOpens l salt s) : D)) x.1 x.2.1 x.2.2) (fun x => (fun (l : List TMark) (salt : Int) (s : Int) => []) x.1 x.2.1 x.2.2)
@[simp] theorem c17_f : c17.f = 17 := rfl
@[simp] theorem c17_own : c17.own = false := rfl
theorem c17_inj : ∀ u_ v_ : (List TMark) × Int × Int, ((fun x => (fun (l : List TMark) (salt : Int) (s : Int) => [encLTMark l, dI salt, dI s]) x.1 x.2.1 x.2.2) u_).map nz = ((fun x => (fun (l : List TMark) (salt : Int) (s : Int) => [encLTMark l, dI salt, dI s]) x.1 x.2.1 x.2.2) v_).map nz → u_ = v_ := by
  intro u_ v_ h
  obtain ⟨l, salt, s⟩ := u_
  obtain ⟨l', salt', s'⟩ := v_
  simp [nz_lit, nz1_lit, nz_agg, nz_sl, nz1_sl, encLTMark] at h
  first | (simp [h]; done) | (obtain ⟨⟩ := h; simp_all; done) | simp_all
@[simp] theorem c17_fn (l : List TMark) (salt : Int) (s : Int) : c17.fn [.sl false 2 yTMark (ML encTMark l), .lit (.int .i64 salt), .lit (.int .i64 s)] [] = some ((fun (l : List TMark) (salt : Int) (s : Int) => l.length ≤ 1073741823) l salt s, (fun (l : List TMark) (salt : Int) (s : Int) => (dB (mOpens l salt s) : D)) l salt s, (fun (l : List TMark) (salt : Int) (s : Int) => []) l salt s) :=
  mkCon_fn (fun x y h _ => c17_inj x y h) ((l, salt, s) : (List TMark) × Int × Int) (by simp [nz, nz1, ML_nil, encLTMark]) rfl
@[simp] theorem c17_fn1 (s_l : Nat) (z_l : D) (salt : Int) (s : Int) : c17.fn [.sl false s_l z_l [], .lit (.int .i64 salt), .lit (.int .i64 s)] [] = some ((fun (l : List TMark) (salt : Int) (s : Int) => l.length ≤ 1073741823) [] salt s, (fun (l : List TMark) (salt : Int) (s : Int) => (dB (mOpens l salt s) : D)) [] salt s, (fun (l : List TMark) (salt : Int) (s : Int) => []) [] salt s) :=
  mkCon_fn (fun x y h _ => c17_inj x y h) (([], salt, s) : (List TMark) × Int × Int) (by simp [nz, nz1, ML_nil, encLTMark]) rfl
theorem c17_pc (l : List TMark) (salt : Int) (s : Int) (hpre : l.length ≤ 1073741823) : PCo Try.prog 17 [encLTMark l, dI salt, dI s] (Tab.of []) (dB (mOpens l salt s)) (Tab.of []) := by
  refine pco_of_run [] (E := ⟨[c18, c19], [], []⟩) (m := false) (base := 0) (Env.ok_cons c18_ok (Env.ok_cons c19_ok Env.ok_nil)) G_ok mix 300 6 Try.func17 (by kernel_rfl) rfl (by kernel_rfl) (by kernel_rfl) rfl ?_
  simp [Try.f17]
  simp [mOpens]
  refine ⟨⟨by omega, fun _ => hpre⟩, ?_⟩
  first | rfl | omega | (rw [Bool.eq_iff_iff]; simp; done) | (rw [Bool.eq_iff_iff]; simp; omega) | (rw [Bool.eq_iff_iff]; simp; grind) | grind
theorem c17_ok : c17.ok Try.prog := mkCon_ok fun ⟨l, salt, s⟩ hpre => c17_pc l salt s hpre
def lookQ (q : Int) : List TMark → Int
  | [] => -1
  | x :: r => if x.Question = q then x.Answer else lookQ q r
theorem lookQ_at {q : Int} {l : List TMark} {p : Nat} (h : p < l.length) : lookQ q (l.drop p) = if (l[p]?.getD default).Question = q then (l[p]?.getD default).Answer else lookQ q (l.drop (p + 1)) := by
  rw [drop_at (d := default) h, lookQ]
theorem lookQ_end {q : Int} {l : List TMark} {p : Nat} (h : l.length ≤ p) : lookQ q (l.drop p) = -1 := by
  rw [List.drop_eq_nil_of_le h, lookQ]
def hInts (l : List Int) : Int := mHash l
@[simp] theorem c35_one (n : Int) : c35.fn [.sl false 1 (.lit (.int .i64 0)) [dI n]] [] = some (1 ≤ 1099511627776, dI (mHash [n]), []) := c35_fn [n]
def mQuestion (l : List TMark) (claim n : Int) : Int := if decide (l.length = 0) || !mAreMarks l || !mIn n 0 1000 then 0 else (l[((mHash [claim] + n) % l.length).toNat]?.getD default).Question
theorem question_nil {l : List TMark} {c n : Int} (h : (l = [] ∨ mAreMarks l = false) ∨ mIn n 0 1000 = false) : 0 = mQuestion l c n := by
  simp only [mQuestion]
  rw [if_pos]
  rcases h with (h | h) | h <;> simp [h]
theorem question_of {l : List TMark} {c n : Int} (h1 : ¬ l = []) (h2 : mAreMarks l = true) (h3 : mIn n 0 1000 = true) : mQuestion l c n = (l[((mHash [c] + n) % l.length).toNat]?.getD default).Question := by
  simp only [mQuestion]
  rw [if_neg (by simp [h1, h2, h3])]
/-- loop.example/g03007/impl.QuestionFor -/
noncomputable def c21 : Con := mkCon 21 false (α := (List TMark) × Int × Int) (fun x => (fun (l : List TMark) (c : Int) (n : Int) => [encLTMark l, dI c, dI n]) x.1 x.2.1 x.2.2) (fun _ => []) (fun x => (fun (l : List TMark) (c : Int) (n : Int) => l.length ≤ 1073741823) x.1 x.2.1 x.2.2) (fun x => (fun (l : List TMark) (c : Int) (n : Int) => (dI (mQuestion l c n) : D)) x.1 x.2.1 x.2.2) (fun x => (fun (l : List TMark) (c : Int) (n : Int) => []) x.1 x.2.1 x.2.2)
@[simp] theorem c21_f : c21.f = 21 := rfl
@[simp] theorem c21_own : c21.own = false := rfl
theorem c21_inj : ∀ u_ v_ : (List TMark) × Int × Int, ((fun x => (fun (l : List TMark) (c : Int) (n : Int) => [encLTMark l, dI c, dI n]) x.1 x.2.1 x.2.2) u_).map nz = ((fun x => (fun (l : List TMark) (c : Int) (n : Int) => [encLTMark l, dI c, dI n]) x.1 x.2.1 x.2.2) v_).map nz → u_ = v_ := by
  intro u_ v_ h
  obtain ⟨l, c, n⟩ := u_
  obtain ⟨l', c', n'⟩ := v_
  simp [nz_lit, nz1_lit, nz_agg, nz_sl, nz1_sl, encLTMark] at h
  first | (simp [h]; done) | (obtain ⟨⟩ := h; simp_all; done) | simp_all
@[simp] theorem c21_fn (l : List TMark) (c : Int) (n : Int) : c21.fn [.sl false 2 yTMark (ML encTMark l), .lit (.int .i64 c), .lit (.int .i64 n)] [] = some ((fun (l : List TMark) (c : Int) (n : Int) => l.length ≤ 1073741823) l c n, (fun (l : List TMark) (c : Int) (n : Int) => (dI (mQuestion l c n) : D)) l c n, (fun (l : List TMark) (c : Int) (n : Int) => []) l c n) :=
  mkCon_fn (fun x y h _ => c21_inj x y h) ((l, c, n) : (List TMark) × Int × Int) (by simp [nz, nz1, ML_nil, encLTMark]) rfl
@[simp] theorem c21_fn1 (s_l : Nat) (z_l : D) (c : Int) (n : Int) : c21.fn [.sl false s_l z_l [], .lit (.int .i64 c), .lit (.int .i64 n)] [] = some ((fun (l : List TMark) (c : Int) (n : Int) => l.length ≤ 1073741823) [] c n, (fun (l : List TMark) (c : Int) (n : Int) => (dI (mQuestion l c n) : D)) [] c n, (fun (l : List TMark) (c : Int) (n : Int) => []) [] c n) :=
  mkCon_fn (fun x y h _ => c21_inj x y h) (([], c, n) : (List TMark) × Int × Int) (by simp [nz, nz1, ML_nil, encLTMark]) rfl
theorem c21_pc (l : List TMark) (c : Int) (n : Int) (hpre : l.length ≤ 1073741823) : PCo Try.prog 21 [encLTMark l, dI c, dI n] (Tab.of []) (dI (mQuestion l c n)) (Tab.of []) := by
  refine pco_of_run [] (E := ⟨[c19, c31, c35, c39], [], []⟩) (m := false) (base := 0) (Env.ok_cons c19_ok (Env.ok_cons c31_ok (Env.ok_cons c35_ok (Env.ok_cons c39_ok Env.ok_nil)))) G_ok mix 300 6 Try.func21 (by kernel_rfl) rfl (by kernel_rfl) (by kernel_rfl) rfl ?_
  simp [Try.f21]
  refine ⟨fun _ => by omega, question_nil, fun h1 h2 h3 => ?_⟩
  have hl : 0 < l.length := List.length_pos_iff.2 h1
  have hb := mHash_bd [c]
  have hn := mIn_iff.1 h3
  have hq : mMod (mHash [c] + n) (l.length : Int) = (mHash [c] + n) % (l.length : Int) := by
    have : mIn (l.length : Int) 1 1000000000000 = true := mIn_iff.2 (by omega)
    simp [mMod, this]
  rw [hq, question_of h1 h2 h3]
  have hm2 := emod_bd (mHash [c] + n) (show (0 : Int) < l.length by omega)
  repeat' (first | omega | refine And.intro ?_ ?_ | intro _)
  all_goals first | exact h1 | rfl
theorem c21_ok : c21.ok Try.prog := mkCon_ok fun ⟨l, c, n⟩ hpre => c21_pc l c n hpre
def ksQ (l : List TMark) : List Int := l.foldl (fun ks m => insI ks m.Question) []
theorem insI_iff {ks : List Int} {v k : Int} : k ∈ insI ks v ↔ k ∈ ks ∨ k = v := by
  simp only [insI]; split
  · rename_i h; constructor
    · exact .inl
    · rintro (h' | rfl)
      · exact h'
      · exact h
  · simp
theorem ksQ_fold {k : Int} : ∀ (l : List TMark) (ks : List Int), k ∈ l.foldl (fun ks m => insI ks m.Question) ks ↔ k ∈ ks ∨ ∃ m ∈ l, m.Question = k
  | [], ks => by simp
  | x :: l, ks => by
    rw [List.foldl_cons, ksQ_fold l, insI_iff]
    simp only [List.mem_cons]
    constructor
    · rintro ((h | h) | ⟨m, h1, h2⟩)
      · exact .inl h
      · exact .inr ⟨x, .inl rfl, h.symm⟩
      · exact .inr ⟨m, .inr h1, h2⟩
    · rintro (h | ⟨m, (rfl | h1), h2⟩)
      · exact .inl (.inl h)
      · exact .inl (.inr h2.symm)
      · exact .inr ⟨m, h1, h2⟩
theorem ksQ_mem {k : Int} {l : List TMark} : k ∈ ksQ l ↔ ∃ m ∈ l, m.Question = k := by simp [ksQ, ksQ_fold]
theorem ksQ_at {l : List TMark} {p : Nat} (h : p < l.length) : ksQ (l.take (p + 1)) = insI (ksQ (l.take p)) (l[p]?.getD default).Question := by
  simp only [ksQ]; rw [foldl_at (d := default) h]
theorem lookQ_skip {k : Int} : ∀ (l r : List TMark), (¬ ∃ m ∈ l, m.Question = k) → lookQ k (l ++ r) = lookQ k r
  | [], r, _ => rfl
  | x :: l, r, h => by
    have h1 : ¬ x.Question = k := fun e => h ⟨x, by simp, e⟩
    have h2 : ¬ ∃ m ∈ l, m.Question = k := fun ⟨m, hm, e⟩ => h ⟨m, by simp [hm], e⟩
    rw [List.cons_append, lookQ, if_neg h1, lookQ_skip l r h2]
theorem lookQ_none {k : Int} {l : List TMark} (h : k ∉ ksQ l) : lookQ k l = -1 := by
  have := lookQ_skip l [] (fun h' => h (ksQ_mem.2 h'))
  simpa [lookQ] using this
theorem lookQ_new {l : List TMark} {p : Nat} (h : p < l.length) (hn : (l[p]?.getD default).Question ∉ ksQ (l.take p)) : lookQ (l[p]?.getD default).Question l = (l[p]?.getD default).Answer := by
  have h1 := lookQ_skip (k := (l[p]?.getD default).Question) (l.take p) (l.drop p) (fun h' => hn (ksQ_mem.2 h'))
  rw [List.take_append_drop, lookQ_at h, if_pos rfl] at h1
  exact h1
/-- loop.example/g03007/impl.answersOf -/
noncomputable def c40 : Con := mkCon 40 false (α := (List TMark)) (fun x => (fun (l : List TMark) => [encLTMark l]) x) (fun _ => []) (fun x => (fun (l : List TMark) => l.length ≤ 1099511627776) x) (fun x => (fun (l : List TMark) => (.mp (0, 1) : D)) x) (fun x => (fun (l : List TMark) => [((0, 1), .map 0 (keysI (ksQ l)) (dI 0) (ML dI ((ksQ l).map fun k => lookQ k l)))]) x)
@[simp] theorem c40_f : c40.f = 40 := rfl
@[simp] theorem c40_own : c40.own = false := rfl
theorem c40_inj : ∀ u_ v_ : (List TMark), ((fun x => (fun (l : List TMark) => [encLTMark l]) x) u_).map nz = ((fun x => (fun (l : List TMark) => [encLTMark l]) x) v_).map nz → u_ = v_ := by
  intro u_ v_ h
  obtain l := u_
  obtain l' := v_
  simp [nz_lit, nz1_lit, nz_agg, nz_sl, nz1_sl, encLTMark] at h
  first | (simp [h]; done) | (obtain ⟨⟩ := h; simp_all; done) | simp_all
@[simp] theorem c40_fn (l : List TMark) : c40.fn [.sl false 2 yTMark (ML encTMark l)] [] = some ((fun (l : List TMark) => l.length ≤ 1099511627776) l, (fun (l : List TMark) => (.mp (0, 1) : D)) l, (fun (l : List TMark) => [((0, 1), .map 0 (keysI (ksQ l)) (dI 0) (ML dI ((ksQ l).map fun k => lookQ k l)))]) l) :=
  mkCon_fn (fun x y h _ => c40_inj x y h) (l : (List TMark)) (by simp [nz, nz1, ML_nil, encLTMark]) rfl
@[simp] theorem c40_fn1 (s_l : Nat) (z_l : D) : c40.fn [.sl false s_l z_l []] [] = some ((fun (l : List TMark) => l.length ≤ 1099511627776) [], (fun (l : List TMark) => (.mp (0, 1) : D)) [], (fun (l : List TMark) => [((0, 1), .map 0 (keysI (ksQ l)) (dI 0) (ML dI ((ksQ l).map fun k => lookQ k l)))]) []) :=
  mkCon_fn (fun x y h _ => c40_inj x y h) ([] : (List TMark)) (by simp [nz, nz1, ML_nil, encLTMark]) rfl
theorem c40_pc (l : List TMark) (hpre : l.length ≤ 1099511627776) : PCo Try.prog 40 [encLTMark l] (Tab.of []) (.mp (0, 1)) (Tab.of [((0, 1), .map 0 (keysI (ksQ l)) (dI 0) (ML dI ((ksQ l).map fun k => lookQ k l)))]) := by
  refine pco_of_run [] (E := ⟨[], [], []⟩) (m := false) (base := 0) Env.ok_nil G_ok mix 300 6 Try.func40 (by kernel_rfl) rfl (by kernel_rfl) (by kernel_rfl) rfl ?_
  simp [Try.f40]
  refine loop_inv (fun p : Nat => p ≤ l.length) (fun p => [(3, .mp (0, 1)), (9, encLTMark l), (10, dI l.length), (11, dI p)]) (fun p => [((0, 1), .map 0 (keysI (ksQ (l.take p))) (dI 0) (ML dI ((ksQ (l.take p)).map fun k => lookQ k l)))]) 2 (fun p => l.length - p) 0 400 (by simp) (by simp) (by simp [ksQ, keysI]) ?_
  intro p hp
  simp
  refine ⟨fun hlt => ?_, fun hge => ?_⟩
  · have hk := ksQ_at hlt
    by_cases hm : (l[p]?.getD default).Question ∈ ksQ (l.take p)
    · simp [lookK_keys, hm]
      repeat' (first | omega | refine And.intro ?_ ?_ | intro _)
      exact Again.mk (p + 1) (by omega) (by simp [hk, insI_mem hm]) (by first | omega | (simp; omega))
    · simp [lookK_keys, hm]
      repeat' (first | omega | refine And.intro ?_ ?_ | intro _)
      exact Again.mk (p + 1) (by omega) (by simp [hk]; rw [← lookQ_new hlt hm]; exact updK_keys (f := fun k => lookQ k l) hm) (by first | omega | (simp; omega))
  · rw [List.take_of_length_le hge]; simp
theorem c40_ok : c40.ok Try.prog := mkCon_ok fun l hpre => c40_pc l hpre
/-- loop.example/g03007/impl.AnswerOf -/
noncomputable def c22 : Con := mkCon 22 false (α := (List TMark) × Int) (fun x => (fun (l : List TMark) (q : Int) => [encLTMark l, dI q]) x.1 x.2) (fun _ => []) (fun x => (fun (l : List TMark) (q : Int) => l.length ≤ 1099511627776) x.1 x.2) (fun x => (fun (l : List TMark) (q : Int) => (dI (lookQ q l) : D)) x.1 x.2) (fun x => (fun (l : List TMark) (q : Int) => []) x.1 x.2)
@[simp] theorem c22_f : c22.f = 22 := rfl
@[simp] theorem c22_own : c22.own = false := rfl
theorem c22_inj : ∀ u_ v_ : (List TMark) × Int, ((fun x => (fun (l : List TMark) (q : Int) => [encLTMark l, dI q]) x.1 x.2) u_).map nz = ((fun x => (fun (l : List TMark) (q : Int) => [encLTMark l, dI q]) x.1 x.2) v_).map nz → u_ = v_ := by
  intro u_ v_ h
  obtain ⟨l, q⟩ := u_
  obtain ⟨l', q'⟩ := v_
  simp [nz_lit, nz1_lit, nz_agg, nz_sl, nz1_sl, encLTMark] at h
  first | (simp [h]; done) | (obtain ⟨⟩ := h; simp_all; done) | simp_all
@[simp] theorem c22_fn (l : List TMark) (q : Int) : c22.fn [.sl false 2 yTMark (ML encTMark l), .lit (.int .i64 q)] [] = some ((fun (l : List TMark) (q : Int) => l.length ≤ 1099511627776) l q, (fun (l : List TMark) (q : Int) => (dI (lookQ q l) : D)) l q, (fun (l : List TMark) (q : Int) => []) l q) :=
  mkCon_fn (fun x y h _ => c22_inj x y h) ((l, q) : (List TMark) × Int) (by simp [nz, nz1, ML_nil, encLTMark]) rfl
@[simp] theorem c22_fn1 (s_l : Nat) (z_l : D) (q : Int) : c22.fn [.sl false s_l z_l [], .lit (.int .i64 q)] [] = some ((fun (l : List TMark) (q : Int) => l.length ≤ 1099511627776) [] q, (fun (l : List TMark) (q : Int) => (dI (lookQ q l) : D)) [] q, (fun (l : List TMark) (q : Int) => []) [] q) :=
  mkCon_fn (fun x y h _ => c22_inj x y h) (([], q) : (List TMark) × Int) (by simp [nz, nz1, ML_nil, encLTMark]) rfl
theorem c22_pc (l : List TMark) (q : Int) (hpre : l.length ≤ 1099511627776) : PCo Try.prog 22 [encLTMark l, dI q] (Tab.of []) (dI (lookQ q l)) (Tab.of []) := by
  refine pco_of_run [] (E := ⟨[c40], [], []⟩) (m := false) (base := 0) (Env.ok_cons c40_ok Env.ok_nil) G_ok mix 300 6 Try.func22 (by kernel_rfl) rfl (by kernel_rfl) (by kernel_rfl) rfl ?_
  by_cases hm : q ∈ ksQ l
  · simp [Try.f22, lookK_keys, hm]
    exact hpre
  · have := lookQ_none hm
    simp [Try.f22, lookK_keys, hm]
    exact ⟨hpre, this.symm⟩
theorem c22_ok : c22.ok Try.prog := mkCon_ok fun ⟨l, q⟩ hpre => c22_pc l q hpre
end Go.Proofs.Ytojpebfoajeilaa
