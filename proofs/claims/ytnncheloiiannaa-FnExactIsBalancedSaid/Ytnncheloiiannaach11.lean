/- Contracts of the functions that the laws run. -/
import Derived.Test.Ytnncheloiiannaach03
import Derived.Test.YtnncheloiiannaaEngB
namespace Go.Proofs.Ytnncheloiiannaa
open Go Go.Eng
set_option linter.unusedSimpArgs false
set_option linter.unusedVariables false
set_option maxRecDepth 10000
set_option maxHeartbeats 1000000
/-- loop.example/g03007/laws.toMark -/
noncomputable def c65 : Con := mkCon 65 false (α := TMark) (fun x => (fun (a : TMark) => [encTMark a]) x) (fun _ => []) (fun x => (fun (a : TMark) => True) x) (fun x => (fun (a : TMark) => (encTMark a : D)) x) (fun x => (fun (a : TMark) => []) x)
@[simp] theorem c65_f : c65.f = 65 := rfl
@[simp] theorem c65_own : c65.own = false := rfl
theorem c65_inj : ∀ u_ v_ : TMark, ((fun x => (fun (a : TMark) => [encTMark a]) x) u_).map nz = ((fun x => (fun (a : TMark) => [encTMark a]) x) v_).map nz → u_ = v_ := by
  intro u_ v_ h
  obtain ⟨a_Question, a_Answer⟩ := u_
  obtain ⟨a_Question', a_Answer'⟩ := v_
  simp [nz_lit, nz1_lit, nz_agg, nz_sl, nz1_sl, encTMark] at h
  first | (simp [h]; done) | (obtain ⟨⟩ := h; simp_all; done) | simp_all
@[simp] theorem c65_fn (a_Question : Int) (a_Answer : Int) : c65.fn [.agg [.lit (.int .i64 a_Question), .lit (.int .i64 a_Answer)]] [] = some ((fun (a : TMark) => True) ⟨a_Question, a_Answer⟩, (fun (a : TMark) => (encTMark a : D)) ⟨a_Question, a_Answer⟩, (fun (a : TMark) => []) ⟨a_Question, a_Answer⟩) :=
  mkCon_fn (fun x y h _ => c65_inj x y h) (⟨a_Question, a_Answer⟩ : TMark) (by simp [nz, nz1, ML_nil, encTMark]) rfl
theorem c65_pc (a : TMark) : PCo Try.prog 65 [encTMark a] (Tab.of []) (encTMark a) (Tab.of []) := by
  obtain ⟨a_Question, a_Answer⟩ := a
  refine pco_of_run [] (E := ⟨[], [], []⟩) (m := false) (base := 0) Env.ok_nil G_ok mix 300 6 Try.func65 (by kernel_rfl) rfl (by kernel_rfl) (by kernel_rfl) rfl ?_
  simp [Try.f65]
  all_goals first | omega | (rw [Bool.eq_iff_iff]; simp; omega) | grind
theorem c65_ok : c65.ok Try.prog := mkCon_ok fun a hpre => c65_pc a
/-- loop.example/g03007/laws.eqMark -/
noncomputable def c70 : Con := mkCon 70 false (α := TMark × TMark) (fun x => (fun (a : TMark) (b : TMark) => [encTMark a, encTMark b]) x.1 x.2) (fun _ => []) (fun x => (fun (a : TMark) (b : TMark) => True) x.1 x.2) (fun x => (fun (a : TMark) (b : TMark) => (dB (decide (a = b)) : D)) x.1 x.2) (fun x => (fun (a : TMark) (b : TMark) => []) x.1 x.2)
@[simp] theorem c70_f : c70.f = 70 := rfl
@[simp] theorem c70_own : c70.own = false := rfl
theorem c70_inj : ∀ u_ v_ : TMark × TMark, ((fun x => (fun (a : TMark) (b : TMark) => [encTMark a, encTMark b]) x.1 x.2) u_).map nz = ((fun x => (fun (a : TMark) (b : TMark) => [encTMark a, encTMark b]) x.1 x.2) v_).map nz → u_ = v_ := by
  intro u_ v_ h
  obtain ⟨⟨a_Question, a_Answer⟩, ⟨b_Question, b_Answer⟩⟩ := u_
  obtain ⟨⟨a_Question', a_Answer'⟩, ⟨b_Question', b_Answer'⟩⟩ := v_
  simp [nz_lit, nz1_lit, nz_agg, nz_sl, nz1_sl, encTMark] at h
  first | (simp [h]; done) | (obtain ⟨⟩ := h; simp_all; done) | simp_all
@[simp] theorem c70_fn (a_Question : Int) (a_Answer : Int) (b_Question : Int) (b_Answer : Int) : c70.fn [.agg [.lit (.int .i64 a_Question), .lit (.int .i64 a_Answer)], .agg [.lit (.int .i64 b_Question), .lit (.int .i64 b_Answer)]] [] = some ((fun (a : TMark) (b : TMark) => True) ⟨a_Question, a_Answer⟩ ⟨b_Question, b_Answer⟩, (fun (a : TMark) (b : TMark) => (dB (decide (a = b)) : D)) ⟨a_Question, a_Answer⟩ ⟨b_Question, b_Answer⟩, (fun (a : TMark) (b : TMark) => []) ⟨a_Question, a_Answer⟩ ⟨b_Question, b_Answer⟩) :=
  mkCon_fn (fun x y h _ => c70_inj x y h) ((⟨a_Question, a_Answer⟩, ⟨b_Question, b_Answer⟩) : TMark × TMark) (by simp [nz, nz1, ML_nil, encTMark]) rfl
theorem c70_pc (a : TMark) (b : TMark) : PCo Try.prog 70 [encTMark a, encTMark b] (Tab.of []) (dB (decide (a = b))) (Tab.of []) := by
  obtain ⟨a_Question, a_Answer⟩ := a
  obtain ⟨b_Question, b_Answer⟩ := b
  refine pco_of_run [] (E := ⟨[], [], []⟩) (m := false) (base := 0) Env.ok_nil G_ok mix 300 6 Try.func70 (by kernel_rfl) rfl (by kernel_rfl) (by kernel_rfl) rfl ?_
  simp [Try.f70]
  all_goals first | omega | (rw [Bool.eq_iff_iff]; simp; omega) | grind
theorem c70_ok : c70.ok Try.prog := mkCon_ok fun ⟨a, b⟩ hpre => c70_pc a b
/-- loop.example/g03007/laws.szMarkS -/
noncomputable def c55 : Con := mkCon 55 false (α := (List TMark) × Int) (fun x => (fun (l : List TMark) (left : Int) => [encLTMark l, dI left]) x.1 x.2) (fun _ => []) (fun x => (fun (l : List TMark) (left : Int) => l.length ≤ maxLen ∧ 0 ≤ left ∧ left ≤ 1099511627776) x.1 x.2) (fun x => (fun (l : List TMark) (left : Int) => (dI (if left - l.length < 0 then -1 else left - l.length) : D)) x.1 x.2) (fun x => (fun (l : List TMark) (left : Int) => []) x.1 x.2)
@[simp] theorem c55_f : c55.f = 55 := rfl
@[simp] theorem c55_own : c55.own = false := rfl
theorem c55_inj : ∀ u_ v_ : (List TMark) × Int, ((fun x => (fun (l : List TMark) (left : Int) => [encLTMark l, dI left]) x.1 x.2) u_).map nz = ((fun x => (fun (l : List TMark) (left : Int) => [encLTMark l, dI left]) x.1 x.2) v_).map nz → u_ = v_ := by
  intro u_ v_ h
  obtain ⟨l, left⟩ := u_
  obtain ⟨l', left'⟩ := v_
  simp [nz_lit, nz1_lit, nz_agg, nz_sl, nz1_sl, encLTMark] at h
  first | (simp [h]; done) | (obtain ⟨⟩ := h; simp_all; done) | simp_all
@[simp] theorem c55_fn (l : List TMark) (left : Int) : c55.fn [.sl false 2 yTMark (ML encTMark l), .lit (.int .i64 left)] [] = some ((fun (l : List TMark) (left : Int) => l.length ≤ maxLen ∧ 0 ≤ left ∧ left ≤ 1099511627776) l left, (fun (l : List TMark) (left : Int) => (dI (if left - l.length < 0 then -1 else left - l.length) : D)) l left, (fun (l : List TMark) (left : Int) => []) l left) :=
  mkCon_fn (fun x y h _ => c55_inj x y h) ((l, left) : (List TMark) × Int) (by simp [nz, nz1, ML_nil, encLTMark]) rfl
@[simp] theorem c55_fn1 (s_l : Nat) (z_l : D) (left : Int) : c55.fn [.sl false s_l z_l [], .lit (.int .i64 left)] [] = some ((fun (l : List TMark) (left : Int) => l.length ≤ maxLen ∧ 0 ≤ left ∧ left ≤ 1099511627776) [] left, (fun (l : List TMark) (left : Int) => (dI (if left - l.length < 0 then -1 else left - l.length) : D)) [] left, (fun (l : List TMark) (left : Int) => []) [] left) :=
  mkCon_fn (fun x y h _ => c55_inj x y h) (([], left) : (List TMark) × Int) (by simp [nz, nz1, ML_nil, encLTMark]) rfl
theorem c55_pc (l : List TMark) (left : Int) (hpre : l.length ≤ maxLen ∧ 0 ≤ left ∧ left ≤ 1099511627776) : PCo Try.prog 55 [encLTMark l, dI left] (Tab.of []) (dI (if left - l.length < 0 then -1 else left - l.length)) (Tab.of []) := by
  refine pco_of_run [] (E := ⟨[], [], []⟩) (m := false) (base := 0) Env.ok_nil G_ok mix 300 6 Try.func55 (by kernel_rfl) rfl (by kernel_rfl) (by kernel_rfl) rfl ?_
  simp [Try.f55]
  simp [maxLen] at hpre
  all_goals omega
theorem c55_ok : c55.ok Try.prog := mkCon_ok fun ⟨l, left⟩ hpre => c55_pc l left hpre
/-- loop.example/g03007/laws.toMarkS -/
noncomputable def c58 : Con := mkCon 58 false (α := (List TMark)) (fun x => (fun (l : List TMark) => [encLTMark l]) x) (fun _ => []) (fun x => (fun (l : List TMark) => l.length ≤ 1099511627776) x) (fun x => (fun (l : List TMark) => (encLTMark l : D)) x) (fun x => (fun (l : List TMark) => []) x)
@[simp] theorem c58_f : c58.f = 58 := rfl
@[simp] theorem c58_own : c58.own = false := rfl
theorem c58_inj : ∀ u_ v_ : (List TMark), ((fun x => (fun (l : List TMark) => [encLTMark l]) x) u_).map nz = ((fun x => (fun (l : List TMark) => [encLTMark l]) x) v_).map nz → u_ = v_ := by
  intro u_ v_ h
  obtain l := u_
  obtain l' := v_
  simp [nz_lit, nz1_lit, nz_agg, nz_sl, nz1_sl, encLTMark] at h
  first | (simp [h]; done) | (obtain ⟨⟩ := h; simp_all; done) | simp_all
@[simp] theorem c58_fn (l : List TMark) : c58.fn [.sl false 2 yTMark (ML encTMark l)] [] = some ((fun (l : List TMark) => l.length ≤ 1099511627776) l, (fun (l : List TMark) => (encLTMark l : D)) l, (fun (l : List TMark) => []) l) :=
  mkCon_fn (fun x y h _ => c58_inj x y h) (l : (List TMark)) (by simp [nz, nz1, ML_nil, encLTMark]) rfl
@[simp] theorem c58_fn1 (s_l : Nat) (z_l : D) : c58.fn [.sl false s_l z_l []] [] = some ((fun (l : List TMark) => l.length ≤ 1099511627776) [], (fun (l : List TMark) => (encLTMark l : D)) [], (fun (l : List TMark) => []) []) :=
  mkCon_fn (fun x y h _ => c58_inj x y h) ([] : (List TMark)) (by simp [nz, nz1, ML_nil, encLTMark]) rfl
theorem c58_pc (l : List TMark) (hpre : l.length ≤ 1099511627776) : PCo Try.prog 58 [encLTMark l] (Tab.of []) (encLTMark l) (Tab.of []) := by
  refine pco_of_run [] (E := ⟨[c65], [], []⟩) (m := false) (base := 0) (Env.ok_cons c65_ok Env.ok_nil) G_ok mix 300 6 Try.func58 (by kernel_rfl) rfl (by kernel_rfl) (by kernel_rfl) rfl ?_
  simp [Try.f58]
  refine ⟨by omega, ?_⟩
  refine loop_inv (fun p : Nat => p ≤ l.length) (fun p => [(0, encLTMark l), (3, .own (0, 1) 2 0 l.length), (4, dI p)]) (fun p => [((0, 1), .arr false 2 yTMark (ML encTMark (l.take p ++ List.replicate (l.length - p) ⟨0, 0⟩)))]) 2 (fun p => l.length - p) 0 100 (by simp) (by simp) (by first | (simp; done) | (simp; simp only [ML, List.map_replicate]; rfl)) ?_
  intro p hp
  simp
  refine ⟨fun hlt => ⟨by omega, by omega, Again.mk (p + 1) (by omega) (by simp [fill_step hlt]) (by first | omega | (simp; omega))⟩, fun hge => ?_⟩
  have : p = l.length := by omega
  subst this
  simp
theorem c58_ok : c58.ok Try.prog := mkCon_ok fun l hpre => c58_pc l hpre
/-- loop.example/g03007/laws.eqMarkS -/
noncomputable def c64 : Con := mkCon 64 false (α := (List TMark) × (List TMark)) (fun x => (fun (a : List TMark) (b : List TMark) => [encLTMark a, encLTMark b]) x.1 x.2) (fun _ => []) (fun x => (fun (a : List TMark) (b : List TMark) => a.length ≤ 1099511627776 ∧ b.length ≤ 1099511627776) x.1 x.2) (fun x => (fun (a : List TMark) (b : List TMark) => (dB (decide (a = b)) : D)) x.1 x.2) (fun x => (fun (a : List TMark) (b : List TMark) => []) x.1 x.2)
@[simp] theorem c64_f : c64.f = 64 := rfl
@[simp] theorem c64_own : c64.own = false := rfl
theorem c64_inj : ∀ u_ v_ : (List TMark) × (List TMark), ((fun x => (fun (a : List TMark) (b : List TMark) => [encLTMark a, encLTMark b]) x.1 x.2) u_).map nz = ((fun x => (fun (a : List TMark) (b : List TMark) => [encLTMark a, encLTMark b]) x.1 x.2) v_).map nz → u_ = v_ := by
  intro u_ v_ h
  obtain ⟨a, b⟩ := u_
  obtain ⟨a', b'⟩ := v_
  simp [nz_lit, nz1_lit, nz_agg, nz_sl, nz1_sl, encLTMark] at h
  first | (simp [h]; done) | (obtain ⟨⟩ := h; simp_all; done) | simp_all
@[simp] theorem c64_fn (a : List TMark) (b : List TMark) : c64.fn [.sl false 2 yTMark (ML encTMark a), .sl false 2 yTMark (ML encTMark b)] [] = some ((fun (a : List TMark) (b : List TMark) => a.length ≤ 1099511627776 ∧ b.length ≤ 1099511627776) a b, (fun (a : List TMark) (b : List TMark) => (dB (decide (a = b)) : D)) a b, (fun (a : List TMark) (b : List TMark) => []) a b) :=
  mkCon_fn (fun x y h _ => c64_inj x y h) ((a, b) : (List TMark) × (List TMark)) (by simp [nz, nz1, ML_nil, encLTMark]) rfl
@[simp] theorem c64_fn1 (s_a : Nat) (z_a : D) (b : List TMark) : c64.fn [.sl false s_a z_a [], .sl false 2 yTMark (ML encTMark b)] [] = some ((fun (a : List TMark) (b : List TMark) => a.length ≤ 1099511627776 ∧ b.length ≤ 1099511627776) [] b, (fun (a : List TMark) (b : List TMark) => (dB (decide (a = b)) : D)) [] b, (fun (a : List TMark) (b : List TMark) => []) [] b) :=
  mkCon_fn (fun x y h _ => c64_inj x y h) (([], b) : (List TMark) × (List TMark)) (by simp [nz, nz1, ML_nil, encLTMark]) rfl
@[simp] theorem c64_fn2 (a : List TMark) (s_b : Nat) (z_b : D) : c64.fn [.sl false 2 yTMark (ML encTMark a), .sl false s_b z_b []] [] = some ((fun (a : List TMark) (b : List TMark) => a.length ≤ 1099511627776 ∧ b.length ≤ 1099511627776) a [], (fun (a : List TMark) (b : List TMark) => (dB (decide (a = b)) : D)) a [], (fun (a : List TMark) (b : List TMark) => []) a []) :=
  mkCon_fn (fun x y h _ => c64_inj x y h) ((a, []) : (List TMark) × (List TMark)) (by simp [nz, nz1, ML_nil, encLTMark]) rfl
@[simp] theorem c64_fn3 (s_a : Nat) (z_a : D) (s_b : Nat) (z_b : D) : c64.fn [.sl false s_a z_a [], .sl false s_b z_b []] [] = some ((fun (a : List TMark) (b : List TMark) => a.length ≤ 1099511627776 ∧ b.length ≤ 1099511627776) [] [], (fun (a : List TMark) (b : List TMark) => (dB (decide (a = b)) : D)) [] [], (fun (a : List TMark) (b : List TMark) => []) [] []) :=
  mkCon_fn (fun x y h _ => c64_inj x y h) (([], []) : (List TMark) × (List TMark)) (by simp [nz, nz1, ML_nil, encLTMark]) rfl
theorem c64_pc (a : List TMark) (b : List TMark) (hpre : a.length ≤ 1099511627776 ∧ b.length ≤ 1099511627776) : PCo Try.prog 64 [encLTMark a, encLTMark b] (Tab.of []) (dB (decide (a = b))) (Tab.of []) := by
  refine pco_of_run [] (E := ⟨[c70], [], []⟩) (m := false) (base := 0) (Env.ok_cons c70_ok Env.ok_nil) G_ok mix 300 6 Try.func64 (by kernel_rfl) rfl (by kernel_rfl) (by kernel_rfl) rfl ?_
  simp [Try.f64]
  obtain ⟨pre1, pre2⟩ := hpre
  refine ⟨fun h => ?_, fun h => by intro e; subst e; exact absurd rfl h⟩
  refine loop_inv (fun p : Nat => p ≤ a.length ∧ a.take p = b.take p) (fun p => [(0, encLTMark a), (1, encLTMark b), (5, dI p)]) (fun _ => []) 1 (fun p => a.length - p) 0 100 (by simp) (by simp) (by simp) ?_
  intro p ⟨hp, hi⟩
  simp
  refine ⟨fun hlt => ⟨by omega, fun h2 => ⟨by omega, Again.mk (p + 1) ⟨by omega, take_eq_step hi (by omega) (by omega) h2⟩ (by simp) (by first | omega | (simp; omega))⟩, fun h2 => by intro e; subst e; exact absurd rfl h2⟩, fun hge => ?_⟩
  exact take_eq_full hi (by omega) (by omega)
theorem c64_ok : c64.ok Try.prog := mkCon_ok fun ⟨a, b⟩ hpre => c64_pc a b hpre
def mIsMark (m : TMark) : Bool := mIn m.Question 1 20 && mIn m.Answer 0 99
@[simp] def nMark (m : TMark) : Int := m.Question
def mAreMarks (l : List TMark) : Bool := decide (l.length ≤ 8) && ascBy mIsMark nMark none l
/-- what the marks' text is sealed of -/
def sealL (salt : Int) : List TMark → List Int
  | [] => [salt]
  | l => salt :: l.flatMap fun m => [m.Question, m.Answer]
def mSealL (salt : Int) (l : List TMark) : List Int := salt :: l.flatMap fun m => [m.Question, m.Answer]
theorem mSealL_at {salt : Int} {l : List TMark} {p : Nat} (h : p < l.length) : mSealL salt (l.take (p + 1)) = mSealL salt (l.take p) ++ [(l[p]?.getD default).Question, (l[p]?.getD default).Answer] := by
  rw [take_at (d := default) h]; simp [mSealL]
theorem mSealL_len (salt : Int) : ∀ (l : List TMark), (mSealL salt l).length = 2 * l.length + 1
  | [] => rfl
  | x :: l => by have := mSealL_len salt l; simp [mSealL] at this ⊢; omega
def mSeal (l : List TMark) (salt : Int) : Int := mHash (mSealL salt l)
def mOpens (l : List TMark) (salt s : Int) : Bool := mAreMarks l && decide (mSeal l salt = s)
def lookQ (q : Int) : List TMark → Int
  | [] => -1
  | x :: r => if x.Question = q then x.Answer else lookQ q r
theorem lookQ_at {q : Int} {l : List TMark} {p : Nat} (h : p < l.length) : lookQ q (l.drop p) = if (l[p]?.getD default).Question = q then (l[p]?.getD default).Answer else lookQ q (l.drop (p + 1)) := by
  rw [drop_at (d := default) h, lookQ]
theorem lookQ_end {q : Int} {l : List TMark} {p : Nat} (h : l.length ≤ p) : lookQ q (l.drop p) = -1 := by
  rw [List.drop_eq_nil_of_le h, lookQ]
def hInts (l : List Int) : Int := mHash l
def mQuestion (l : List TMark) (claim n : Int) : Int := if decide (l.length = 0) || !mAreMarks l || !mIn n 0 1000 then 0 else (l[((mHash [claim] + n) % l.length).toNat]?.getD default).Question
theorem question_nil {l : List TMark} {c n : Int} (h : (l = [] ∨ mAreMarks l = false) ∨ mIn n 0 1000 = false) : 0 = mQuestion l c n := by
  simp only [mQuestion]
  rw [if_pos]
  rcases h with (h | h) | h <;> simp [h]
theorem question_of {l : List TMark} {c n : Int} (h1 : ¬ l = []) (h2 : mAreMarks l = true) (h3 : mIn n 0 1000 = true) : mQuestion l c n = (l[((mHash [c] + n) % l.length).toNat]?.getD default).Question := by
  simp only [mQuestion]
  rw [if_neg (by simp [h1, h2, h3])]
def ksQ (l : List TMark) : List Int := l.foldl (fun ks m => insI ks m.Question) []
theorem insI_iff {ks : List Int} {v k : Int} : k ∈ insI ks v ↔ k ∈ ks ∨ k = v := by
  simp only [insI]; split
  · rename_i h; constructor
    · exact .inl
    · rintro (h' | rfl)
      · exact h'
      · exact h
  · simp
theorem ksQ_fold {k : Int} : ∀ (l : List TMark) (ks : List Int), k ∈ l.foldl (fun ks m => insI ks m.Question) ks ↔ k ∈ ks ∨ ∃ m ∈ l, m.Question = k
  | [], ks => by simp
  | x :: l, ks => by
    rw [List.foldl_cons, ksQ_fold l, insI_iff]
    simp only [List.mem_cons]
    constructor
    · rintro ((h | h) | ⟨m, h1, h2⟩)
      · exact .inl h
      · exact .inr ⟨x, .inl rfl, h.symm⟩
      · exact .inr ⟨m, .inr h1, h2⟩
    · rintro (h | ⟨m, (rfl | h1), h2⟩)
      · exact .inl (.inl h)
      · exact .inl (.inr h2.symm)
      · exact .inr ⟨m, h1, h2⟩
theorem ksQ_mem {k : Int} {l : List TMark} : k ∈ ksQ l ↔ ∃ m ∈ l, m.Question = k := by simp [ksQ, ksQ_fold]
theorem ksQ_at {l : List TMark} {p : Nat} (h : p < l.length) : ksQ (l.take (p + 1)) = insI (ksQ (l.take p)) (l[p]?.getD default).Question := by
  simp only [ksQ]; rw [foldl_at (d := default) h]
theorem lookQ_skip {k : Int} : ∀ (l r : List TMark), (¬ ∃ m ∈ l, m.Question = k) → lookQ k (l ++ r) = lookQ k r
  | [], r, _ => rfl
  | x :: l, r, h => by
    have h1 : ¬ x.Question = k := fun e => h ⟨x, by simp, e⟩
    have h2 : ¬ ∃ m ∈ l, m.Question = k := fun ⟨m, hm, e⟩ => h ⟨m, by simp [hm], e⟩
    rw [List.cons_append, lookQ, if_neg h1, lookQ_skip l r h2]
theorem lookQ_none {k : Int} {l : List TMark} (h : k ∉ ksQ l) : lookQ k l = -1 := by
  have := lookQ_skip l [] (fun h' => h (ksQ_mem.2 h'))
  simpa [lookQ] using this
theorem lookQ_new {l : List TMark} {p : Nat} (h : p < l.length) (hn : (l[p]?.getD default).Question ∉ ksQ (l.take p)) : lookQ (l[p]?.getD default).Question l = (l[p]?.getD default).Answer := by
  have h1 := lookQ_skip (k := (l[p]?.getD default).Question) (l.take p) (l.drop p) (fun h' => hn (ksQ_mem.2 h'))
  rw [List.take_append_drop, lookQ_at h, if_pos rfl] at h1
  exact h1
end Go.Proofs.Ytnncheloiiannaa
