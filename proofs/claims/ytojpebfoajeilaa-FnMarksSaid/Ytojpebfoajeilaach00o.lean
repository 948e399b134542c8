/- Contracts of the functions that the laws run. -/
import Derived.Test.Ytojpebfoajeilaach00n
import Derived.Test.YtojpebfoajeilaaEngB
namespace Go.Proofs.Ytojpebfoajeilaa
open Go Go.Eng
set_option linter.unusedSimpArgs false
set_option linter.unusedVariables false
set_option maxRecDepth 10000
set_option maxHeartbeats 1000000
/-- loop.example/g03007/laws.big -/
noncomputable def c5 : Con := mkCon 5 false (α := (List Int)) (fun x => (fun (l : List Int) => [encLU l]) x) (fun _ => []) (fun x => (fun (l : List Int) => True) x) (fun x => (fun (l : List Int) => (dB (decide (1048576 < l.length)) : D)) x) (fun x => (fun (l : List Int) => []) x)
@[simp] theorem c5_f : c5.f = 5 := rfl
@[simp] theorem c5_own : c5.own = false := rfl
theorem c5_inj : ∀ u_ v_ : (List Int), ((fun x => (fun (l : List Int) => [encLU l]) x) u_).map nz = ((fun x => (fun (l : List Int) => [encLU l]) x) v_).map nz → u_ = v_ := by
  intro u_ v_ h
  obtain l := u_
  obtain l' := v_
  simp [nz_lit, nz1_lit, nz_agg, nz_sl, nz1_sl, encLU] at h
  first | (simp [h]; done) | (obtain ⟨⟩ := h; simp_all; done) | simp_all
@[simp] theorem c5_fn (l : List Int) : c5.fn [.sl false 1 (.lit (.int .u8 0)) (ML dU l)] [] = some ((fun (l : List Int) => True) l, (fun (l : List Int) => (dB (decide (1048576 < l.length)) : D)) l, (fun (l : List Int) => []) l) :=
  mkCon_fn (fun x y h _ => c5_inj x y h) (l : (List Int)) (by simp [nz, nz1, ML_nil, encLU]) rfl
@[simp] theorem c5_fn1 (s_l : Nat) (z_l : D) : c5.fn [.sl false s_l z_l []] [] = some ((fun (l : List Int) => True) [], (fun (l : List Int) => (dB (decide (1048576 < l.length)) : D)) [], (fun (l : List Int) => []) []) :=
  mkCon_fn (fun x y h _ => c5_inj x y h) ([] : (List Int)) (by simp [nz, nz1, ML_nil, encLU]) rfl
theorem c5_pc (l : List Int) : PCo Try.prog 5 [encLU l] (Tab.of []) (dB (decide (1048576 < l.length))) (Tab.of []) := by
  refine pco_of_run [] (E := ⟨[], [], []⟩) (m := false) (base := 0) Env.ok_nil G_ok mix 300 6 Try.func5 (by kernel_rfl) rfl (by kernel_rfl) (by kernel_rfl) rfl ?_
  simp [Try.f5]
  all_goals first | omega | (rw [Bool.eq_iff_iff]; simp; omega) | grind
theorem c5_ok : c5.ok Try.prog := mkCon_ok fun l hpre => c5_pc l
theorem ascBy_pw {α : Type} {ok : α → Bool} {num : α → Int} : ∀ {l : List α} {o : Option Int}, ascBy ok num o l = true → (∀ q, o = some q → ∀ x ∈ l, q < num x) ∧ l.Pairwise (fun a b => num a < num b)
  | [], _, _ => ⟨by simp, .nil⟩
  | x :: r, o, h => by
    simp only [ascBy, Bool.and_eq_true] at h
    obtain ⟨i1, i2⟩ := ascBy_pw h.2
    have hx := i1 _ rfl
    refine ⟨fun q hq y hy => ?_, List.pairwise_cons.2 ⟨hx, i2⟩⟩
    subst hq
    have h1 := of_decide_eq_true h.1.2
    rcases List.mem_cons.1 hy with rfl | hy
    · exact h1
    · have := hx y hy; omega
theorem ascBy_all {α : Type} {ok : α → Bool} {num : α → Int} : ∀ {l : List α} {o : Option Int}, ascBy ok num o l = true → ∀ x ∈ l, ok x = true
  | [], _, _, x, hx => by simp at hx
  | y :: r, o, h, x, hx => by
    simp only [ascBy, Bool.and_eq_true] at h
    rcases List.mem_cons.1 hx with rfl | hx
    · exact h.1.1
    · exact ascBy_all h.2 x hx
theorem marks_ok {l : List TMark} (h : mAreMarks l = true) : ∀ x ∈ l, 1 ≤ x.Question ∧ x.Question ≤ 20 ∧ 0 ≤ x.Answer := by
  simp only [mAreMarks, Bool.and_eq_true] at h
  intro x hx
  have := ascBy_all h.2 x hx
  simp only [mIsMark, Bool.and_eq_true, mIn_iff] at this
  omega
theorem marks_inj {l : List TMark} (h : mAreMarks l = true) {i j : Nat} (hi : i < l.length) (hj : j < l.length) (e : (l[i]?.getD default).Question = (l[j]?.getD default).Question) : i = j := by
  simp only [mAreMarks, Bool.and_eq_true] at h
  have h1 := List.pairwise_iff_getElem.1 (ascBy_pw h.2).2
  rw [List.getElem?_eq_getElem hi, List.getElem?_eq_getElem hj] at e
  simp only [Option.getD_some] at e
  rcases Nat.lt_trichotomy i j with h2 | h2 | h2
  · have := h1 i j hi hj h2; simp only [nMark] at this; omega
  · exact h2
  · have := h1 j i hj hi h2; simp only [nMark] at this; omega
theorem lookQ_mem : ∀ {l : List TMark} {m : TMark}, l.Pairwise (fun a b => nMark a < nMark b) → m ∈ l → lookQ m.Question l = m.Answer
  | [], m, _, hm => by simp at hm
  | x :: r, m, hp, hm => by
    have h1 := List.pairwise_cons.1 hp
    rcases List.mem_cons.1 hm with rfl | hm
    · simp [lookQ]
    · have := h1.1 m hm
      simp only [nMark] at this
      rw [lookQ, if_neg (by omega)]
      exact lookQ_mem h1.2 hm
theorem look_ok {l : List TMark} (h : mAreMarks l = true) {m : TMark} (hm : m ∈ l) : lookQ m.Question l = m.Answer := by
  have h' := h
  simp only [mAreMarks, Bool.and_eq_true] at h'
  exact lookQ_mem (ascBy_pw h'.2).2 hm
/-- the index whose question is asked -/
def kAt (h : Int) (n p : Nat) : Nat := (((p : Int) - h) % n).toNat
theorem kAt_iff {h : Int} {n p k : Nat} (hp : p < n) (hk : k < n) : ((h + k) % (n : Int)).toNat = p ↔ k = kAt h n p := by
  have b1 := emod_bd (h + k) (show (0 : Int) < n by omega)
  have b2 := emod_bd ((p : Int) - h) (show (0 : Int) < n by omega)
  have ek : (k : Int) % n = k := Int.emod_eq_of_lt (by omega) (by omega)
  have ep : (p : Int) % n = p := Int.emod_eq_of_lt (by omega) (by omega)
  simp only [kAt]
  constructor
  · intro e
    have e2 : (h + k) % (n : Int) = p := by omega
    have e3 : ((p : Int) - h) % n = k := by
      rw [← e2, Int.emod_sub_emod, show h + (k : Int) - h = k by omega, ek]
    omega
  · intro e
    have e2 : (k : Int) = ((p : Int) - h) % n := by omega
    have e3 : (h + k) % (n : Int) = p := by
      rw [e2, Int.add_comm, Int.emod_add_emod, show (p : Int) - h + h = p by omega, ep]
    omega
theorem kAt_lt {h : Int} {n p : Nat} (hn : 0 < n) : kAt h n p < n := by
  have b2 := emod_bd ((p : Int) - h) (show (0 : Int) < n by omega)
  simp only [kAt]; omega
theorem quest_iff {l : List TMark} {c : Int} {p k : Nat} (hA : mAreMarks l = true) (hl : l.length ≤ 6) (hp : p < l.length) (hk : k < l.length) : mQuestion l c k = (l[p]?.getD default).Question ↔ k = kAt (mHash [c]) l.length p := by
  have hne : ¬ l = [] := by intro e; rw [e] at hp; simp at hp
  rw [question_of hne hA (mIn_iff.2 (by omega)), ← kAt_iff hp hk]
  have b1 := emod_bd (mHash [c] + k) (show (0 : Int) < l.length by omega)
  constructor
  · intro e; exact marks_inj hA (by omega) hp e
  · intro e; rw [e]
theorem put_mem (l : List TMark) (m : TMark) : m ∈ putBy nMark m l := by simp [putBy]
theorem quest_mem {x : List TMark} {s n : Int} (h1 : ¬ x = []) (h2 : mAreMarks x = true) (h3 : mIn n 0 1000 = true) : ∃ y ∈ x, mQuestion x s n = y.Question := by
  rw [question_of h1 h2 h3]
  have hl : 0 < x.length := List.length_pos_iff.2 h1
  have b1 := emod_bd (mHash [s] + n) (show (0 : Int) < x.length by omega)
  exact ⟨_, getD_mem (d := default) (by omega), rfl⟩
theorem quest_ne (x : List TMark) (s n : Int) : (mQuestion x s n != 0) = (decide (0 < x.length) && mAreMarks x && decide (0 ≤ n) && decide (n ≤ 1000)) := by
  by_cases hv : ¬ x = [] ∧ mAreMarks x = true ∧ mIn n 0 1000 = true
  · obtain ⟨h1, h2, h3⟩ := hv
    obtain ⟨y, hy, e⟩ := quest_mem (s := s) h1 h2 h3
    have h4 := marks_ok h2 y hy
    have h5 := mIn_iff.1 h3
    have hl : 0 < x.length := List.length_pos_iff.2 h1
    have hq : mQuestion x s n ≠ 0 := by omega
    rw [decide_eq_true hl, h2, decide_eq_true h5.1, decide_eq_true h5.2]
    simpa using hq
  · have h0 : mQuestion x s n = 0 := (question_nil (by
      by_cases h1 : x = []
      · exact .inl (.inl h1)
      · cases h2 : mAreMarks x with
        | false => exact .inl (.inr rfl)
        | true =>
          cases h3 : mIn n 0 1000 with
          | false => exact .inr rfl
          | true => exact absurd ⟨h1, h2, h3⟩ hv)).symm
    rw [h0]
    symm
    rw [show ((0 : Int) != 0) = false from rfl]
    cases h2 : mAreMarks x with
    | false => simp
    | true =>
      have : ¬ (0 < x.length ∧ 0 ≤ n ∧ n ≤ 1000) := fun h => hv ⟨List.length_pos_iff.1 h.1, h2, mIn_iff.2 h.2⟩
      rw [Bool.eq_false_iff]
      intro hh
      simp only [Bool.and_eq_true, decide_eq_true_eq, Bool.and_true] at hh
      exact this ⟨hh.1.1, hh.1.2, hh.2⟩
theorem quest_look {x : List TMark} {s n : Int} (h : ¬ mQuestion x s n = 0) : 0 ≤ lookQ (mQuestion x s n) x := by
  have h0 := quest_ne x s n
  rw [show (mQuestion x s n != 0) = true by simpa using h] at h0
  have h1 := h0.symm
  simp only [Bool.and_eq_true, decide_eq_true_eq] at h1
  obtain ⟨y, hy, e⟩ := quest_mem (s := s) (List.length_pos_iff.1 h1.1.1.1) h1.1.1.2 (mIn_iff.2 ⟨h1.1.2, h1.2⟩)
  rw [e, look_ok h1.1.1.2 hy]
  exact (marks_ok h1.1.1.2 y hy).2.2
def cntK (h : Int) (n p k : Nat) : Int := if kAt h n p < k then 1 else 0
/-- loop.example/g03007/laws.FnMarks -/
theorem law4 (l : List Int) (wl : wfLU l) : PCo Try.prog 4 [encLU l] (Tab.of []) (dB true) (Tab.of []) := by
  refine pco_of_run [17, 5023, 4000019, 4000022] (E := ⟨[c5, c16, c17, c18, c19, c20, c21, c22, c23, c24], [], []⟩) (m := false) (base := 0) (Env.ok_cons c5_ok (Env.ok_cons c16_ok (Env.ok_cons c17_ok (Env.ok_cons c18_ok (Env.ok_cons c19_ok (Env.ok_cons c20_ok (Env.ok_cons c21_ok (Env.ok_cons c22_ok (Env.ok_cons c23_ok (Env.ok_cons c24_ok Env.ok_nil)))))))))) G_ok mix 400 6 Try.func4 (by kernel_rfl) rfl (by kernel_rfl) (by kernel_rfl) rfl ?_
  have hl : l.length ≤ maxLen := wl.1
  by_cases hbig : 1048576 < l.length
  · simp [Try.f4, hbig]
  · have hp : l.length ≤ 2097152 := by omega
    obtain ⟨L, S, Q, M, h1, h2, h3, h4⟩ := exDM11
    have h1 := h1 l; have h2 := h2 l; have h3 := h3 l; have h4 := h4 l hp
    generalize L l = x at *
    generalize S l = s at *
    generalize Q l = n at *
    generalize M l = m at *
    have f1 : mOpens x s (mSeal x s) = mAreMarks x := by simp [mOpens]
    simp (config := {maxSteps := 3000000}) [Try.f4, hbig, h1, h2, h3, -c16_fn, -c20_fn, -c23_fn, f1]
    refine ⟨hp, ⟨by omega, by omega⟩, hp, by omega, ⟨fun _ => by omega, fun _ _ => by omega⟩, ⟨quest_ne x s n, quest_look⟩, fun _ _ => ?_⟩
    have hz := putBy_len nMark m x
    have hpm := mPutMark_len x m
    have f2 : (mAreMarks (putBy nMark m x) = true ∧ mAreMarks (mPutMark x m) = true) ∧ lookQ m.Question (mPutMark x m) = m.Answer ∨ mAreMarks (putBy nMark m x) = false ∧ ((mPutMark x m).length : Int) = x.length := by
      cases h : mAreMarks (putBy nMark m x) with
      | true => rw [mPutMark_yes h]; exact .inl ⟨⟨rfl, h⟩, look_ok h (put_mem x m)⟩
      | false => rw [mPutMark_no h]; exact .inr ⟨rfl, rfl⟩
    cases hA : mAreMarks x with
    | false =>
      refine loop_unroll 400 ?_
      simp (config := {maxSteps := 3000000}) [hA, h3, -c23_fn]
      exact ⟨fun _ => by omega, by omega, hp, by omega, ⟨fun _ => by omega, fun _ _ => by omega⟩, f2⟩
    | true =>
      refine loop_inv (fun p : Nat => p ≤ x.length) (fun p => [(0, encLU l), (5, .sl false 2 yTMark (ML encTMark x)), (6, dI s), (9, dI p), (10, dI p)]) (fun _ => []) 1 (fun p => x.length - p) 0 400 (by simp) (by simp) (by simp) ?_
      intro p hpx
      simp (config := {maxSteps := 3000000}) [hA, h3, -c23_fn]
      refine ⟨fun _ => by omega, fun hlt => ?_, fun hge => ?_⟩
      · have hkl := kAt_lt (h := mHash [s]) (p := p) (show 0 < x.length by omega)
        refine loop_inv (fun k : Nat => k ≤ x.length) (fun k => [(0, encLU l), (5, .sl false 2 yTMark (ML encTMark x)), (6, dI s), (9, dI ((p : Int) + cntK (mHash [s]) x.length p k)), (10, dI p), (11, dI k)]) (fun _ => []) 1 (fun k => x.length - k) 0 400 (by simp) (by simp) (by simp [cntK]) ?_
        intro k hk
        have hc0 : 0 ≤ cntK (mHash [s]) x.length p k ∧ cntK (mHash [s]) x.length p k ≤ 1 := by simp only [cntK]; split <;> omega
        simp
        refine ⟨fun hk2 => ?_, fun hk2 => ?_⟩
        · have hq := quest_iff (c := s) hA h4 hlt hk2
          have hit : mQuestion x s k = (x[p]?.getD default).Question → cntK (mHash [s]) x.length p (k + 1) = cntK (mHash [s]) x.length p k + 1 := fun e => by
            have := hq.1 e
            simp only [cntK]; rw [if_pos (by omega), if_neg (by omega)]; rfl
          have mis : ¬ mQuestion x s k = (x[p]?.getD default).Question → cntK (mHash [s]) x.length p (k + 1) = cntK (mHash [s]) x.length p k := fun e => by
            have h6 : ¬ k = kAt (mHash [s]) x.length p := fun e2 => e (hq.2 e2)
            simp only [cntK]
            by_cases h7 : kAt (mHash [s]) x.length p < k
            · rw [if_pos (by omega), if_pos h7]
            · rw [if_neg (by omega), if_neg h7]
          repeat' (first | omega | assumption | refine And.intro ?_ ?_ | intro _)
          all_goals first
            | (have e := hit (by assumption); exact Again.mk (k + 1) (by omega) (by simp [e]; try omega) (by first | omega | (simp; omega)))
            | (have e := mis (by assumption); exact Again.mk (k + 1) (by omega) (by simp [e]) (by first | omega | (simp; omega)))
            | trace_state
        · have hke : k = x.length := by omega
          have e : cntK (mHash [s]) x.length p k = 1 := by simp only [cntK]; rw [if_pos (by omega)]
          repeat' (first | omega | assumption | refine And.intro ?_ ?_ | intro _)
          all_goals first | exact Again.mk (p + 1) (by omega) (by simp [e]) (by first | omega | (simp; omega)) | trace_state
      · have hpe : p = x.length := by omega
        subst hpe
        first
          | (simp; exact ⟨by omega, hp, by omega, ⟨fun _ => by omega, fun _ _ => by omega⟩, f2⟩)
          | (repeat' (first | omega | exact f2 | assumption | refine And.intro ?_ ?_ | intro _))
          | trace_state
theorem law4_pc (D0 : D) (h0 : Sh G 9 22 D0) : PC Try.prog 4 [D0] (dB true) [] := by
  obtain ⟨l, rfl, wl⟩ := sh22 (n := 7) h0
  exact law4 l wl

end Go.Proofs.Ytojpebfoajeilaa
