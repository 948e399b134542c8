/- Contracts of the functions that the laws run. -/
import Derived.Test.YtpnfkjbnhholfaaEngB
import Derived.Test.YtpnfkjbnhholfaaEngB
import Derived.Test.Ytpnfkjbnhholfaadr12
import Derived.Test.Ytpnfkjbnhholfaalawx
import Derived.Test.YtpnfkjbnhholfaaEngB
namespace Go.Proofs.Ytpnfkjbnhholfaa
open Go Go.Eng
set_option linter.unusedSimpArgs false
set_option linter.unusedVariables false
set_option maxRecDepth 10000
set_option maxHeartbeats 1000000
theorem give_no {l : List TMark} {x : TTrial} (h : mNextQ l x = 0) (a : Int) : mGive l x a = x := by rw [mGive, if_pos h]
theorem nextQ_of {l : List TMark} {x : TTrial} (h : ¬ mNextQ l x = 0) : mTrialState l x = 0 ∧ mQuestion l x.Claim x.Asked ≠ 0 := by
  by_cases h2 : mTrialState l x = 0
  · exact ⟨h2, by simpa [mNextQ, h2] using h⟩
  · exact absurd (by simp [mNextQ, h2]) h
theorem quest_of {l : List TMark} {c n : Int} (h : mQuestion l c n ≠ 0) : ¬ l = [] ∧ mAreMarks l = true ∧ mIn n 0 1000 = true := by
  refine ⟨fun e => h (question_nil (.inl (.inl e))).symm, ?_, ?_⟩
  · cases e : mAreMarks l with
    | true => rfl
    | false => exact absurd (question_nil (.inl (.inr e))).symm h
  · cases e : mIn n 0 1000 with
    | true => rfl
    | false => exact absurd (question_nil (.inr e)).symm h
theorem quest_pos {l : List TMark} {c n : Int} (h1 : ¬ l = []) (h2 : mAreMarks l = true) (h3 : mIn n 0 1000 = true) : mQuestion l c n ≠ 0 := by
  rw [question_of h1 h2 h3]
  have hl : 0 < l.length := List.length_pos_iff.2 h1
  have hm := emod_bd (mHash [c] + n) (show (0 : Int) < l.length by omega)
  simp only [mAreMarks, Bool.and_eq_true] at h2
  have := ascBy_all h2.2 _ (getD_mem (l := l) (p := ((mHash [c] + n) % l.length).toNat) (d := default) (by omega))
  simp [mIsMark, mIn] at this
  omega
theorem give_ok {l : List TMark} {x : TTrial} (h : ¬ mNextQ l x = 0) (a : Int) : mIsTrial (mGive l x a) = true ∧ (mGive l x a).Asked = x.Asked + 1 := by
  obtain ⟨h1, h2⟩ := nextQ_of h
  obtain ⟨h3, h4, h5⟩ := quest_of h2
  have hl : 0 < l.length := List.length_pos_iff.2 h3
  have hx : mIsTrial x = true := by grind [mTrialState]
  have hw : x.Wrong ≤ 1 := by
    by_cases hw : 1 < x.Wrong
    · rw [mTrialState, if_pos (.inr (.inr hw))] at h1; omega
    · omega
  have hr : x.Right < min 3 (l.length : Int) := by
    by_cases hr : min 3 (l.length : Int) ≤ x.Right
    · rw [mTrialState, if_neg (by simp [hx, h4]; omega), if_pos ⟨hl, hr⟩] at h1; omega
    · omega
  simp [mIsTrial, mIn] at hx
  rw [mGive, if_neg h]
  split <;> simp [mIsTrial, mIn] <;> omega
theorem look_bd {l : List TMark} {q : Int} (h : ∀ x ∈ l, mIsMark x = true) : -1 ≤ lookQ q l := by
  induction l with
  | nil => simp [lookQ]
  | cons x r ih =>
    rw [lookQ]; split
    · have := h x (by simp); simp [mIsMark, mIn] at this; omega
    · exact ih fun y hy => h y (by simp [hy])
theorem state_open {l : List TMark} {c : Int} {i : Nat} {w : Int} (hc : mIn c 1 999 = true) (h4 : mAreMarks l = true) (hi : i ≤ 3) (hw : 0 ≤ w ∧ w ≤ 1) (r : Int) (hr : 0 ≤ r ∧ r + w = i ∧ r < min 3 (l.length : Int)) : mTrialState l ⟨c, i, r, w⟩ = 0 := by
  have ht : mIsTrial ⟨c, i, r, w⟩ = true := by simp only [mIsTrial, hc]; simp [mIn]; omega
  rw [mTrialState, if_neg (by simp [ht, h4]; omega), if_neg (by simp; omega)]
theorem give_step {l : List TMark} (h4 : mAreMarks l = true) {i : Nat} (hi : (i : Int) < min 3 (l.length : Int)) :
    mGive l ⟨7, i, i, 0⟩ (lookQ (mNextQ l ⟨7, i, i, 0⟩) l) = ⟨7, ((i + 1 : Nat) : Int), ((i + 1 : Nat) : Int), 0⟩ := by
  have hl : ¬ l = [] := by intro e; rw [e] at hi; simp at hi; omega
  have h0 := state_open (c := 7) (i := i) (w := 0) (by decide) h4 (by omega) (by omega) i (by omega)
  have hq : ¬ mNextQ l ⟨7, i, i, 0⟩ = 0 := by
    rw [mNextQ, if_pos h0]
    exact quest_pos hl h4 (mIn_iff.2 (by simp; omega))
  rw [mGive, if_neg hq, if_pos rfl]
  simp
theorem give_bad {l : List TMark} (h4 : mAreMarks l = true) (hl0 : 0 < l.length) {i : Nat} (hi2 : i ≤ 1) :
    mGive l ⟨7, i, 0, i⟩ (-5) = ⟨7, ((i + 1 : Nat) : Int), 0, ((i + 1 : Nat) : Int)⟩ := by
  have hl : ¬ l = [] := by intro e; rw [e] at hl0; simp at hl0
  have h0 := state_open (c := 7) (i := i) (w := i) (by decide) h4 (by omega) (by omega) 0 (by omega)
  have hq : ¬ mNextQ l ⟨7, i, 0, i⟩ = 0 := by
    rw [mNextQ, if_pos h0]
    exact quest_pos hl h4 (mIn_iff.2 (by simp; omega))
  have h5 := h4
  simp only [mAreMarks, Bool.and_eq_true] at h5
  have hb := look_bd (q := mNextQ l ⟨7, i, 0, i⟩) (ascBy_all h5.2)
  rw [mGive, if_neg hq, if_neg (by omega)]
  simp
theorem all_bad {l : List TMark} (h4 : mAreMarks l = true) (hl : 0 < l.length) : mGiveAll l ⟨7, 0, 0, 0⟩ [-5, -5, -5] = ⟨7, 2, 0, 2⟩ ∧ mTrialState l ⟨7, 2, 0, 2⟩ = 2 := by
  have e1 := give_bad h4 hl (i := 0) (by omega)
  have e2 := give_bad h4 hl (i := 1) (by omega)
  simp at e1 e2
  have e3 : mTrialState l ⟨7, 2, 0, 2⟩ = 2 := by rw [mTrialState, if_pos (.inr (.inr (by simp)))]
  have e4 := give_no (l := l) (x := ⟨7, 2, 0, 2⟩) (by rw [mNextQ, e3]; rfl) (-5)
  refine ⟨?_, e3⟩
  show mGive l (mGive l (mGive l ⟨7, 0, 0, 0⟩ (-5)) (-5)) (-5) = _
  rw [e1, e2, e4]
theorem state_done {l : List TMark} (h4 : mAreMarks l = true) (hl : 0 < l.length) (n : Int) (hn : n = min 3 (l.length : Int)) : mTrialState l ⟨7, n, n, 0⟩ = 1 := by
  have ht : mIsTrial ⟨7, n, n, 0⟩ = true := by simp [mIsTrial, mIn]; omega
  rw [mTrialState, if_neg (by simp [ht, h4]), if_pos ⟨hl, by simp; omega⟩]
theorem all_mono (l : List TMark) : ∀ (z : List Int) (t : TTrial), t.Right ≤ (mGiveAll l t z).Right ∧ t.Wrong ≤ (mGiveAll l t z).Wrong ∧ t.Asked ≤ (mGiveAll l t z).Asked ∧ (mGiveAll l t z).Asked - t.Asked ≤ z.length := by
  intro z
  induction z with
  | nil => intro t; simp [mGiveAll]
  | cons a z ih =>
    intro t
    have h1 := ih (mGive l t a)
    have e : mGiveAll l t (a :: z) = mGiveAll l (mGive l t a) z := rfl
    have h2 : t.Right ≤ (mGive l t a).Right ∧ t.Wrong ≤ (mGive l t a).Wrong ∧ t.Asked ≤ (mGive l t a).Asked ∧ (mGive l t a).Asked ≤ t.Asked + 1 := by
      simp only [mGive]; (repeat' split) <;> (try simp) <;> omega
    rw [e]
    simp only [List.length_cons]
    push_cast
    omega
@[simp] theorem all_three (l : List TMark) (c k r w a0 a1 a2 : Int) : c29.fn [.sl false 2 yTMark (ML encTMark l), .agg [.lit (.int .i64 c), .lit (.int .i64 k), .lit (.int .i64 r), .lit (.int .i64 w)], .sl false 1 (.lit (.int .i64 0)) [.lit (.int .i64 a0), .lit (.int .i64 a1), .lit (.int .i64 a2)]] [] = some (l.length ≤ 1073741823 ∧ ([a0, a1, a2] : List Int).length ≤ 1099511627776, encTTrial (mGiveAll l ⟨c, k, r, w⟩ [a0, a1, a2]), []) := c29_fn l c k r w [a0, a1, a2]

end Go.Proofs.Ytpnfkjbnhholfaa
