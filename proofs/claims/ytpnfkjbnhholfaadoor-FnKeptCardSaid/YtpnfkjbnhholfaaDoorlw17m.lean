/- Contracts of the functions that the laws run. -/
import Derived.Test.YtpnfkjbnhholfaaDoorEngB
import Derived.Test.YtpnfkjbnhholfaaDoorEngB
import Derived.Test.YtpnfkjbnhholfaaDoorEngB
import Derived.Test.YtpnfkjbnhholfaaDoordr17
import Derived.Test.YtpnfkjbnhholfaaDoorlawx
import Derived.Test.YtpnfkjbnhholfaaDoorch17d
import Derived.Test.YtpnfkjbnhholfaaDoorEngB
namespace Go.Proofs.YtpnfkjbnhholfaaDoor
open Go Go.Eng
set_option linter.unusedSimpArgs false
set_option linter.unusedVariables false
set_option maxRecDepth 10000
set_option maxHeartbeats 1000000
theorem due_iff (f : TFind) : (mIsFind f = true → 0 ≤ mDueHour f) ∧ (mIsFind f = false → mDueHour f = -1) := by
  constructor
  · intro h
    have h1 := find_at h
    have h2 := keep_bd f.Thing.Kind
    rw [mDueHour, if_pos h]; omega
  · intro h; rw [mDueHour, if_neg (by simp [h])]
theorem keep_pos {f : TFind} (h : mIsFind f = true) : 1 ≤ mKeepDays f.Thing.Kind := by
  simp only [mIsFind, mIsThing, Bool.and_eq_true] at h
  have hk : mIn f.Thing.Kind 1 8 = true := by grind
  rw [mKeepDays, if_pos hk]
  split <;> (try split) <;> omega
theorem left_ok {f : TFind} {now : Int} (h : 0 < mDaysLeft f now) : mIsDue now f = false ∧ mDueHour f ≤ now + 24 * mDaysLeft f now ∧ now + 24 * (mDaysLeft f now - 1) < mDueHour f ∧ mDaysLeft f now ≤ 100000 := by
  have hb := due_bd f
  by_cases hc : (mIsFind f && mIn now 0 200000 && !mIsDue now f) = true
  · have e : mDaysLeft f now = mCeilDiv (mDueHour f - now) 24 := by rw [mDaysLeft, if_pos hc]
    simp only [Bool.and_eq_true, Bool.not_eq_true', mIn_iff] at hc
    rw [e] at h ⊢
    refine ⟨hc.2, ?_⟩
    by_cases hi : (mIn (mDueHour f - now) 0 1000000000000 && mIn 24 1 1000000000000) = true
    · have e2 : mCeilDiv (mDueHour f - now) 24 = (mDueHour f - now + 24 - 1).tdiv 24 := by rw [mCeilDiv, if_pos hi]
      simp only [Bool.and_eq_true, mIn_iff] at hi
      rw [e2] at h ⊢
      rw [Int.tdiv_eq_ediv_of_nonneg (by omega)] at h ⊢
      omega
    · have e2 : mCeilDiv (mDueHour f - now) 24 = 0 := by rw [mCeilDiv, if_neg hi]
      omega
  · have e : mDaysLeft f now = 0 := by rw [mDaysLeft, if_neg hc]
    omega
theorem next_fold (now : Int) : ∀ (l : List TFind) (n : Int), (n = -1 ∨ (0 ≤ n ∧ now < n)) → let r := l.foldl (stepDue now) n
    (r = -1 ∨ (0 ≤ r ∧ now < r)) ∧ (0 ≤ n → 0 ≤ r ∧ r ≤ n) ∧ ∀ x ∈ l, now < mDueHour x → 0 ≤ mDueHour x → 0 ≤ r ∧ r ≤ mDueHour x
  | [], n, h => ⟨h, fun h0 => ⟨h0, Int.le_refl _⟩, fun x hx => by simp at hx⟩
  | y :: l, n, h => by
    simp only [List.foldl_cons]
    have hs : (stepDue now n y = -1 ∨ (0 ≤ stepDue now n y ∧ now < stepDue now n y)) ∧ (0 ≤ n → 0 ≤ stepDue now n y ∧ stepDue now n y ≤ n) ∧ (now < mDueHour y → 0 ≤ mDueHour y → 0 ≤ stepDue now n y ∧ stepDue now n y ≤ mDueHour y) := by
      simp only [stepDue]; split <;> omega
    obtain ⟨i1, i2, i3⟩ := next_fold now l (stepDue now n y) hs.1
    refine ⟨i1, fun h0 => ?_, fun x hx h1 h2 => ?_⟩
    · have a := hs.2.1 h0
      have b := i2 a.1
      omega
    · rcases List.mem_cons.1 hx with rfl | hx
      · have a := hs.2.2 h1 h2
        have b := i2 a.1
        omega
      · exact i3 x hx h1 h2
theorem due_has {l : List TFind} {now : Int} {x : TFind} (ha : mAreFinds l = true) (hx : x ∈ l) (h : mHas (mDueT l now) x.Thing.Id = true) : mIsDue now x = true := by
  simp only [mHas, decide_eq_true_eq, mDueT, List.mem_map, mDueF] at h
  obtain ⟨y, hy, e⟩ := h
  obtain ⟨hy1, hy2⟩ := List.mem_filter.1 hy
  simp only [mAreFinds, Bool.and_eq_true] at ha
  have q1 := (index_uniq ha.2 hx).2.2
  have q2 := (index_uniq ha.2 hy1).2.2
  have e2 : nFind y = nFind x := e
  rw [e2] at q2
  rw [← q1, q2]; exact hy2

end Go.Proofs.YtpnfkjbnhholfaaDoor
