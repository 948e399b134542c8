/- Contracts of the functions that the laws run. -/
import Derived.Test.YtpnfkjbnhholfaaDoorEngB
import Derived.Test.YtpnfkjbnhholfaaDoorEngB
import Derived.Test.YtpnfkjbnhholfaaDoorEngB
import Derived.Test.YtpnfkjbnhholfaaDoordr18
import Derived.Test.YtpnfkjbnhholfaaDoorlawx
import Derived.Test.YtpnfkjbnhholfaaDoorch18g
import Derived.Test.YtpnfkjbnhholfaaDoorch18
import Derived.Test.YtpnfkjbnhholfaaDoorEngB
namespace Go.Proofs.YtpnfkjbnhholfaaDoor
open Go Go.Eng
set_option linter.unusedSimpArgs false
set_option linter.unusedVariables false
set_option maxRecDepth 10000
set_option maxHeartbeats 1000000
theorem fate_facts (l : List TClaim) (now : Int) (f : TFind) : (0 ≤ mFateOf l now f ∧ mFateOf l now f ≤ 5) ∧ (mFateOf l now f = 1 ↔ ¬ mFirst l f.Thing.Id = 0) ∧ (2 ≤ mFateOf l now f → mIsDue now f = true ∧ ∀ x ∈ l, x.Thing = f.Thing.Id → ¬ x.State = 0) ∧ (mFateOf l now f = 2 → ¬ f.Finder = 0) ∧ (mFateOf l now f = 3 → 5000 < f.Thing.Worth) := by
  have hk : keptC l now f = false → mIsDue now f = true ∧ ∀ x ∈ l, x.Thing = f.Thing.Id → ¬ x.State = 0 := fun h => by
    simp only [keptC, open_eq, Bool.or_eq_false_iff, Bool.not_eq_false'] at h
    refine ⟨h.1, fun x hx ht hs => ?_⟩
    have h2 := h.2
    rw [anyOpen, List.any_eq_false] at h2
    exact h2 x hx (by simp [ht, stateIs, hs])
  refine ⟨fate_bd l now f, ?_⟩
  rcases fate_cases l now f with ⟨h1, e⟩ | ⟨h1, h2, e⟩ | ⟨h1, h2, h3, e⟩ | ⟨h1, h2, h3, h4, e⟩ | ⟨h1, h2, h3, h4, h5, e⟩ | ⟨h1, h2, h3, h4, h5, e⟩ <;> rw [e] <;> simp [h1] <;> first | exact hk h2 | exact ⟨hk h2, by omega⟩ | (refine ⟨hk h2, ?_⟩; first | exact h5 | omega) | trace_state
theorem fate_name {v : Int} (h : 0 ≤ v ∧ v ≤ 5) : ¬ mFate v = ⟨#[]⟩ := by
  obtain rfl | rfl | rfl | rfl | rfl | rfl : v = 0 ∨ v = 1 ∨ v = 2 ∨ v = 3 ∨ v = 4 ∨ v = 5 := by omega
  all_goals decide
theorem six_sum : ∀ {l : List Int}, (∀ x ∈ l, 0 ≤ x ∧ x ≤ 5) → l.countP (isN 0) + l.countP (isN 1) + l.countP (isN 2) + l.countP (isN 3) + l.countP (isN 4) + l.countP (isN 5) = l.length
  | [], _ => rfl
  | x :: r, h => by
    have ih := six_sum (l := r) fun y hy => h y (by simp [hy])
    have hx := h x (by simp)
    simp only [List.countP_cons, List.length_cons]
    obtain rfl | rfl | rfl | rfl | rfl | rfl : x = 0 ∨ x = 1 ∨ x = 2 ∨ x = 3 ∨ x = 4 ∨ x = 5 := by omega
    all_goals (simp [isN]; omega)
theorem fates_in (f : List TFind) (l : List TClaim) (now : Int) : ∀ x ∈ mFates f l now, 0 ≤ x ∧ x ≤ 5 := by
  intro x hx
  obtain ⟨y, _, rfl⟩ := List.mem_map.1 hx
  exact fate_bd l now y

end Go.Proofs.YtpnfkjbnhholfaaDoor
