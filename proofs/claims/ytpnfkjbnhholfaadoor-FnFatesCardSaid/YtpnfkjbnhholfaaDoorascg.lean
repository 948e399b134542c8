/- Contracts of the functions that the laws run. -/
import Derived.Test.YtpnfkjbnhholfaaDoorTS
import Derived.Test.YtpnfkjbnhholfaaDoorEngB
namespace Go.Proofs.YtpnfkjbnhholfaaDoor
open Go Go.Eng
set_option linter.unusedSimpArgs false
set_option linter.unusedVariables false
set_option maxRecDepth 10000
set_option maxHeartbeats 1000000
theorem asc_lowG {α : Type} {ok : α → Bool} {num : α → Int} : ∀ {b : List α} {q : Int}, ascBy ok num (some q) b = true → ∀ y ∈ b, q < num y
  | [], _, _, _, hy => by simp at hy
  | x :: b, q, h, y, hy => by
    simp only [ascBy, Bool.and_eq_true, decide_eq_true_eq] at h
    rcases List.mem_cons.1 hy with rfl | hy
    · exact h.1.2
    · exact Int.lt_trans h.1.2 (asc_lowG h.2 y hy)
theorem asc_midG {α : Type} {ok : α → Bool} {num : α → Int} {x : α} {b : List α} : ∀ {a : List α} {o : Option Int}, ascBy ok num o (a ++ x :: b) = true → (∀ y ∈ a, num y < num x) ∧ ∀ y ∈ b, num x < num y
  | [], o, h => by
    simp only [List.nil_append, ascBy, Bool.and_eq_true] at h
    exact ⟨by simp, asc_lowG h.2⟩
  | z :: a, o, h => by
    simp only [List.cons_append, ascBy, Bool.and_eq_true] at h
    have h2 := asc_midG h.2
    refine ⟨fun y hy => ?_, h2.2⟩
    rcases List.mem_cons.1 hy with rfl | hy
    · exact asc_lowG h.2 x (by simp)
    · exact h2.1 y hy
theorem index_hasG {α : Type} {num : α → Int} {n : Int} : ∀ (l : List α) (i : Int), 0 ≤ i → (0 ≤ indexBy (wantN num n) i l ↔ ∃ y ∈ l, num y = n)
  | [], i, _ => by simp [indexBy]
  | x :: r, i, hi => by
    simp only [indexBy]
    by_cases h : num x = n
    · rw [if_pos (by simp [wantN, h])]
      exact ⟨fun _ => ⟨x, by simp, h⟩, fun _ => hi⟩
    · rw [if_neg (by simp [wantN, h]), index_hasG r (i + 1) (by omega)]
      constructor
      · rintro ⟨y, hy, e⟩; exact ⟨y, by simp [hy], e⟩
      · rintro ⟨y, hy, e⟩
        rcases List.mem_cons.1 hy with rfl | hy
        · exact absurd e h
        · exact ⟨y, hy, e⟩

end Go.Proofs.YtpnfkjbnhholfaaDoor
