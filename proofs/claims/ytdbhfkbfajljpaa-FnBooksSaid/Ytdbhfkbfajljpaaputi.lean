/- Contracts of the functions that the laws run. -/
import Derived.Test.Ytdbhfkbfajljpaach03
import Derived.Test.YtdbhfkbfajljpaaEngB
namespace Go.Proofs.Ytdbhfkbfajljpaa
open Go Go.Eng
set_option linter.unusedSimpArgs false
set_option linter.unusedVariables false
set_option maxRecDepth 10000
set_option maxHeartbeats 1000000
def putI : List Int → Int → List Int
  | [], n => [n]
  | x :: t, n => if x < n then x :: putI t n else if x = n then x :: t else n :: x :: t
def cutI (l : List Int) (n : Int) : Nat := (l.takeWhile fun x => decide (x < n)).length
theorem cutI_le (l : List Int) (n : Int) : cutI l n ≤ l.length := (List.takeWhile_sublist _).length_le
theorem cutI_at : ∀ {l : List Int} {n : Int} {p : Nat}, p ≤ cutI l n → p < l.length → (p < cutI l n ↔ l[p]?.getD 0 < n)
  | [], n, p, _, h => by simp at h
  | x :: t, n, 0, _, _ => by
    by_cases h : x < n <;> simp [cutI, h]
  | x :: t, n, p + 1, h, h2 => by
    by_cases hx : x < n
    · simp only [cutI, List.takeWhile_cons, hx, decide_true, if_true, List.length_cons] at h ⊢
      have := cutI_at (l := t) (n := n) (p := p) (by simp only [cutI]; omega) (by simpa using h2)
      simp only [cutI] at this
      simp only [List.getElem?_cons_succ]
      omega
    · simp [cutI, hx] at h
theorem putI_cut : ∀ (l : List Int) (n : Int), putI l n = if cutI l n < l.length ∧ l[cutI l n]?.getD 0 = n then l else l.take (cutI l n) ++ n :: l.drop (cutI l n)
  | [], n => by simp [putI, cutI]
  | x :: t, n => by
    by_cases hx : x < n
    · have hc : cutI (x :: t) n = cutI t n + 1 := by simp [cutI, hx]
      rw [hc, putI, if_pos hx, putI_cut t n]
      by_cases h : cutI t n < t.length ∧ t[cutI t n]?.getD 0 = n
      · rw [if_pos h, if_pos ⟨by simp; omega, by simpa using h.2⟩]
      · rw [if_neg h, if_neg (fun e => h ⟨by simpa using e.1, by simpa using e.2⟩)]; simp
    · have hc : cutI (x :: t) n = 0 := by simp [cutI, hx]
      rw [hc, putI, if_neg hx]
      by_cases h : x = n <;> simp [h]
theorem putI_len (l : List Int) (n : Int) : (putI l n).length ≤ l.length + 1 := by
  have := cutI_le l n
  rw [putI_cut]; split
  · omega
  · simp; omega
theorem putI_mem : ∀ {l : List Int} {n w : Int}, w ∈ putI l n ↔ w = n ∨ w ∈ l
  | [], n, w => by simp [putI]
  | x :: t, n, w => by
    simp only [putI]
    split
    · rw [List.mem_cons, putI_mem (l := t), List.mem_cons]; grind
    · split
      · rename_i h; subst h; simp
      · simp
theorem putI_asc : ∀ {l : List Int} {n : Int}, l.Pairwise (· < ·) → (putI l n).Pairwise (· < ·)
  | [], n, _ => by simp [putI]
  | x :: t, n, h => by
    have h1 := List.pairwise_cons.1 h
    simp only [putI]
    split
    · rename_i hx
      refine List.pairwise_cons.2 ⟨fun y hy => ?_, putI_asc h1.2⟩
      rcases putI_mem.1 hy with e | e
      · subst e; exact hx
      · exact h1.1 y e
    · split
      · exact h
      · refine List.pairwise_cons.2 ⟨fun y hy => ?_, h⟩
        rcases List.mem_cons.1 hy with e | e
        · subst e; omega
        · have := h1.1 y e; omega
theorem mem_at {l : List Int} {p : Nat} {n : Int} (h : p < l.length) : n ∈ l.drop p ↔ (n = l[p]?.getD 0 ∨ n ∈ l.drop (p + 1)) := by
  rw [drop_at (d := 0) h, List.mem_cons]
theorem mem_end {l : List Int} {p : Nat} {n : Int} (h : l.length ≤ p) : ¬ n ∈ l.drop p := by
  rw [List.drop_eq_nil_of_le h]; simp
theorem foldP : ∀ (l ks : List Int), ks.Pairwise (· < ·) → (l.foldl putI ks).Pairwise (· < ·) ∧ (∀ w, w ∈ l.foldl putI ks ↔ w ∈ ks ∨ w ∈ l) ∧ (l.foldl putI ks).length ≤ ks.length + l.length
  | [], ks, h => ⟨h, by simp, by simp⟩
  | x :: l, ks, h => by
    have := foldP l (putI ks x) (putI_asc h)
    have hl := putI_len ks x
    refine ⟨this.1, fun w => ?_, ?_⟩
    · rw [List.foldl_cons, this.2.1 w, putI_mem, List.mem_cons]; grind
    · simp only [List.foldl_cons, List.length_cons]; omega

end Go.Proofs.Ytdbhfkbfajljpaa
