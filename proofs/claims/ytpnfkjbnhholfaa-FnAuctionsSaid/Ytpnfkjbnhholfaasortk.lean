/- Contracts of the functions that the laws run. -/
import Derived.Test.Ytpnfkjbnhholfaagen
import Derived.Test.YtpnfkjbnhholfaaEngB
namespace Go.Proofs.Ytpnfkjbnhholfaa
open Go Go.Eng
set_option linter.unusedSimpArgs false
set_option linter.unusedVariables false
set_option maxRecDepth 10000
set_option maxHeartbeats 1000000
section
variable {α : Type} (lt : α → α → Bool) (d : α)
/-- where x goes, looking back from the end of a sorted row -/
def cutF (x : α) (P : List α) : Nat → Nat
  | 0 => 0
  | j + 1 => if lt x (P[j]?.getD d) then cutF x P j else j + 1
def insK (x : α) (P : List α) : List α := P.take (cutF lt d x P P.length) ++ x :: P.drop (cutF lt d x P P.length)
def sortK (l : List α) : Nat → List α
  | 0 => []
  | p + 1 => insK lt d (l[p]?.getD d) (sortK l p)
end
section
variable {α : Type} {lt : α → α → Bool} {d : α}
theorem cutF_le (x : α) (P : List α) : ∀ j, cutF lt d x P j ≤ j
  | 0 => Nat.le_refl _
  | j + 1 => by
    simp only [cutF]; split
    · have := cutF_le x P j; omega
    · omega
theorem insK_len (x : α) (P : List α) : (insK lt d x P).length = P.length + 1 := by
  have := cutF_le (lt := lt) (d := d) x P P.length
  simp [insK]; omega
theorem sortK_len (l : List α) : ∀ p, (sortK lt d l p).length = p
  | 0 => rfl
  | p + 1 => by rw [sortK, insK_len, sortK_len l p]
/-- a row while x goes back in it -/
def rowK (x : α) (P T : List α) (j : Nat) : List α := P.take j ++ x :: (P.drop j ++ T)
theorem rowK_len (x : α) (P T : List α) {j : Nat} (h : j ≤ P.length) : (rowK x P T j).length = P.length + 1 + T.length := by
  simp [rowK]; omega
theorem rowK_at (x : α) (P T : List α) {j : Nat} (h : j ≤ P.length) : (rowK x P T j)[j]?.getD d = x := by
  have h1 : (P.take j).length = j := by simp; omega
  rw [rowK, List.getElem?_append_right (by omega), h1, Nat.sub_self]; rfl
theorem rowK_before (x : α) (P T : List α) {j : Nat} (h : j + 1 ≤ P.length) : (rowK x P T (j + 1))[j]?.getD d = P[j]?.getD d := by
  rw [rowK, List.getElem?_append_left (by simp; omega), List.getElem?_take, if_pos (by omega)]
theorem rowK_swap (x : α) (P T : List α) {j : Nat} (h : j + 1 ≤ P.length) : ((rowK x P T (j + 1)).set (j + 1) (P[j]?.getD d)).set j x = rowK x P T j := by
  have h1 : (P.take (j + 1)).length = j + 1 := by simp; omega
  have h2 : (P.take j).length = j := by simp; omega
  have e1 : P.take (j + 1) = P.take j ++ [P[j]?.getD d] := take_at (by omega)
  have e2 : P.drop j = (P[j]?.getD d) :: P.drop (j + 1) := drop_at (by omega)
  simp only [rowK]
  rw [List.set_append_right _ _ (by omega), h1, Nat.sub_self, List.set_cons_zero, e1, List.append_assoc, List.set_append_right _ _ (by omega), h2, Nat.sub_self, e2]
  simp
theorem rowK_start (l : List α) {i : Nat} (h : i < l.length) : sortK lt d l i ++ l.drop i = rowK (l[i]?.getD d) (sortK lt d l i) (l.drop (i + 1)) i := by
  have h1 : (sortK lt d l i).take i = sortK lt d l i := List.take_of_length_le (by rw [sortK_len]; omega)
  have h2 : (sortK lt d l i).drop i = [] := List.drop_eq_nil_of_le (by rw [sortK_len]; omega)
  rw [rowK, h1, h2, drop_at (d := d) h]; simp
theorem rowK_stop (l : List α) {i j : Nat} (h : cutF lt d (l[i]?.getD d) (sortK lt d l i) i = j) : rowK (l[i]?.getD d) (sortK lt d l i) (l.drop (i + 1)) j = sortK lt d l (i + 1) ++ l.drop (i + 1) := by
  rw [sortK, insK, sortK_len, h, rowK]; simp
theorem sortK_one (l : List α) (h : 0 < l.length) : sortK lt d l 1 ++ l.drop 1 = l := by
  have e : sortK lt d l 1 = [l[0]?.getD d] := rfl
  have := drop_at (d := d) h
  rw [e]; simp at this ⊢; exact this.symm
theorem sortK_full (l : List α) : sortK lt d l l.length ++ l.drop l.length = sortK lt d l l.length := by simp
theorem sortK_nil : sortK lt d ([] : List α) 0 = [] := rfl
end

end Go.Proofs.Ytpnfkjbnhholfaa
