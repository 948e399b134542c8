/- Contracts of the functions that the laws run. -/
import Derived.Test.Ytdbhfkbfajljpaach01a
import Derived.Test.YtdbhfkbfajljpaaEngB
namespace Go.Proofs.Ytdbhfkbfajljpaa
open Go Go.Eng
set_option linter.unusedSimpArgs false
set_option linter.unusedVariables false
set_option maxRecDepth 10000
set_option maxHeartbeats 1000000
theorem tmod_cases {n m : Int} (h : 0 < m) : n.tmod m = n % m ∨ (n.tmod m = n % m - m ∧ n % m ≠ 0) := by
  rw [Int.tmod_eq_emod]
  split
  · left; omega
  · rename_i hn
    right
    refine ⟨by omega, fun h0 => hn (.inr (Int.dvd_of_emod_eq_zero h0))⟩
theorem emod_bd (n : Int) {m : Int} (h : 0 < m) : 0 ≤ n % m ∧ n % m < m := ⟨Int.emod_nonneg n (by omega), Int.emod_lt_of_pos n h⟩
theorem mod_spec {n m : Int} (h : 0 < m) : (n.tmod m + m).tmod m = n % m := by
  have h1 := emod_bd n h
  rcases tmod_cases (n := n) h with e | ⟨e, _⟩
  · rw [e, Int.tmod_eq_emod_of_nonneg (by omega)]; simp
  · rw [e, Int.tmod_eq_emod_of_nonneg (by omega)]; simp
theorem tdiv_bd {x b : Int} (hx : 0 ≤ x) (hb : 0 < b) : 0 ≤ x.tdiv b ∧ x.tdiv b ≤ x := by
  rw [Int.tdiv_eq_ediv_of_nonneg hx]
  exact ⟨Int.ediv_nonneg hx (by omega), Int.ediv_le_self _ hx⟩
theorem mIn_iff {x y z : Int} : mIn x y z = true ↔ y ≤ x ∧ x ≤ z := by simp [mIn]
def mCeilDiv (a b : Int) : Int := if mIn a 0 1000000000000 && mIn b 1 1000000000000 then (a + b - 1).tdiv b else 0
def mMod (n m : Int) : Int := if mIn m 1 1000000000000 then n % m else 0
end Go.Proofs.Ytdbhfkbfajljpaa
