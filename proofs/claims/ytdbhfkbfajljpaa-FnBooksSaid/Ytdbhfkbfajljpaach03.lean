/- Contracts of the functions that the laws run. -/
import Derived.Test.YtdbhfkbfajljpaahelpA
import Derived.Test.YtdbhfkbfajljpaaEngB
namespace Go.Proofs.Ytdbhfkbfajljpaa
open Go Go.Eng
set_option linter.unusedSimpArgs false
set_option linter.unusedVariables false
set_option maxRecDepth 10000
set_option maxHeartbeats 1000000
def hStep (d r : Int) : Int := (d * 1000003 + r + 13) % 2147483647
def mHash (l : List Int) : Int := l.foldl (fun d v => hStep d (v % 2147483647)) 11
theorem hStep_bd (d r : Int) : 0 ≤ hStep d r ∧ hStep d r < 2147483647 := emod_bd _ (by omega)
theorem mMod_M (v : Int) : mMod v 2147483647 = v % 2147483647 := rfl
theorem fold_bd {f : Int → Int → Int} (hf : ∀ a b, 0 ≤ f a b ∧ f a b < 2147483647) : ∀ (l : List Int) (d : Int), 0 ≤ d ∧ d < 2147483647 → 0 ≤ l.foldl f d ∧ l.foldl f d < 2147483647
  | [], d, h => h
  | x :: l, d, _ => fold_bd hf l (f d x) (hf d x)
theorem mHash_bd (l : List Int) : 0 ≤ mHash l ∧ mHash l < 2147483647 := fold_bd (fun a b => hStep_bd a _) l 11 (by omega)
theorem mHash_at {l : List Int} {p : Nat} (h : p < l.length) : mHash (l.take (p + 1)) = hStep (mHash (l.take p)) ((l[p]?.getD 0) % 2147483647) := by
  rw [take_at (d := 0) h]; simp [mHash, List.foldl_append]
theorem tmod_M {a : Int} (h : 0 ≤ a) : a.tmod 2147483647 = a % 2147483647 := Int.tmod_eq_emod_of_nonneg h
def insI (ks : List Int) (v : Int) : List Int := if v ∈ ks then ks else ks ++ [v]
def keysI (ks : List Int) : List (List Int) := ks.map fun k => [k]
theorem posK_keys {v : Int} : ∀ {ks : List Int}, (posK [v] (keysI ks)).isSome = decide (v ∈ ks)
  | [] => rfl
  | k :: ks => by
    have := posK_keys (v := v) (ks := ks)
    simp only [keysI, List.map_cons, posK] at this ⊢
    by_cases h : v = k
    · simp [h]
    · simp [h, this]
theorem lookK_keys {v : Int} {f : Int → Int} : ∀ {ks : List Int}, lookK (keysI ks) (ML dI (ks.map f)) [v] = if v ∈ ks then some (dI (f v)) else none
  | [] => rfl
  | k :: ks => by
    have := lookK_keys (v := v) (f := f) (ks := ks)
    simp only [lookK, keysI, ML, List.map_cons, posK] at this ⊢
    by_cases h : v = k
    · subst h; simp
    · simp only [List.cons.injEq, h, and_true, if_false, List.mem_cons, false_or]
      rw [← this]
      cases posK [v] (List.map (fun k => [k]) ks) <;> simp
@[simp] theorem insK_keys {ks : List Int} {v : Int} : insK (keysI ks) [v] = keysI (insI ks v) := by
  have := posK_keys (v := v) (ks := ks)
  by_cases h : v ∈ ks
  · simp [insK, insI, this, h]
  · simp only [insK, insI, this, h, decide_false, Bool.false_eq_true, if_false]; simp [keysI]
@[simp] theorem keysI_inj {a b : List Int} : keysI a = keysI b ↔ a = b := by
  refine ⟨fun h => ?_, fun h => by rw [h]⟩
  exact (List.map_inj_right (fun {x y} h => by simpa using h)).1 h
theorem updK_keys {ks : List Int} {v : Int} {f : Int → Int} (h : v ∉ ks) : updK (keysI ks) (ML dI (ks.map f)) [v] (dI (f v)) = ML dI ((insI ks v).map f) := by
  have hp := posK_keys (v := v) (ks := ks)
  simp only [h, decide_false] at hp
  have hn : posK [v] (keysI ks) = none := by cases hq : posK [v] (keysI ks) <;> simp [hq] at hp ⊢
  simp [updK, hn, insI, h, ML]
theorem insI_mem {ks : List Int} {v : Int} (h : v ∈ ks) : insI ks v = ks := by simp [insI, h]
end Go.Proofs.Ytdbhfkbfajljpaa
