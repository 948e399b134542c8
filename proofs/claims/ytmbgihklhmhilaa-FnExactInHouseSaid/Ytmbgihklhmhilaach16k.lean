/- Contracts of the functions that the laws run. -/
import Derived.Test.Ytmbgihklhmhilaach16j
import Derived.Test.YtmbgihklhmhilaaEngB
namespace Go.Proofs.Ytmbgihklhmhilaa
open Go Go.Eng
set_option linter.unusedSimpArgs false
set_option linter.unusedVariables false
set_option maxRecDepth 10000
set_option maxHeartbeats 1000000
def mAddH (l : List THand) (x : THand) : THand := ⟨x.Thing, x.Holder, x.Who, x.At, mHandSeal (lastH l).Seal x⟩
def mAddHand (l : List THand) (x : THand) : List THand := if mIsChain (l ++ [mAddH l x]) then l ++ [mAddH l x] else l
theorem mAddHand_yes {l : List THand} {x : THand} (h : mIsChain (l ++ [mAddH l x]) = true) : mAddHand l x = l ++ [mAddH l x] := by simp [mAddHand, h]
theorem mAddHand_no {l : List THand} {x : THand} (h : mIsChain (l ++ [mAddH l x]) = false) : mAddHand l x = l := by simp [mAddHand, h]
theorem mAddHand_len (l : List THand) (x : THand) : (mAddHand l x).length ≤ l.length + 1 := by simp only [mAddHand]; split <;> simp
theorem mAddH_last {l : List THand} (x : THand) (h : 0 < l.length) : (⟨x.Thing, x.Holder, x.Who, x.At, mHandSeal (l[l.length - 1]?.getD default).Seal x⟩ : THand) = mAddH l x := by
  have h2 : l.length - 1 < l.length := by omega
  have : (lastH l).Seal = (l[l.length - 1]?.getD default).Seal := by
    rw [lastH, List.getLast?_eq_getElem?]; simp [h2]
  rw [mAddH, this]
theorem mAddH_first {l : List THand} (x : THand) (h : l = []) : (⟨x.Thing, x.Holder, x.Who, x.At, mHandSeal 0 x⟩ : THand) = mAddH l x := by subst h; rfl
end Go.Proofs.Ytmbgihklhmhilaa
