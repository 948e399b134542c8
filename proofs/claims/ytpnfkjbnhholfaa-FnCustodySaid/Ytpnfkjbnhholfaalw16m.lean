/- Contracts of the functions that the laws run. -/
import Derived.Test.YtpnfkjbnhholfaaEngB
import Derived.Test.YtpnfkjbnhholfaaEngB
import Derived.Test.YtpnfkjbnhholfaaEngB
import Derived.Test.Ytpnfkjbnhholfaadr16
import Derived.Test.Ytpnfkjbnhholfaalawx
import Derived.Test.Ytpnfkjbnhholfaach16m
import Derived.Test.YtpnfkjbnhholfaaEngB
namespace Go.Proofs.Ytpnfkjbnhholfaa
open Go Go.Eng
set_option linter.unusedSimpArgs false
set_option linter.unusedVariables false
set_option maxRecDepth 10000
set_option maxHeartbeats 1000000
theorem add_yes {l : List THand} {x : THand} (h : mIsChain (l ++ [mAddH l x]) = true) : mAddHand l x = l ++ [mAddH l x] := mAddHand_yes h
theorem chainB_app {b r : List THand} {x : THand} : ∀ {l : List THand}, chainB b (l ++ x :: r) = (chainB b l && (mIsHand x && decide ((lastH (b ++ l)).At ≤ x.At) && decide (x.Seal = mHandSeal (lastH (b ++ l)).Seal x) && mFollow ((b ++ l).filter (thH x.Thing)).reverse x && chainB (b ++ l ++ [x]) r)) := by
  intro l
  induction l generalizing b with
  | nil => simp [chainB]
  | cons y l ih =>
    simp only [List.cons_append, chainB]
    rw [ih]
    simp [Bool.and_assoc, List.append_assoc]
/-- the newest hand of a thing is the last one that was laid -/
theorem hold_last {l : List THand} {x : THand} (h : mIsChain (l ++ [mAddH l x]) = true) : mHold (l ++ [mAddH l x]) x.Thing x.At = some (mAddH l x) := by
  rw [mHold, if_pos h]
  have ht : thH x.Thing (mAddH l x) = true := by simp [thH, mAddH, kHd]
  have hy : (mAddH l x).At = x.At := rfl
  generalize mAddH l x = y at *
  rw [List.filter_append, show [y].filter (thH x.Thing) = [y] by rw [List.filter_cons_of_pos ht]; rfl, List.reverse_append]
  simp [atLe, hy]
/-- nothing follows what has come to an end -/
theorem no_more {l : List THand} {x : THand} (hx : 3 ≤ x.Holder) (w : Int) : mIsChain ((l ++ [mAddH l x]) ++ [mAddH (l ++ [mAddH l x]) ⟨x.Thing, 2, w, x.At, 0⟩]) = false := by
  have e : chainB [] ((l ++ [mAddH l x]) ++ [mAddH (l ++ [mAddH l x]) ⟨x.Thing, 2, w, x.At, 0⟩]) = false := by
    rw [chainB_app]
    have hf : mFollow (([] ++ (l ++ [mAddH l x])).filter (thH (mAddH (l ++ [mAddH l x]) ⟨x.Thing, 2, w, x.At, 0⟩).Thing)).reverse (mAddH (l ++ [mAddH l x]) ⟨x.Thing, 2, w, x.At, 0⟩) = false := by
      have ht : thH x.Thing (mAddH l x) = true := by simp [thH, mAddH, kHd]
      have hy : (mAddH (l ++ [mAddH l x]) ⟨x.Thing, 2, w, x.At, 0⟩).Thing = x.Thing := rfl
      have hh : (mAddH l x).Holder = x.Holder := rfl
      rw [hy, List.nil_append, List.filter_append]
      generalize mAddH l x = y at *
      rw [show [y].filter (thH x.Thing) = [y] by rw [List.filter_cons_of_pos ht]; rfl, List.reverse_append]
      have h3 : decide (y.Holder ≤ 2) = false := decide_eq_false (by omega)
      simp only [List.reverse_cons, List.reverse_nil, List.nil_append, List.cons_append, mFollow, h3, Bool.false_and]
    rw [hf]; simp
  simp only [mIsChain, e, Bool.and_false]
theorem seal_new {l : List THand} {x : THand} (hl : l.length = 0) : (mAddH l x).Seal = mHandSeal 0 x := by
  have : l = [] := List.length_eq_zero_iff.1 hl
  subst this; rfl
theorem hold_some {l : List THand} {k h : Int} (ha : ¬ hoA (mHold l k h) = 0) : mIsChain l = true ∧ 0 < (mHands l k).length := by
  cases hc : mIsChain l with
  | false => exact absurd (by simp [mHold, hc]) ha
  | true =>
    refine ⟨rfl, ?_⟩
    rw [mHold, if_pos hc] at ha
    rcases Nat.eq_zero_or_pos (mHands l k).length with h0 | h0
    · have : l.filter (thH k) = [] := List.length_eq_zero_iff.1 h0
      rw [this] at ha; simp at ha
    · exact h0
theorem chainB_hand : ∀ {r b : List THand}, chainB b r = true → ∀ x ∈ r, mIsHand x = true
  | [], _, _, _, h => by simp at h
  | y :: r, b, h, x, hx => by
    simp only [chainB, Bool.and_eq_true] at h
    rcases List.mem_cons.1 hx with rfl | hx
    · exact h.1.1.1.1
    · exact chainB_hand h.2 x hx
theorem in_has {l : List THand} {h : Int} {k : Int} (hk : k ∈ mInHouse l h) : hoA (mHold l k 100000) = 2 ∧ hoB (mHold l k 100000) = h := by
  cases hc : mIsChain l with
  | false => simp [mInHouse, hc] at hk
  | true =>
    rw [mInHouse, if_pos hc, mHouseG, List.take_length] at hk
    have hm := ((foldP _ [] List.Pairwise.nil).2.1 k).1 hk
    rcases hm with hm | hm
    · simp at hm
    · have hh := (List.mem_filter.1 hm).2
      obtain ⟨hm1, _⟩ := List.mem_filter.1 hm
      obtain ⟨x, hx, hxk⟩ := List.mem_map.1 hm1
      have hne : l.filter (thH k) ≠ [] := by
        intro e
        have : x ∈ l.filter (thH k) := List.mem_filter.2 ⟨hx, by simp [thH, kHd, hxk]⟩
        rw [e] at this; simp at this
      have hlast : lastO l k = (l.filter (thH k)).getLast hne := by
        rw [lastO, List.getLast?_eq_some_getLast hne]; rfl
      have hmem : (l.filter (thH k)).getLast hne ∈ l := (List.mem_filter.1 (List.getLast_mem hne)).1
      have hv : mIsHand ((l.filter (thH k)).getLast hne) = true := by
        simp only [mIsChain, Bool.and_eq_true] at hc
        exact chainB_hand hc.2 _ hmem
      have hat : atLe 100000 ((l.filter (thH k)).getLast hne) = true := by
        simp only [mIsHand, Bool.and_eq_true, mIn_iff] at hv
        exact decide_eq_true (by omega)
      have hf : mHold l k 100000 = some ((l.filter (thH k)).getLast hne) := by
        rw [mHold, if_pos hc]
        have hr : (l.filter (thH k)).reverse = (l.filter (thH k)).getLast hne :: (l.filter (thH k)).dropLast.reverse := by
          rw (config := {occs := .pos [1]}) [← List.dropLast_concat_getLast hne]
          rw [List.reverse_append]; rfl
        rw [hr, List.find?_cons, hat]
      rw [hf]
      rw [hitT, hlast] at hh
      clear hf hat hv hmem hlast
      generalize (l.filter (thH k)).getLast hne = z at hh ⊢
      simpa [hitB] using hh
theorem in_asc (l : List THand) (h : Int) : mAscL (mInHouse l h) = true := by
  apply mAscL_pw
  rw [mInHouse]; split
  · exact (foldP _ [] List.Pairwise.nil).1
  · exact .nil

end Go.Proofs.Ytpnfkjbnhholfaa
