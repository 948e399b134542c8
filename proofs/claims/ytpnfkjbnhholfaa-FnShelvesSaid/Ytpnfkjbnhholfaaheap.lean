/- Contracts of the functions that the laws run. -/
import Derived.Test.YtpnfkjbnhholfaaTS
import Derived.Test.YtpnfkjbnhholfaaEngB
namespace Go.Proofs.Ytpnfkjbnhholfaa
open Go Go.Eng
set_option linter.unusedSimpArgs false
set_option linter.unusedVariables false
set_option maxRecDepth 10000
set_option maxHeartbeats 1000000
section heap
variable {α : Type} (lt : α → α → Bool) (d : α)
def atH (l : List α) (k : Nat) : α := l[k]?.getD d
def swapL (l : List α) (i j : Nat) : List α := (l.set i (l[j]?.getD d)).set j (l[i]?.getD d)
@[simp] theorem swap_len (l : List α) (i j : Nat) : (swapL d l i j).length = l.length := by simp [swapL]
theorem swap_at {l : List α} {i j : Nat} (hi : i < l.length) (hj : j < l.length) (k : Nat) : atH d (swapL d l i j) k = if k = j then atH d l i else if k = i then atH d l j else atH d l k := by
  simp only [atH, swapL, List.getElem?_set, List.length_set]
  by_cases h1 : k = j
  · subst h1
    rw [if_pos rfl, if_pos rfl, if_pos hj]
    simp [hi]
  · have h1' : ¬ j = k := fun e => h1 e.symm
    rw [if_neg h1', if_neg h1]
    by_cases h2 : k = i
    · subst h2
      rw [if_pos rfl, if_pos rfl, if_pos hi]
      simp [hj]
    · have h2' : ¬ i = k := fun e => h2 e.symm
      rw [if_neg h2', if_neg h2]
def upH (l : List α) (j : Nat) : List α :=
  if h : j = 0 then l else if lt (atH d l j) (atH d l ((j - 1) / 2)) = true then upH (swapL d l ((j - 1) / 2) j) ((j - 1) / 2) else l
termination_by j
decreasing_by omega
def minC (l : List α) (n i : Nat) : Nat := if 2 * i + 2 < n ∧ lt (atH d l (2 * i + 2)) (atH d l (2 * i + 1)) = true then 2 * i + 2 else 2 * i + 1
def downH (l : List α) (n i : Nat) : List α :=
  if h : 2 * i + 1 < n then if lt (atH d l (minC lt d l n i)) (atH d l i) = true then downH (swapL d l i (minC lt d l n i)) n (minC lt d l n i) else l else l
termination_by n - i
decreasing_by simp only [minC]; split <;> omega
structure OrdH : Prop where
  tr : ∀ a b c, lt b a = false → lt c b = false → lt c a = false
  asym : ∀ a b, lt a b = true → lt b a = false
variable {lt}
theorem OrdH.irr (O : OrdH lt) (a : α) : lt a a = false := by
  cases h : lt a a with
  | false => rfl
  | true => rw [O.asym a a h] at h; cases h
variable (lt)
def Heap (l : List α) (n : Nat) : Prop := ∀ k, 0 < k → k < n → lt (atH d l k) (atH d l ((k - 1) / 2)) = false
def MemH (l : List α) (n : Nat) (e : α) : Prop := ∃ k, k < n ∧ atH d l k = e
variable {lt d}
theorem heap_root (O : OrdH lt) {l : List α} {n : Nat} (h : Heap lt d l n) (k : Nat) : k < n → lt (atH d l k) (atH d l 0) = false := by
  induction k using Nat.strongRecOn with
  | ind k ih =>
    intro hk
    by_cases h0 : k = 0
    · subst h0; exact O.irr _
    · exact O.tr _ _ _ (ih ((k - 1) / 2) (by omega) (by omega)) (h k (by omega) hk)
@[simp] theorem up_len (l : List α) (j : Nat) : (upH lt d l j).length = l.length := by
  induction j using Nat.strongRecOn generalizing l with
  | ind j ih =>
    rw [upH]
    split
    · rfl
    · split
      · rw [ih _ (by omega), swap_len]
      · rfl
theorem swap_mem {l : List α} {i j n : Nat} {e : α} (hi : i < n) (hj : j < n) (hn : n ≤ l.length) : MemH d (swapL d l i j) n e ↔ MemH d l n e := by
  have hs := swap_at d (l := l) (i := i) (j := j) (by omega) (by omega)
  constructor
  · rintro ⟨k, hk, rfl⟩
    rw [hs]
    split
    · exact ⟨i, hi, rfl⟩
    · split
      · exact ⟨j, hj, rfl⟩
      · exact ⟨k, hk, rfl⟩
  · rintro ⟨k, hk, rfl⟩
    by_cases h1 : k = i
    · subst h1; exact ⟨j, hj, by rw [hs, if_pos rfl]⟩
    · by_cases h2 : k = j
      · subst h2; exact ⟨i, hi, by rw [hs]; split <;> simp_all⟩
      · exact ⟨k, hk, by rw [hs, if_neg h2, if_neg h1]⟩
theorem up_mem {n : Nat} {e : α} (j : Nat) : ∀ (l : List α), j < n → n ≤ l.length → (MemH d (upH lt d l j) n e ↔ MemH d l n e) := by
  induction j using Nat.strongRecOn with
  | ind j ih =>
    intro l hj hn
    rw [upH]
    split
    · exact Iff.rfl
    · split
      · rw [ih ((j - 1) / 2) (by omega) _ (by omega) (by rw [swap_len]; exact hn)]
        exact swap_mem (by omega) hj hn
      · exact Iff.rfl
theorem up_heap (O : OrdH lt) {n : Nat} (j : Nat) : ∀ (l : List α), j < n → n ≤ l.length → (∀ k, 0 < k → k < n → k ≠ j → lt (atH d l k) (atH d l ((k - 1) / 2)) = false) →
    (∀ k, 0 < k → k < n → (k - 1) / 2 = j → 0 < j → lt (atH d l k) (atH d l ((j - 1) / 2)) = false) → Heap lt d (upH lt d l j) n := by
  induction j using Nat.strongRecOn with
  | ind j ih =>
    intro l hj hn h1 h2
    rw [upH]
    split
    · rename_i h0
      subst h0
      exact fun k hk hkn => h1 k hk hkn (by omega)
    · rename_i h0
      generalize hi : (j - 1) / 2 = i at h2 ⊢
      have hij : i < j := by omega
      have hs := swap_at d (l := l) (i := i) (j := j) (by omega) (by omega)
      split
      · rename_i hl
        have has := O.asym _ _ hl
        refine ih i hij _ (by omega) (by rw [swap_len]; exact hn) (fun k hk hkn hne => ?_) (fun k hk hkn hp hi0 => ?_)
        · by_cases e1 : k = j
          · subst e1
            rw [hs, hs, hi, if_pos rfl, if_neg (by omega), if_pos rfl]; exact has
          · have hb : atH d (swapL d l i j) k = atH d l k := by rw [hs, if_neg e1, if_neg hne]
            rw [hb, hs]
            by_cases e2 : (k - 1) / 2 = j
            · rw [if_pos e2]; exact h2 k hk hkn e2 (by omega)
            · rw [if_neg e2]
              by_cases e3 : (k - 1) / 2 = i
              · rw [if_pos e3]
                have := h1 k hk hkn e1
                rw [e3] at this
                exact O.tr _ _ _ has this
              · rw [if_neg e3]; exact h1 k hk hkn e1
        · have hpi : atH d (swapL d l i j) ((i - 1) / 2) = atH d l ((i - 1) / 2) := by rw [hs, if_neg (by omega), if_neg (by omega)]
          have hii := h1 i hi0 (by omega) (by omega)
          rw [hpi]
          by_cases e1 : k = j
          · subst e1; rw [hs, if_pos rfl]; exact hii
          · rw [hs, if_neg e1, if_neg (by omega)]
            have := h1 k hk hkn e1
            rw [hp] at this
            exact O.tr _ _ _ hii this
      · rename_i hl
        simp only [Bool.not_eq_true] at hl
        intro k hk hkn
        by_cases e1 : k = j
        · subst e1; rw [hi]; exact hl
        · exact h1 k hk hkn e1
theorem minC_cases (l : List α) (n i : Nat) (h : 2 * i + 1 < n) : minC lt d l n i < n ∧ i < minC lt d l n i ∧ (minC lt d l n i - 1) / 2 = i := by
  simp only [minC]; split <;> omega
@[simp] theorem down_len (n : Nat) : ∀ (m : Nat) (l : List α) (i : Nat), n - i ≤ m → (downH lt d l n i).length = l.length
  | 0, l, i, h => by rw [downH, dif_neg (by omega)]
  | m + 1, l, i, h => by
    rw [downH]
    split
    · rename_i h1
      have hc := minC_cases (lt := lt) (d := d) l n i h1
      split
      · rw [down_len n m _ _ (by omega), swap_len]
      · rfl
    · rfl
theorem down_mem (n : Nat) {e : α} : ∀ (m : Nat) (l : List α) (i : Nat), n - i ≤ m → n ≤ l.length → (MemH d (downH lt d l n i) n e ↔ MemH d l n e)
  | 0, l, i, h, hn => by rw [downH, dif_neg (by omega)]
  | m + 1, l, i, h, hn => by
    rw [downH]
    split
    · rename_i h1
      have hc := minC_cases (lt := lt) (d := d) l n i h1
      split
      · rw [down_mem n m _ _ (by omega) (by rw [swap_len]; exact hn)]
        exact swap_mem (by omega) hc.1 hn
      · exact Iff.rfl
    · exact Iff.rfl
theorem down_out (n : Nat) {k : Nat} (hk : n ≤ k) : ∀ (m : Nat) (l : List α) (i : Nat), n - i ≤ m → n ≤ l.length → atH d (downH lt d l n i) k = atH d l k
  | 0, l, i, h, hn => by rw [downH, dif_neg (by omega)]
  | m + 1, l, i, h, hn => by
    rw [downH]
    split
    · rename_i h1
      have hc := minC_cases (lt := lt) (d := d) l n i h1
      split
      · rw [down_out n hk m _ _ (by omega) (by rw [swap_len]; exact hn), swap_at d (by omega) (by omega), if_neg (by omega), if_neg (by omega)]
      · rfl
    · rfl
theorem down_heap (O : OrdH lt) (n : Nat) : ∀ (m : Nat) (l : List α) (i : Nat), n - i ≤ m → n ≤ l.length → (∀ k, 0 < k → k < n → (k - 1) / 2 ≠ i → lt (atH d l k) (atH d l ((k - 1) / 2)) = false) →
    (0 < i → ∀ k, 0 < k → k < n → (k - 1) / 2 = i → lt (atH d l k) (atH d l ((i - 1) / 2)) = false) → Heap lt d (downH lt d l n i) n
  | 0, l, i, h, hn, h1, h2 => by
    rw [downH, dif_neg (by omega)]
    exact fun k hk hkn => h1 k hk hkn (by omega)
  | m + 1, l, i, h, hn, h1, h2 => by
    rw [downH]
    split
    · rename_i hlt
      have hc := minC_cases (lt := lt) (d := d) l n i hlt
      have ho : ∀ k, 0 < k → k < n → (k - 1) / 2 = i → k ≠ minC lt d l n i → lt (atH d l k) (atH d l (minC lt d l n i)) = false := by
        intro k hk hkn hp hne
        simp only [minC] at hne ⊢
        split at hne
        · rename_i hh
          rw [if_pos hh]
          have : k = 2 * i + 1 := by omega
          subst this
          exact O.asym _ _ hh.2
        · rename_i hh
          rw [if_neg hh]
          have : k = 2 * i + 2 := by omega
          subst this
          simpa [hkn] using hh
      generalize minC lt d l n i = j at hc ho ⊢
      have hs := swap_at d (l := l) (i := i) (j := j) (by omega) (by omega)
      split
      · rename_i hl
        have has := O.asym _ _ hl
        refine down_heap O n m _ _ (by omega) (by rw [swap_len]; exact hn) (fun k hk hkn hne => ?_) (fun hj0 k hk hkn hp => ?_)
        · by_cases e1 : k = i
          · subst e1
            rw [hs, if_neg (by omega), if_pos rfl, hs, if_neg (by omega), if_neg (by omega)]
            exact h2 hk j (by omega) hc.1 hc.2.2
          · by_cases e2 : k = j
            · subst e2
              rw [hs, if_pos rfl, hc.2.2, hs, if_neg (by omega), if_pos rfl]; exact has
            · have hb : atH d (swapL d l i j) k = atH d l k := by rw [hs, if_neg e2, if_neg e1]
              rw [hb, hs, if_neg hne]
              by_cases e3 : (k - 1) / 2 = i
              · rw [if_pos e3]; exact ho k hk hkn e3 e2
              · rw [if_neg e3]; exact h1 k hk hkn e3
        · have hb : atH d (swapL d l i j) k = atH d l k := by rw [hs, if_neg (by omega), if_neg (by omega)]
          rw [hb, hc.2.2, hs, if_neg (by omega), if_pos rfl]
          have := h1 k hk hkn (by omega)
          rw [hp] at this
          exact this
      · rename_i hl
        simp only [Bool.not_eq_true] at hl
        intro k hk hkn
        by_cases e1 : (k - 1) / 2 = i
        · rw [e1]
          by_cases e2 : k = j
          · subst e2; exact hl
          · exact O.tr _ _ _ hl (ho k hk hkn e1 e2)
        · exact h1 k hk hkn e1
    · exact fun k hk hkn => h1 k hk hkn (by omega)
def pushH (lt : α → α → Bool) (d : α) (l : List α) (x : α) : List α := upH lt d (l ++ [x]) l.length
theorem push_len (l : List α) (x : α) : (pushH lt d l x).length = l.length + 1 := by simp [pushH]
theorem atH_app (l r : List α) {k : Nat} (h : k < l.length) : atH d (l ++ r) k = atH d l k := by simp [atH, List.getElem?_append_left h]
theorem atH_end (l : List α) (x : α) : atH d (l ++ [x]) l.length = x := by simp [atH]
theorem push_heap (O : OrdH lt) {l : List α} {x : α} (h : Heap lt d l l.length) : Heap lt d (pushH lt d l x) (l.length + 1) := by
  refine up_heap O l.length _ (by omega) (by simp) (fun k hk hkn hne => ?_) (fun k hk hkn hp hj => by omega)
  rw [atH_app _ _ (by omega), atH_app _ _ (by omega)]
  exact h k hk (by omega)
theorem push_mem {l : List α} {x e : α} : MemH d (pushH lt d l x) (l.length + 1) e ↔ (MemH d l l.length e ∨ e = x) := by
  rw [pushH, up_mem l.length _ (by omega) (by simp)]
  constructor
  · rintro ⟨k, hk, rfl⟩
    by_cases hkl : k < l.length
    · exact .inl ⟨k, hkl, (atH_app _ _ hkl).symm⟩
    · have : k = l.length := by omega
      subst this
      exact .inr (atH_end l x)
  · rintro (⟨k, hk, rfl⟩ | rfl)
    · exact ⟨k, by omega, atH_app _ _ hk⟩
    · exact ⟨l.length, by omega, atH_end l _⟩
def popH (lt : α → α → Bool) (d : α) (l : List α) (n : Nat) : List α := downH lt d (swapL d l 0 (n - 1)) (n - 1) 0
theorem pop_len (l : List α) (n : Nat) : (popH lt d l n).length = l.length := by rw [popH, down_len _ _ _ _ (Nat.le_refl _), swap_len]
theorem pop_top {l : List α} {n : Nat} (h0 : 0 < n) (hn : n ≤ l.length) : atH d (popH lt d l n) (n - 1) = atH d l 0 := by
  rw [popH, down_out (n - 1) (Nat.le_refl _) _ _ _ (Nat.le_refl _) (by rw [swap_len]; omega), swap_at d (by omega) (by omega), if_pos rfl]
theorem pop_heap (O : OrdH lt) {l : List α} {n : Nat} (h0 : 0 < n) (hn : n ≤ l.length) (h : Heap lt d l n) : Heap lt d (popH lt d l n) (n - 1) := by
  refine down_heap O _ _ _ _ (Nat.le_refl _) (by rw [swap_len]; omega) (fun k hk hkn hne => ?_) (fun h => absurd h (by omega))
  have hs := swap_at d (l := l) (i := 0) (j := n - 1) (by omega) (by omega)
  rw [hs, hs, if_neg (by omega), if_neg (by omega), if_neg (by omega), if_neg (by omega)]
  exact h k hk (by omega)
theorem pop_mem {l : List α} {n : Nat} {e : α} (h0 : 0 < n) (hn : n ≤ l.length) : MemH d l n e ↔ (MemH d (popH lt d l n) (n - 1) e ∨ e = atH d l 0) := by
  have hs := swap_at d (l := l) (i := 0) (j := n - 1) (by omega) (by omega)
  rw [popH, down_mem (n - 1) _ _ _ (Nat.le_refl _) (by rw [swap_len]; omega), ← swap_mem (d := d) (l := l) (i := 0) (j := n - 1) (n := n) (by omega) (by omega) hn]
  constructor
  · rintro ⟨k, hk, rfl⟩
    by_cases hkl : k < n - 1
    · exact .inl ⟨k, hkl, rfl⟩
    · have : k = n - 1 := by omega
      subst this
      exact .inr (by rw [hs, if_pos rfl])
  · rintro (⟨k, hk, rfl⟩ | rfl)
    · exact ⟨k, by omega, rfl⟩
    · exact ⟨n - 1, by omega, by rw [hs, if_pos rfl]⟩
end heap

end Go.Proofs.Ytpnfkjbnhholfaa
