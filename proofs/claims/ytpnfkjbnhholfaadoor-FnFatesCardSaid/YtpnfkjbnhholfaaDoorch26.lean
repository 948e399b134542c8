/- Contracts of the functions that the laws run. -/
import Derived.Test.YtpnfkjbnhholfaaDoorhelpA
import Derived.Test.YtpnfkjbnhholfaaDoorbits
import Derived.Test.YtpnfkjbnhholfaaDoorEngB
namespace Go.Proofs.YtpnfkjbnhholfaaDoor
open Go Go.Eng
set_option linter.unusedSimpArgs false
set_option linter.unusedVariables false
set_option maxRecDepth 10000
set_option maxHeartbeats 1000000
noncomputable def wkT (l : List Bool) : Nat → Int
  | 0 => 0
  | p + 1 => if l[p]?.getD false then orK .u8 (wkT l p) (shlK .u8 1 p) else wkT l p
def wkC (l : List Bool) : Nat → Int
  | 0 => 0
  | p + 1 => if l[p]?.getD false then IntKind.u8.wrap (BitVec.ofInt IntKind.u8.bits (wkC l p) ||| BitVec.ofInt IntKind.u8.bits (IntKind.u8.wrap (1 * 2 ^ (min p IntKind.u8.bits)))).toNat else wkC l p
theorem wk_eq (l : List Bool) : ∀ p, wkT l p = wkC l p
  | 0 => rfl
  | p + 1 => by
    simp only [wkT, wkC, wk_eq l p, orK_eq, shlK_eq, Int.toNat_natCast]
theorem wk_all : ∀ a b c d e f g : Bool, ∀ i : Fin 7, ((IntKind.u8.wrap (BitVec.ofInt IntKind.u8.bits ((wkC [a, b, c, d, e, f, g] 7).fdiv (2 ^ (min i.val IntKind.u8.bits))) &&& BitVec.ofInt IntKind.u8.bits 1).toNat = 1) ↔ [a, b, c, d, e, f, g][i.val]?.getD false = true) ∧ (wkC [a, b, c, d, e, f, g] 7 = 0 ↔ (a || b || c || d || e || f || g) = false) ∧ 0 ≤ wkC [a, b, c, d, e, f, g] 7 := by decide +kernel
theorem seven {l : List Bool} (h : l.length = 7) : ∃ a b c d e f g, l = [a, b, c, d, e, f, g] := by
  match l, h with
  | [a, b, c, d, e, f, g], _ => exact ⟨a, b, c, d, e, f, g, rfl⟩
theorem wk_has {l : List Bool} (h : l.length = 7) {i : Nat} (hi : i < 7) : (andK .u8 (shrK .u8 (wkT l 7) i) 1 = 1) ↔ l[i]?.getD false = true := by
  obtain ⟨a, b, c, d, e, f, g, rfl⟩ := seven h
  have := (wk_all a b c d e f g ⟨i, hi⟩).1
  rw [andK_eq, shrK_eq, wk_eq, Int.toNat_natCast]; exact this
theorem wk_zero {l : List Bool} (h : l.length = 7) : wkT l 7 = 0 ↔ l.any id = false := by
  obtain ⟨a, b, c, d, e, f, g, rfl⟩ := seven h
  have := (wk_all a b c d e f g ⟨0, by omega⟩).2.1
  rw [wk_eq, this]; simp [Bool.or_assoc]
def isO (l : List Bool) (d : Int) : Bool := l[(d % 7).toNat]?.getD false
def nxF (l : List Bool) : Nat → Int → Int
  | 0, d => d
  | f + 1, d => if isO l d then d else nxF l f (d + 1)
def nxO (l : List Bool) (d : Int) : Int := nxF l 7 d
theorem nxF_ge (l : List Bool) : ∀ (f : Nat) (d : Int), d ≤ nxF l f d ∧ nxF l f d ≤ d + f
  | 0, d => by simp [nxF]
  | f + 1, d => by
    simp only [nxF]; split
    · omega
    · have := nxF_ge l f (d + 1); push_cast; omega
theorem nxF_hit (l : List Bool) : ∀ (f : Nat) (d : Int) (k : Nat), k < f → isO l (d + k) = true → isO l (nxF l f d) = true
  | 0, _, k, h, _ => by omega
  | f + 1, d, k, h, hk => by
    simp only [nxF]; split
    · assumption
    · rename_i hn
      cases k with
      | zero => simp at hk; exact absurd hk hn
      | succ k => exact nxF_hit l f (d + 1) k (by omega) (by push_cast at hk; rw [Int.add_assoc, Int.add_comm 1]; exact hk)
theorem any_hit {l : List Bool} (h7 : l.length = 7) (h : l.any id = true) (d : Int) : ∃ k : Nat, k < 7 ∧ isO l (d + k) = true := by
  rw [List.any_eq_true] at h
  obtain ⟨b, hb, hbt⟩ := h
  obtain ⟨i, hi, rfl⟩ := List.mem_iff_getElem.1 hb
  refine ⟨((i - d) % 7).toNat, by omega, ?_⟩
  have e : (d + (((i - d) % 7).toNat : Int)) % 7 = i := by omega
  rw [isO, e]; simp only [Int.toNat_natCast]
  rw [List.getElem?_eq_getElem hi]; exact hbt
theorem nxO_hit {l : List Bool} (h7 : l.length = 7) (h : l.any id = true) (d : Int) : isO l (nxO l d) = true := by
  obtain ⟨k, hk, hk2⟩ := any_hit h7 h d
  exact nxF_hit l 7 d k hk hk2
theorem nxF_more (l : List Bool) : ∀ (f : Nat) (d : Int), isO l (nxF l f d) = true → nxF l (f + 1) d = nxF l f d
  | 0, d, h => by simp only [nxF] at h ⊢; rw [if_pos h]
  | f + 1, d, h => by
    rw [nxF]; conv => rhs; rw [nxF]
    simp only [nxF] at h
    split
    · rfl
    · rename_i hn
      rw [if_neg hn] at h
      exact nxF_more l f (d + 1) h
theorem nxO_at {l : List Bool} (h7 : l.length = 7) (h : l.any id = true) (d : Int) : nxO l d = if isO l d then d else nxO l (d + 1) := by
  have h1 := nxF_more l 7 d (nxO_hit h7 h d)
  rw [nxO, ← h1, nxF]; rfl
theorem nxO_ge (l : List Bool) (d : Int) : d ≤ nxO l d ∧ nxO l d ≤ d + 7 := nxF_ge l 7 d
def isCal (l : List Bool) : Bool := decide (l.length = 7) && l.any id
theorem tm7 {d : Int} (h : 0 ≤ d) : d.tmod 7 = d % 7 := Int.tmod_eq_emod_of_nonneg h
theorem has_eq {l : List Bool} (h : l.length = 7) {d : Int} (hd : 0 ≤ d) : decide (andK .u8 (shrK .u8 (wkT l 7) (d % 7)) 1 = 1) = isO l d := by
  have := wk_has h (i := (d % 7).toNat) (by omega)
  rw [Int.toNat_of_nonneg (by omega)] at this
  rw [Bool.eq_iff_iff, decide_eq_true_eq, this]; rfl
theorem isCal_iff {l : List Bool} : isCal l = true ↔ l.length = 7 ∧ l.any id = true := by simp [isCal]
def mNext (l : List Bool) (d : Int) : Int := if isCal l && mIn d 0 100000 then nxO l d else -1
noncomputable def isOw (w d : Int) : Bool := decide (andK .u8 (shrK .u8 w (d % 7)) 1 = 1)
noncomputable def nxFw (w : Int) : Nat → Int → Int
  | 0, d => d
  | f + 1, d => if isOw w d then d else nxFw w f (d + 1)
noncomputable def nxOw (w d : Int) : Int := nxFw w 7 d
theorem nxFw_eq {l : List Bool} (h : l.length = 7) : ∀ (f : Nat) (d : Int), 0 ≤ d → nxFw (wkT l 7) f d = nxF l f d
  | 0, d, _ => rfl
  | f + 1, d, hd => by
    have he : isOw (wkT l 7) d = isO l d := has_eq h hd
    simp only [nxFw, nxF, he, nxFw_eq h f (d + 1) (by omega)]
theorem nxOw_eq {l : List Bool} (h : l.length = 7) {d : Int} (hd : 0 ≤ d) : nxOw (wkT l 7) d = nxO l d := nxFw_eq h 7 d hd
def addD (l : List Bool) : Nat → Int → Int
  | 0, d => d
  | k + 1, d => nxO l (addD l k d + 1)
theorem addD_bd (l : List Bool) (d : Int) : ∀ k : Nat, d + k ≤ addD l k d ∧ addD l k d ≤ d + 8 * k
  | 0 => by simp [addD]
  | k + 1 => by
    have h1 := addD_bd l d k
    have h2 := nxO_ge l (addD l k d + 1)
    simp only [addD]; omega
theorem addD_mono (l : List Bool) (d : Int) (k : Nat) : ∀ j : Nat, addD l k d + j ≤ addD l (k + j) d
  | 0 => by simp
  | j + 1 => by
    have h1 := addD_mono l d k j
    have h2 := nxO_ge l (addD l (k + j) d + 1)
    rw [show k + (j + 1) = (k + j) + 1 from rfl, addD]; omega
def mAddD (l : List Bool) (d n : Int) : Int := if isCal l && mIn d 0 100000 && mIn n 0 1000 then (if n = 0 then nxO l d else addD l n.toNat d) else -1
end Go.Proofs.YtpnfkjbnhholfaaDoor
