/- Contracts of the functions that the laws run. -/
import Derived.Test.Ytdbhfkbfajljpaach01a
import Derived.Test.YtdbhfkbfajljpaaEngB
namespace Go.Proofs.Ytdbhfkbfajljpaa
open Go Go.Eng
set_option linter.unusedSimpArgs false
set_option linter.unusedVariables false
set_option maxRecDepth 10000
set_option maxHeartbeats 1000000
def gen {α : Type} (f : Nat → α) (n : Nat) : List α := (List.range n).map f
@[simp] theorem gen_len {α : Type} (f : Nat → α) (n : Nat) : (gen f n).length = n := by simp [gen]
@[simp] theorem gen_zero {α : Type} (f : Nat → α) : gen f 0 = [] := rfl
theorem gen_succ {α : Type} (f : Nat → α) (n : Nat) : gen f (n + 1) = gen f n ++ [f n] := by simp [gen, List.range_succ]
theorem gen_get {α : Type} {f : Nat → α} {n p : Nat} {d : α} (h : p < n) : (gen f n)[p]?.getD d = f p := by simp [gen, h]
theorem gen_fill {α : Type} {f : Nat → α} {d : α} {n p : Nat} (h : p < n) : (gen f p ++ List.replicate (n - p) d).set p (f p) = gen f (p + 1) ++ List.replicate (n - (p + 1)) d := by
  rw [List.set_append_right _ _ (by simp)]
  obtain ⟨k, hk⟩ : ∃ k, n - p = k + 1 := ⟨n - p - 1, by omega⟩
  have hk2 : n - (p + 1) = k := by omega
  rw [gen_len, Nat.sub_self, hk, hk2, List.replicate_succ, List.set_cons_zero, gen_succ]; simp
theorem gen_fill0 {α : Type} {f : Nat → α} {d : α} {n p : Nat} (h : p < n) : gen f p ++ (List.replicate (n - p) d).set 0 (f p) = gen f (p + 1) ++ List.replicate (n - (p + 1)) d := by
  obtain ⟨k, hk⟩ : ∃ k, n - p = k + 1 := ⟨n - p - 1, by omega⟩
  have hk2 : n - (p + 1) = k := by omega
  rw [hk, hk2, List.replicate_succ, List.set_cons_zero, gen_succ]; simp
theorem gen_full {α : Type} {f : Nat → α} {d : α} {n p : Nat} (h : n ≤ p) (h2 : p ≤ n) : gen f p ++ List.replicate (n - p) d = gen f n := by
  have : p = n := by omega
  subst this; simp
theorem wrap_u8 {n : Int} : IntKind.wrap .u8 n = n % 256 := by simp [IntKind.wrap, IntKind.signed, IntKind.bits]
def szRun {α : Type} (f : α → Int → Int) : Int → List α → Int
  | q, [] => q
  | q, x :: r => if f x q < 0 then -1 else szRun f (f x q) r
def szDeep {α : Type} (f : α → Int → Int) (l : List α) (left : Int) : Int := if left - l.length < 0 then -1 else szRun f (left - l.length) l
theorem szRun_at {α : Type} {f : α → Int → Int} {q : Int} {l : List α} {p : Nat} {d : α} (h : p < l.length) : szRun f q (l.drop p) = if f (l[p]?.getD d) q < 0 then -1 else szRun f (f (l[p]?.getD d) q) (l.drop (p + 1)) := by
  rw [drop_at (d := d) h, szRun]
theorem szRun_end {α : Type} {f : α → Int → Int} {q : Int} {l : List α} {p : Nat} (h : l.length ≤ p) : szRun f q (l.drop p) = q := by
  rw [List.drop_eq_nil_of_le h, szRun]
theorem szRun_all {α : Type} {f : α → Int → Int} {R : Int → α → Prop} (h : ∀ x q, 0 ≤ f x q → f x q ≤ q ∧ R q x) (hm : ∀ a b x, a ≤ b → R a x → R b x) : ∀ (l : List α) (q : Int), 0 ≤ szRun f q l → szRun f q l ≤ q ∧ ∀ x ∈ l, R q x
  | [], q, _ => ⟨Int.le_refl _, by simp⟩
  | x :: l, q, h0 => by
    simp only [szRun] at h0 ⊢
    split at h0
    · omega
    · rename_i hn
      have h1 := h x q (by omega)
      have h2 := szRun_all h hm l _ h0
      rw [if_neg hn]
      refine ⟨by omega, fun y hy => ?_⟩
      rcases List.mem_cons.1 hy with rfl | hy
      · exact h1.2
      · exact hm _ _ _ h1.1 (h2.2 y hy)
theorem szDeep_all {α : Type} {f : α → Int → Int} {R : Int → α → Prop} (h : ∀ x q, 0 ≤ f x q → f x q ≤ q ∧ R q x) (hm : ∀ a b x, a ≤ b → R a x → R b x) {l : List α} {left : Int} (h0 : 0 ≤ szDeep f l left) : l.length ≤ left ∧ szDeep f l left ≤ left ∧ ∀ x ∈ l, R left x := by
  simp only [szDeep] at h0 ⊢
  split at h0
  · omega
  · rename_i hn
    have h1 := szRun_all h hm l _ h0
    rw [if_neg hn]
    exact ⟨by omega, by omega, fun x hx => hm _ _ _ (by omega) (h1.2 x hx)⟩
theorem fillZ {α : Type} {e : α → D} {l : List α} {z d : D} {p : Nat} (h : p < l.length) : (ML e (l.take p) ++ List.replicate (l.length - p) z)[p]?.getD d = z := by
  have h1 : (ML e (l.take p)).length = p := by simp; omega
  rw [List.getElem?_append_right (by omega), h1, Nat.sub_self]
  obtain ⟨k, hk⟩ : ∃ k, l.length - p = k + 1 := ⟨l.length - p - 1, by omega⟩
  rw [hk]; simp
theorem fillS {α : Type} {e : α → D} {l : List α} {z x : D} {d : α} {p : Nat} (h : p < l.length) (hx : x = e (l[p]?.getD d)) : (ML e (l.take p) ++ List.replicate (l.length - p) z).set p x = ML e (l.take (p + 1)) ++ List.replicate (l.length - (p + 1)) z := by
  have h1 : (ML e (l.take p)).length = p := by simp; omega
  rw [List.set_append_right _ _ (by omega), h1, Nat.sub_self]
  obtain ⟨k, hk⟩ : ∃ k, l.length - p = k + 1 := ⟨l.length - p - 1, by omega⟩
  have hk2 : l.length - (p + 1) = k := by omega
  rw [hk, hk2, List.replicate_succ, List.set_cons_zero, take_at (d := d) h, ← ML_app]; subst hx; simp [ML]

end Go.Proofs.Ytdbhfkbfajljpaa
