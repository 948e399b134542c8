/- The data of this program as Lean types, and how they are held. -/
import Derived.Test.YtjileabfehepmaaEngB
namespace Go.Proofs.Ytjileabfehepmaa
open Go Go.Eng
set_option linter.unusedSimpArgs false
set_option linter.unusedVariables false
/-- what the package variables hold -/
def glD : Nat → D
  | _ => .any
instance : HasG := ⟨glD⟩
@[simp] theorem gl_0 : HasG.gl 0 = .any := rfl
@[simp] theorem gl_1 : HasG.gl 1 = .any := rfl
@[simp] theorem gl_2 : HasG.gl 2 = .any := rfl
@[simp] theorem gl_3 : HasG.gl 3 = .any := rfl
@[simp] theorem gl_4 : HasG.gl 4 = .any := rfl
@[simp] theorem gl_5 : HasG.gl 5 = .any := rfl
@[simp] theorem gl_6 : HasG.gl 6 = .any := rfl
@[simp] theorem gl_7 : HasG.gl 7 = .any := rfl
@[simp] def encLU (x : List Int) : D := .sl false 1 (.lit (.int .u8 0)) (ML dU x)
def yLU : D := encLU []
def wfLU (x : List Int) : Prop := x.length ≤ maxLen ∧ ∀ y ∈ x, inR .u8 y
theorem inj_U : ∀ x y : Int, dU x = dU y → x = y := by
  intro x y h
  simp [dI] at h
  first | exact h | simp [h] | (cases h; rfl)
@[simp] theorem ML_inj_U (l l' : List Int) : ML dU l = ML dU l' ↔ l = l' := ML_inj inj_U
@[simp] theorem ML_getD_U (l : List Int) (k : Nat) : (ML dU l).getD k (.lit (.int .u8 0)) = dU (l.getD k 0) := ML_getD l k 0
@[simp] theorem ML_get2_U (l : List Int) (k : Nat) : (ML dU l)[k]?.getD (.lit (.int .u8 0)) = dU (l.getD k 0) := by rw [← List.getD_eq_getElem?_getD]; exact ML_getD l k 0
@[simp] theorem ML_snoc_U (l : List Int) (a : Int) : ML dU l ++ [.lit (.int .u8 a)] = ML dU (l ++ [a]) := ML_snoc (enc := dU) l a
@[simp] theorem ML_cons_U (l : List Int) (a : Int) : .lit (.int .u8 a) :: ML dU l = ML dU (a :: l) := rfl
@[simp] theorem ML_set_U (l : List Int) (k : Nat) (a : Int) : (ML dU l).set k (.lit (.int .u8 a)) = ML dU (l.set k a) := ML_set (enc := dU) l k a
@[simp] theorem ML_rep_U (n : Nat) (a : Int) : List.replicate n (.lit (.int .u8 a) : D) = ML dU (List.replicate n a) := ML_rep (enc := dU) n a
@[simp] theorem ML_pure_U (l : List Int) : puresD (ML dU l) = true := ML_pure (fun x => by simp [pureD, puresD]) l
@[simp] theorem ML_flat_U (l : List Int) : flatDs (ML dU l) = true := ML_flat (fun x => by simp [flatD, flatDs]) l
end Go.Proofs.Ytjileabfehepmaa
