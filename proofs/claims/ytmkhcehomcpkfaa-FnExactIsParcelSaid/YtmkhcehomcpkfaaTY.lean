/- The data of this program as Lean types, and how they are held. -/
import Derived.Test.YtmkhcehomcpkfaaEngB
namespace Go.Proofs.Ytmkhcehomcpkfaa
open Go Go.Eng
set_option linter.unusedSimpArgs false
set_option linter.unusedVariables false
@[simp] def encLI (x : List Int) : D := .sl false 1 (.lit (.int .i64 0)) (ML dI x)
def yLI : D := encLI []
def wfLI (x : List Int) : Prop := x.length ≤ maxLen ∧ ∀ y ∈ x, inR .i64 y
theorem inj_I : ∀ x y : Int, dI x = dI y → x = y := by
  intro x y h
  simp [dI] at h
  first | exact h | simp [h] | (cases h; rfl)
@[simp] theorem ML_inj_I (l l' : List Int) : ML dI l = ML dI l' ↔ l = l' := ML_inj inj_I
@[simp] theorem ML_getD_I (l : List Int) (k : Nat) : (ML dI l).getD k (.lit (.int .i64 0)) = dI (l.getD k 0) := ML_getD l k 0
@[simp] theorem ML_get2_I (l : List Int) (k : Nat) : (ML dI l)[k]?.getD (.lit (.int .i64 0)) = dI (l.getD k 0) := by rw [← List.getD_eq_getElem?_getD]; exact ML_getD l k 0
@[simp] theorem ML_snoc_I (l : List Int) (a : Int) : ML dI l ++ [.lit (.int .i64 a)] = ML dI (l ++ [a]) := ML_snoc (enc := dI) l a
@[simp] theorem ML_cons_I (l : List Int) (a : Int) : .lit (.int .i64 a) :: ML dI l = ML dI (a :: l) := rfl
@[simp] theorem ML_set_I (l : List Int) (k : Nat) (a : Int) : (ML dI l).set k (.lit (.int .i64 a)) = ML dI (l.set k a) := ML_set (enc := dI) l k a
@[simp] theorem ML_rep_I (n : Nat) (a : Int) : List.replicate n (.lit (.int .i64 a) : D) = ML dI (List.replicate n a) := ML_rep (enc := dI) n a
@[simp] theorem ML_pure_I (l : List Int) : puresD (ML dI l) = true := ML_pure (fun x => by simp [pureD, puresD]) l
@[simp] theorem ML_flat_I (l : List Int) : flatDs (ML dI l) = true := ML_flat (fun x => by simp [flatD, flatDs]) l
structure TParcel where
  From : Int
  To : Int
  Things : List Int
  At : Int
instance : Inhabited TParcel := ⟨⟨default, default, default, default⟩⟩
instance : DecidableEq TParcel := fun a b => decidable_of_iff (a.From = b.From ∧ a.To = b.To ∧ a.Things = b.Things ∧ a.At = b.At) (by cases a; cases b; simp)
@[simp] theorem TParcel_eta (x : TParcel) : (⟨x.From, x.To, x.Things, x.At⟩ : TParcel) = x := rfl
@[simp] def encTParcel (x : TParcel) : D := .agg [.lit (.int .i64 x.From), .lit (.int .i64 x.To), .sl false 1 (.lit (.int .i64 0)) (ML dI x.Things), .lit (.int .i64 x.At)]
def yTParcel : D := encTParcel default
def wfTParcel (x : TParcel) : Prop := inR .i64 x.From ∧ inR .i64 x.To ∧ wfLI x.Things ∧ inR .i64 x.At
end Go.Proofs.Ytmkhcehomcpkfaa
