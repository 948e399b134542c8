/- The data of this program as Lean types, and how they are held. -/
import Derived.Test.YtlnllkffifeggaaEngB
namespace Go.Proofs.Ytlnllkffifeggaa
open Go Go.Eng
set_option linter.unusedSimpArgs false
set_option linter.unusedVariables false
/-- what the package variables hold -/
def glD : Nat → D
  | _ => .any
instance : HasG := ⟨glD⟩
@[simp] theorem gl_0 : HasG.gl 0 = .any := rfl
@[simp] theorem gl_1 : HasG.gl 1 = .any := rfl
@[simp] theorem gl_2 : HasG.gl 2 = .any := rfl
@[simp] theorem gl_3 : HasG.gl 3 = .any := rfl
@[simp] theorem gl_4 : HasG.gl 4 = .any := rfl
@[simp] theorem gl_5 : HasG.gl 5 = .any := rfl
@[simp] theorem gl_6 : HasG.gl 6 = .any := rfl
@[simp] theorem gl_7 : HasG.gl 7 = .any := rfl
structure THand where
  Thing : Int
  Holder : Int
  Who : Int
  At : Int
  Seal : Int
instance : Inhabited THand := ⟨⟨default, default, default, default, default⟩⟩
instance : DecidableEq THand := fun a b => decidable_of_iff (a.Thing = b.Thing ∧ a.Holder = b.Holder ∧ a.Who = b.Who ∧ a.At = b.At ∧ a.Seal = b.Seal) (by cases a; cases b; simp)
@[simp] theorem THand_eta (x : THand) : (⟨x.Thing, x.Holder, x.Who, x.At, x.Seal⟩ : THand) = x := rfl
@[simp] def encTHand (x : THand) : D := .agg [.lit (.int .i64 x.Thing), .lit (.int .i64 x.Holder), .lit (.int .i64 x.Who), .lit (.int .i64 x.At), .lit (.int .i64 x.Seal)]
def yTHand : D := encTHand default
def wfTHand (x : THand) : Prop := inR .i64 x.Thing ∧ inR .i64 x.Holder ∧ inR .i64 x.Who ∧ inR .i64 x.At ∧ inR .i64 x.Seal
@[simp] def encLTHand (x : List THand) : D := .sl false 5 yTHand (ML encTHand x)
def yLTHand : D := encLTHand []
def wfLTHand (x : List THand) : Prop := x.length ≤ maxLen ∧ ∀ y ∈ x, wfTHand y
theorem inj_THand : ∀ x y : THand, encTHand x = encTHand y → x = y := by
  intro x y h
  obtain ⟨x0, x1, x2, x3, x4⟩ := x
  obtain ⟨y0, y1, y2, y3, y4⟩ := y
  simp [encTHand] at h
  first | exact h | simp [h] | (cases h; rfl)
@[simp] theorem ML_inj_THand (l l' : List THand) : ML encTHand l = ML encTHand l' ↔ l = l' := ML_inj inj_THand
@[simp] theorem ML_getD_THand (l : List THand) (k : Nat) : (ML encTHand l).getD k yTHand = encTHand (l.getD k default) := ML_getD l k default
@[simp] theorem ML_get2_THand (l : List THand) (k : Nat) : (ML encTHand l)[k]?.getD yTHand = encTHand (l.getD k default) := by rw [← List.getD_eq_getElem?_getD]; exact ML_getD l k default
@[simp] theorem ML_snoc_THand (l : List THand) (a0 : Int) (a1 : Int) (a2 : Int) (a3 : Int) (a4 : Int) : ML encTHand l ++ [.agg [.lit (.int .i64 a0), .lit (.int .i64 a1), .lit (.int .i64 a2), .lit (.int .i64 a3), .lit (.int .i64 a4)]] = ML encTHand (l ++ [⟨a0, a1, a2, a3, a4⟩]) := ML_snoc (enc := encTHand) l ⟨a0, a1, a2, a3, a4⟩
@[simp] theorem ML_cons_THand (l : List THand) (a0 : Int) (a1 : Int) (a2 : Int) (a3 : Int) (a4 : Int) : .agg [.lit (.int .i64 a0), .lit (.int .i64 a1), .lit (.int .i64 a2), .lit (.int .i64 a3), .lit (.int .i64 a4)] :: ML encTHand l = ML encTHand (⟨a0, a1, a2, a3, a4⟩ :: l) := rfl
@[simp] theorem ML_set_THand (l : List THand) (k : Nat) (a0 : Int) (a1 : Int) (a2 : Int) (a3 : Int) (a4 : Int) : (ML encTHand l).set k (.agg [.lit (.int .i64 a0), .lit (.int .i64 a1), .lit (.int .i64 a2), .lit (.int .i64 a3), .lit (.int .i64 a4)]) = ML encTHand (l.set k ⟨a0, a1, a2, a3, a4⟩) := ML_set (enc := encTHand) l k ⟨a0, a1, a2, a3, a4⟩
@[simp] theorem ML_rep_THand (n : Nat) (a0 : Int) (a1 : Int) (a2 : Int) (a3 : Int) (a4 : Int) : List.replicate n (.agg [.lit (.int .i64 a0), .lit (.int .i64 a1), .lit (.int .i64 a2), .lit (.int .i64 a3), .lit (.int .i64 a4)] : D) = ML encTHand (List.replicate n ⟨a0, a1, a2, a3, a4⟩) := ML_rep (enc := encTHand) n ⟨a0, a1, a2, a3, a4⟩
@[simp] theorem ML_pure_THand (l : List THand) : puresD (ML encTHand l) = true := ML_pure (fun x => by simp [pureD, puresD]) l
@[simp] theorem ML_flat_THand (l : List THand) : flatDs (ML encTHand l) = true := ML_flat (fun x => by simp [flatD, flatDs]) l
@[simp] def encLI (x : List Int) : D := .sl false 1 (.lit (.int .i64 0)) (ML dI x)
def yLI : D := encLI []
def wfLI (x : List Int) : Prop := x.length ≤ maxLen ∧ ∀ y ∈ x, inR .i64 y
theorem inj_I : ∀ x y : Int, dI x = dI y → x = y := by
  intro x y h
  simp [dI] at h
  first | exact h | simp [h] | (cases h; rfl)
@[simp] theorem ML_inj_I (l l' : List Int) : ML dI l = ML dI l' ↔ l = l' := ML_inj inj_I
@[simp] theorem ML_getD_I (l : List Int) (k : Nat) : (ML dI l).getD k (.lit (.int .i64 0)) = dI (l.getD k 0) := ML_getD l k 0
@[simp] theorem ML_get2_I (l : List Int) (k : Nat) : (ML dI l)[k]?.getD (.lit (.int .i64 0)) = dI (l.getD k 0) := by rw [← List.getD_eq_getElem?_getD]; exact ML_getD l k 0
@[simp] theorem ML_snoc_I (l : List Int) (a : Int) : ML dI l ++ [.lit (.int .i64 a)] = ML dI (l ++ [a]) := ML_snoc (enc := dI) l a
@[simp] theorem ML_cons_I (l : List Int) (a : Int) : .lit (.int .i64 a) :: ML dI l = ML dI (a :: l) := rfl
@[simp] theorem ML_set_I (l : List Int) (k : Nat) (a : Int) : (ML dI l).set k (.lit (.int .i64 a)) = ML dI (l.set k a) := ML_set (enc := dI) l k a
@[simp] theorem ML_rep_I (n : Nat) (a : Int) : List.replicate n (.lit (.int .i64 a) : D) = ML dI (List.replicate n a) := ML_rep (enc := dI) n a
@[simp] theorem ML_pure_I (l : List Int) : puresD (ML dI l) = true := ML_pure (fun x => by simp [pureD, puresD]) l
@[simp] theorem ML_flat_I (l : List Int) : flatDs (ML dI l) = true := ML_flat (fun x => by simp [flatD, flatDs]) l
structure TParcel where
  From : Int
  To : Int
  Things : List Int
  At : Int
instance : Inhabited TParcel := ⟨⟨default, default, default, default⟩⟩
instance : DecidableEq TParcel := fun a b => decidable_of_iff (a.From = b.From ∧ a.To = b.To ∧ a.Things = b.Things ∧ a.At = b.At) (by cases a; cases b; simp)
@[simp] theorem TParcel_eta (x : TParcel) : (⟨x.From, x.To, x.Things, x.At⟩ : TParcel) = x := rfl
@[simp] def encTParcel (x : TParcel) : D := .agg [.lit (.int .i64 x.From), .lit (.int .i64 x.To), .sl false 1 (.lit (.int .i64 0)) (ML dI x.Things), .lit (.int .i64 x.At)]
def yTParcel : D := encTParcel default
def wfTParcel (x : TParcel) : Prop := inR .i64 x.From ∧ inR .i64 x.To ∧ wfLI x.Things ∧ inR .i64 x.At
end Go.Proofs.Ytlnllkffifeggaa
