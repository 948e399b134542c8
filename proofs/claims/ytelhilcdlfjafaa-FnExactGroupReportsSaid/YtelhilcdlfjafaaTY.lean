/- The data of this program as Lean types, and how they are held. -/
import Derived.Test.YtelhilcdlfjafaaEngB
namespace Go.Proofs.Ytelhilcdlfjafaa
open Go Go.Eng
set_option linter.unusedSimpArgs false
set_option linter.unusedVariables false
/-- what the package variables hold -/
def glD : Nat → D
  | _ => .any
instance : HasG := ⟨glD⟩
@[simp] theorem gl_0 : HasG.gl 0 = .any := rfl
@[simp] theorem gl_1 : HasG.gl 1 = .any := rfl
@[simp] theorem gl_2 : HasG.gl 2 = .any := rfl
@[simp] theorem gl_3 : HasG.gl 3 = .any := rfl
@[simp] theorem gl_4 : HasG.gl 4 = .any := rfl
@[simp] theorem gl_5 : HasG.gl 5 = .any := rfl
@[simp] theorem gl_6 : HasG.gl 6 = .any := rfl
@[simp] theorem gl_7 : HasG.gl 7 = .any := rfl
@[simp] def encLI (x : List Int) : D := .sl false 1 (.lit (.int .i64 0)) (ML dI x)
def yLI : D := encLI []
def wfLI (x : List Int) : Prop := x.length ≤ maxLen ∧ ∀ y ∈ x, inR .i64 y
theorem inj_I : ∀ x y : Int, dI x = dI y → x = y := by
  intro x y h
  simp [dI] at h
  first | exact h | simp [h] | (cases h; rfl)
@[simp] theorem ML_inj_I (l l' : List Int) : ML dI l = ML dI l' ↔ l = l' := ML_inj inj_I
@[simp] theorem ML_getD_I (l : List Int) (k : Nat) : (ML dI l).getD k (.lit (.int .i64 0)) = dI (l.getD k 0) := ML_getD l k 0
@[simp] theorem ML_get2_I (l : List Int) (k : Nat) : (ML dI l)[k]?.getD (.lit (.int .i64 0)) = dI (l.getD k 0) := by rw [← List.getD_eq_getElem?_getD]; exact ML_getD l k 0
@[simp] theorem ML_snoc_I (l : List Int) (a : Int) : ML dI l ++ [.lit (.int .i64 a)] = ML dI (l ++ [a]) := ML_snoc (enc := dI) l a
@[simp] theorem ML_cons_I (l : List Int) (a : Int) : .lit (.int .i64 a) :: ML dI l = ML dI (a :: l) := rfl
@[simp] theorem ML_set_I (l : List Int) (k : Nat) (a : Int) : (ML dI l).set k (.lit (.int .i64 a)) = ML dI (l.set k a) := ML_set (enc := dI) l k a
@[simp] theorem ML_rep_I (n : Nat) (a : Int) : List.replicate n (.lit (.int .i64 a) : D) = ML dI (List.replicate n a) := ML_rep (enc := dI) n a
@[simp] theorem ML_pure_I (l : List Int) : puresD (ML dI l) = true := ML_pure (fun x => by simp [pureD, puresD]) l
@[simp] theorem ML_okS_I (l : List Int) : (ML dI l).all okS = true := ML_all (fun x => by simp [okS, cellsD, oneD, softD, Value.oneCell']) l
@[simp] theorem ML_flat_I (l : List Int) : flatDs (ML dI l) = true := ML_flat (fun x => by simp [flatD, flatDs]) l
structure TSpan where
  From : Int
  Until : Int
instance : Inhabited TSpan := ⟨⟨default, default⟩⟩
instance : DecidableEq TSpan := fun a b => decidable_of_iff (a.From = b.From ∧ a.Until = b.Until) (by cases a; cases b; simp)
@[simp] theorem TSpan_eta (x : TSpan) : (⟨x.From, x.Until⟩ : TSpan) = x := rfl
@[simp] def encTSpan (x : TSpan) : D := .agg [.lit (.int .i64 x.From), .lit (.int .i64 x.Until)]
def yTSpan : D := encTSpan default
def wfTSpan (x : TSpan) : Prop := inR .i64 x.From ∧ inR .i64 x.Until
structure TReport where
  Id : Int
  Kind : Int
  Colours : List Int
  SizeLow : Int
  SizeHigh : Int
  Places : List Int
  Span : TSpan
instance : Inhabited TReport := ⟨⟨default, default, default, default, default, default, default⟩⟩
instance : DecidableEq TReport := fun a b => decidable_of_iff (a.Id = b.Id ∧ a.Kind = b.Kind ∧ a.Colours = b.Colours ∧ a.SizeLow = b.SizeLow ∧ a.SizeHigh = b.SizeHigh ∧ a.Places = b.Places ∧ a.Span = b.Span) (by cases a; cases b; simp)
@[simp] theorem TReport_eta (x : TReport) : (⟨x.Id, x.Kind, x.Colours, x.SizeLow, x.SizeHigh, x.Places, x.Span⟩ : TReport) = x := rfl
@[simp] def encTReport (x : TReport) : D := .agg [.lit (.int .i64 x.Id), .lit (.int .i64 x.Kind), .sl false 1 (.lit (.int .i64 0)) (ML dI x.Colours), .lit (.int .i64 x.SizeLow), .lit (.int .i64 x.SizeHigh), .sl false 1 (.lit (.int .i64 0)) (ML dI x.Places), .lit (.int .i64 x.Span.From), .lit (.int .i64 x.Span.Until)]
def yTReport : D := encTReport default
def wfTReport (x : TReport) : Prop := inR .i64 x.Id ∧ inR .i64 x.Kind ∧ wfLI x.Colours ∧ inR .i64 x.SizeLow ∧ inR .i64 x.SizeHigh ∧ wfLI x.Places ∧ wfTSpan x.Span
@[simp] def encLTReport (x : List TReport) : D := .sl false 8 yTReport (ML encTReport x)
def yLTReport : D := encLTReport []
def wfLTReport (x : List TReport) : Prop := x.length ≤ maxLen ∧ ∀ y ∈ x, wfTReport y
theorem inj_TReport : ∀ x y : TReport, encTReport x = encTReport y → x = y := by
  intro x y h
  obtain ⟨x0, x1, x2, x3, x4, x5, ⟨x60, x61⟩⟩ := x
  obtain ⟨y0, y1, y2, y3, y4, y5, ⟨y60, y61⟩⟩ := y
  simp [encTReport] at h
  first | exact h | simp [h] | (cases h; rfl)
@[simp] theorem ML_inj_TReport (l l' : List TReport) : ML encTReport l = ML encTReport l' ↔ l = l' := ML_inj inj_TReport
@[simp] theorem ML_getD_TReport (l : List TReport) (k : Nat) : (ML encTReport l).getD k yTReport = encTReport (l.getD k default) := ML_getD l k default
@[simp] theorem ML_get2_TReport (l : List TReport) (k : Nat) : (ML encTReport l)[k]?.getD yTReport = encTReport (l.getD k default) := by rw [← List.getD_eq_getElem?_getD]; exact ML_getD l k default
@[simp] theorem ML_snoc_TReport (l : List TReport) (a0 : Int) (a1 : Int) (a2 : List Int) (a3 : Int) (a4 : Int) (a5 : List Int) (a60 : Int) (a61 : Int) : ML encTReport l ++ [.agg [.lit (.int .i64 a0), .lit (.int .i64 a1), .sl false 1 (.lit (.int .i64 0)) (ML dI a2), .lit (.int .i64 a3), .lit (.int .i64 a4), .sl false 1 (.lit (.int .i64 0)) (ML dI a5), .lit (.int .i64 a60), .lit (.int .i64 a61)]] = ML encTReport (l ++ [⟨a0, a1, a2, a3, a4, a5, ⟨a60, a61⟩⟩]) := ML_snoc (enc := encTReport) l ⟨a0, a1, a2, a3, a4, a5, ⟨a60, a61⟩⟩
@[simp] theorem ML_cons_TReport (l : List TReport) (a0 : Int) (a1 : Int) (a2 : List Int) (a3 : Int) (a4 : Int) (a5 : List Int) (a60 : Int) (a61 : Int) : .agg [.lit (.int .i64 a0), .lit (.int .i64 a1), .sl false 1 (.lit (.int .i64 0)) (ML dI a2), .lit (.int .i64 a3), .lit (.int .i64 a4), .sl false 1 (.lit (.int .i64 0)) (ML dI a5), .lit (.int .i64 a60), .lit (.int .i64 a61)] :: ML encTReport l = ML encTReport (⟨a0, a1, a2, a3, a4, a5, ⟨a60, a61⟩⟩ :: l) := rfl
@[simp] theorem ML_set_TReport (l : List TReport) (k : Nat) (a0 : Int) (a1 : Int) (a2 : List Int) (a3 : Int) (a4 : Int) (a5 : List Int) (a60 : Int) (a61 : Int) : (ML encTReport l).set k (.agg [.lit (.int .i64 a0), .lit (.int .i64 a1), .sl false 1 (.lit (.int .i64 0)) (ML dI a2), .lit (.int .i64 a3), .lit (.int .i64 a4), .sl false 1 (.lit (.int .i64 0)) (ML dI a5), .lit (.int .i64 a60), .lit (.int .i64 a61)]) = ML encTReport (l.set k ⟨a0, a1, a2, a3, a4, a5, ⟨a60, a61⟩⟩) := ML_set (enc := encTReport) l k ⟨a0, a1, a2, a3, a4, a5, ⟨a60, a61⟩⟩
@[simp] theorem ML_rep_TReport (n : Nat) (a0 : Int) (a1 : Int) (a2 : List Int) (a3 : Int) (a4 : Int) (a5 : List Int) (a60 : Int) (a61 : Int) : List.replicate n (.agg [.lit (.int .i64 a0), .lit (.int .i64 a1), .sl false 1 (.lit (.int .i64 0)) (ML dI a2), .lit (.int .i64 a3), .lit (.int .i64 a4), .sl false 1 (.lit (.int .i64 0)) (ML dI a5), .lit (.int .i64 a60), .lit (.int .i64 a61)] : D) = ML encTReport (List.replicate n ⟨a0, a1, a2, a3, a4, a5, ⟨a60, a61⟩⟩) := ML_rep (enc := encTReport) n ⟨a0, a1, a2, a3, a4, a5, ⟨a60, a61⟩⟩
@[simp] theorem ML_pure_TReport (l : List TReport) : puresD (ML encTReport l) = true := ML_pure (fun x => by simp [pureD, puresD]) l
@[simp] theorem ML_okS_TReport (l : List TReport) : (ML encTReport l).all okS = true := ML_all (fun x => by simp [okS, cellsD, oneD, softD, Value.oneCell']) l
structure TMeeting where
  with_ : TSpan
instance : Inhabited TMeeting := ⟨⟨default⟩⟩
instance : DecidableEq TMeeting := fun a b => decidable_of_iff (a.with_ = b.with_) (by cases a; cases b; simp)
@[simp] theorem TMeeting_eta (x : TMeeting) : (⟨x.with_⟩ : TMeeting) = x := rfl
@[simp] def encTMeeting (x : TMeeting) : D := .agg [.lit (.int .i64 x.with_.From), .lit (.int .i64 x.with_.Until)]
def yTMeeting : D := encTMeeting default
def wfTMeeting (x : TMeeting) : Prop := wfTSpan x.with_
structure TWidening where
  by_ : Int
instance : Inhabited TWidening := ⟨⟨default⟩⟩
instance : DecidableEq TWidening := fun a b => decidable_of_iff (a.by_ = b.by_) (by cases a; cases b; simp)
@[simp] theorem TWidening_eta (x : TWidening) : (⟨x.by_⟩ : TWidening) = x := rfl
@[simp] def encTWidening (x : TWidening) : D := .agg [.lit (.int .i64 x.by_)]
def yTWidening : D := encTWidening default
def wfTWidening (x : TWidening) : Prop := inR .i64 x.by_
end Go.Proofs.Ytelhilcdlfjafaa
