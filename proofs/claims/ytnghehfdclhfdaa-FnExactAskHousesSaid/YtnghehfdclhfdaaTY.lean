/- The data of this program as Lean types, and how they are held. -/
import Derived.Test.YtnghehfdclhfdaaEngB
namespace Go.Proofs.Ytnghehfdclhfdaa
open Go Go.Eng
set_option linter.unusedSimpArgs false
set_option linter.unusedVariables false
/-- what the package variables hold -/
def glD : Nat → D
  | _ => .any
instance : HasG := ⟨glD⟩
@[simp] theorem gl_0 : HasG.gl 0 = .any := rfl
@[simp] theorem gl_1 : HasG.gl 1 = .any := rfl
@[simp] theorem gl_2 : HasG.gl 2 = .any := rfl
@[simp] theorem gl_3 : HasG.gl 3 = .any := rfl
@[simp] theorem gl_4 : HasG.gl 4 = .any := rfl
@[simp] theorem gl_5 : HasG.gl 5 = .any := rfl
@[simp] theorem gl_6 : HasG.gl 6 = .any := rfl
@[simp] theorem gl_7 : HasG.gl 7 = .any := rfl
structure TThing where
  Id : Int
  Kind : Int
  Colour : Int
  Size : Int
  Worth : Int
instance : Inhabited TThing := ⟨⟨default, default, default, default, default⟩⟩
instance : DecidableEq TThing := fun a b => decidable_of_iff (a.Id = b.Id ∧ a.Kind = b.Kind ∧ a.Colour = b.Colour ∧ a.Size = b.Size ∧ a.Worth = b.Worth) (by cases a; cases b; simp)
@[simp] theorem TThing_eta (x : TThing) : (⟨x.Id, x.Kind, x.Colour, x.Size, x.Worth⟩ : TThing) = x := rfl
@[simp] def encTThing (x : TThing) : D := .agg [.lit (.int .i64 x.Id), .lit (.int .i64 x.Kind), .lit (.int .i64 x.Colour), .lit (.int .i64 x.Size), .lit (.int .i64 x.Worth)]
def yTThing : D := encTThing default
def wfTThing (x : TThing) : Prop := inR .i64 x.Id ∧ inR .i64 x.Kind ∧ inR .i64 x.Colour ∧ inR .i64 x.Size ∧ inR .i64 x.Worth
structure TFind where
  Thing : TThing
  Place : Int
  At : Int
  Finder : Int
instance : Inhabited TFind := ⟨⟨default, default, default, default⟩⟩
instance : DecidableEq TFind := fun a b => decidable_of_iff (a.Thing = b.Thing ∧ a.Place = b.Place ∧ a.At = b.At ∧ a.Finder = b.Finder) (by cases a; cases b; simp)
@[simp] theorem TFind_eta (x : TFind) : (⟨x.Thing, x.Place, x.At, x.Finder⟩ : TFind) = x := rfl
@[simp] def encTFind (x : TFind) : D := .agg [.lit (.int .i64 x.Thing.Id), .lit (.int .i64 x.Thing.Kind), .lit (.int .i64 x.Thing.Colour), .lit (.int .i64 x.Thing.Size), .lit (.int .i64 x.Thing.Worth), .lit (.int .i64 x.Place), .lit (.int .i64 x.At), .lit (.int .i64 x.Finder)]
def yTFind : D := encTFind default
def wfTFind (x : TFind) : Prop := wfTThing x.Thing ∧ inR .i64 x.Place ∧ inR .i64 x.At ∧ inR .i64 x.Finder
@[simp] def encLI (x : List Int) : D := .sl false 1 (.lit (.int .i64 0)) (ML dI x)
def yLI : D := encLI []
def wfLI (x : List Int) : Prop := x.length ≤ maxLen ∧ ∀ y ∈ x, inR .i64 y
theorem inj_I : ∀ x y : Int, dI x = dI y → x = y := by
  intro x y h
  simp [dI] at h
  first | exact h | simp [h] | (cases h; rfl)
@[simp] theorem ML_inj_I (l l' : List Int) : ML dI l = ML dI l' ↔ l = l' := ML_inj inj_I
@[simp] theorem ML_getD_I (l : List Int) (k : Nat) : (ML dI l).getD k (.lit (.int .i64 0)) = dI (l.getD k 0) := ML_getD l k 0
@[simp] theorem ML_get2_I (l : List Int) (k : Nat) : (ML dI l)[k]?.getD (.lit (.int .i64 0)) = dI (l.getD k 0) := by rw [← List.getD_eq_getElem?_getD]; exact ML_getD l k 0
@[simp] theorem ML_snoc_I (l : List Int) (a : Int) : ML dI l ++ [.lit (.int .i64 a)] = ML dI (l ++ [a]) := ML_snoc (enc := dI) l a
@[simp] theorem ML_cons_I (l : List Int) (a : Int) : .lit (.int .i64 a) :: ML dI l = ML dI (a :: l) := rfl
@[simp] theorem ML_set_I (l : List Int) (k : Nat) (a : Int) : (ML dI l).set k (.lit (.int .i64 a)) = ML dI (l.set k a) := ML_set (enc := dI) l k a
@[simp] theorem ML_rep_I (n : Nat) (a : Int) : List.replicate n (.lit (.int .i64 a) : D) = ML dI (List.replicate n a) := ML_rep (enc := dI) n a
@[simp] theorem ML_pure_I (l : List Int) : puresD (ML dI l) = true := ML_pure (fun x => by simp [pureD, puresD]) l
@[simp] theorem ML_okS_I (l : List Int) : (ML dI l).all okS = true := ML_all (fun x => by simp [okS, cellsD, oneD, softD, Value.oneCell']) l
@[simp] theorem ML_flat_I (l : List Int) : flatDs (ML dI l) = true := ML_flat (fun x => by simp [flatD, flatDs]) l
structure TSpan where
  From : Int
  Until : Int
instance : Inhabited TSpan := ⟨⟨default, default⟩⟩
instance : DecidableEq TSpan := fun a b => decidable_of_iff (a.From = b.From ∧ a.Until = b.Until) (by cases a; cases b; simp)
@[simp] theorem TSpan_eta (x : TSpan) : (⟨x.From, x.Until⟩ : TSpan) = x := rfl
@[simp] def encTSpan (x : TSpan) : D := .agg [.lit (.int .i64 x.From), .lit (.int .i64 x.Until)]
def yTSpan : D := encTSpan default
def wfTSpan (x : TSpan) : Prop := inR .i64 x.From ∧ inR .i64 x.Until
structure TReport where
  Id : Int
  Kind : Int
  Colours : List Int
  SizeLow : Int
  SizeHigh : Int
  Places : List Int
  Span : TSpan
instance : Inhabited TReport := ⟨⟨default, default, default, default, default, default, default⟩⟩
instance : DecidableEq TReport := fun a b => decidable_of_iff (a.Id = b.Id ∧ a.Kind = b.Kind ∧ a.Colours = b.Colours ∧ a.SizeLow = b.SizeLow ∧ a.SizeHigh = b.SizeHigh ∧ a.Places = b.Places ∧ a.Span = b.Span) (by cases a; cases b; simp)
@[simp] theorem TReport_eta (x : TReport) : (⟨x.Id, x.Kind, x.Colours, x.SizeLow, x.SizeHigh, x.Places, x.Span⟩ : TReport) = x := rfl
@[simp] def encTReport (x : TReport) : D := .agg [.lit (.int .i64 x.Id), .lit (.int .i64 x.Kind), .sl false 1 (.lit (.int .i64 0)) (ML dI x.Colours), .lit (.int .i64 x.SizeLow), .lit (.int .i64 x.SizeHigh), .sl false 1 (.lit (.int .i64 0)) (ML dI x.Places), .lit (.int .i64 x.Span.From), .lit (.int .i64 x.Span.Until)]
def yTReport : D := encTReport default
def wfTReport (x : TReport) : Prop := inR .i64 x.Id ∧ inR .i64 x.Kind ∧ wfLI x.Colours ∧ inR .i64 x.SizeLow ∧ inR .i64 x.SizeHigh ∧ wfLI x.Places ∧ wfTSpan x.Span
@[simp] def encLTReport (x : List TReport) : D := .sl false 8 yTReport (ML encTReport x)
def yLTReport : D := encLTReport []
def wfLTReport (x : List TReport) : Prop := x.length ≤ maxLen ∧ ∀ y ∈ x, wfTReport y
theorem inj_TReport : ∀ x y : TReport, encTReport x = encTReport y → x = y := by
  intro x y h
  obtain ⟨x0, x1, x2, x3, x4, x5, ⟨x60, x61⟩⟩ := x
  obtain ⟨y0, y1, y2, y3, y4, y5, ⟨y60, y61⟩⟩ := y
  simp [encTReport] at h
  first | exact h | simp [h] | (cases h; rfl)
@[simp] theorem ML_inj_TReport (l l' : List TReport) : ML encTReport l = ML encTReport l' ↔ l = l' := ML_inj inj_TReport
@[simp] theorem ML_getD_TReport (l : List TReport) (k : Nat) : (ML encTReport l).getD k yTReport = encTReport (l.getD k default) := ML_getD l k default
@[simp] theorem ML_get2_TReport (l : List TReport) (k : Nat) : (ML encTReport l)[k]?.getD yTReport = encTReport (l.getD k default) := by rw [← List.getD_eq_getElem?_getD]; exact ML_getD l k default
@[simp] theorem ML_snoc_TReport (l : List TReport) (a0 : Int) (a1 : Int) (a2 : List Int) (a3 : Int) (a4 : Int) (a5 : List Int) (a60 : Int) (a61 : Int) : ML encTReport l ++ [.agg [.lit (.int .i64 a0), .lit (.int .i64 a1), .sl false 1 (.lit (.int .i64 0)) (ML dI a2), .lit (.int .i64 a3), .lit (.int .i64 a4), .sl false 1 (.lit (.int .i64 0)) (ML dI a5), .lit (.int .i64 a60), .lit (.int .i64 a61)]] = ML encTReport (l ++ [⟨a0, a1, a2, a3, a4, a5, ⟨a60, a61⟩⟩]) := ML_snoc (enc := encTReport) l ⟨a0, a1, a2, a3, a4, a5, ⟨a60, a61⟩⟩
@[simp] theorem ML_cons_TReport (l : List TReport) (a0 : Int) (a1 : Int) (a2 : List Int) (a3 : Int) (a4 : Int) (a5 : List Int) (a60 : Int) (a61 : Int) : .agg [.lit (.int .i64 a0), .lit (.int .i64 a1), .sl false 1 (.lit (.int .i64 0)) (ML dI a2), .lit (.int .i64 a3), .lit (.int .i64 a4), .sl false 1 (.lit (.int .i64 0)) (ML dI a5), .lit (.int .i64 a60), .lit (.int .i64 a61)] :: ML encTReport l = ML encTReport (⟨a0, a1, a2, a3, a4, a5, ⟨a60, a61⟩⟩ :: l) := rfl
@[simp] theorem ML_set_TReport (l : List TReport) (k : Nat) (a0 : Int) (a1 : Int) (a2 : List Int) (a3 : Int) (a4 : Int) (a5 : List Int) (a60 : Int) (a61 : Int) : (ML encTReport l).set k (.agg [.lit (.int .i64 a0), .lit (.int .i64 a1), .sl false 1 (.lit (.int .i64 0)) (ML dI a2), .lit (.int .i64 a3), .lit (.int .i64 a4), .sl false 1 (.lit (.int .i64 0)) (ML dI a5), .lit (.int .i64 a60), .lit (.int .i64 a61)]) = ML encTReport (l.set k ⟨a0, a1, a2, a3, a4, a5, ⟨a60, a61⟩⟩) := ML_set (enc := encTReport) l k ⟨a0, a1, a2, a3, a4, a5, ⟨a60, a61⟩⟩
@[simp] theorem ML_rep_TReport (n : Nat) (a0 : Int) (a1 : Int) (a2 : List Int) (a3 : Int) (a4 : Int) (a5 : List Int) (a60 : Int) (a61 : Int) : List.replicate n (.agg [.lit (.int .i64 a0), .lit (.int .i64 a1), .sl false 1 (.lit (.int .i64 0)) (ML dI a2), .lit (.int .i64 a3), .lit (.int .i64 a4), .sl false 1 (.lit (.int .i64 0)) (ML dI a5), .lit (.int .i64 a60), .lit (.int .i64 a61)] : D) = ML encTReport (List.replicate n ⟨a0, a1, a2, a3, a4, a5, ⟨a60, a61⟩⟩) := ML_rep (enc := encTReport) n ⟨a0, a1, a2, a3, a4, a5, ⟨a60, a61⟩⟩
@[simp] theorem ML_pure_TReport (l : List TReport) : puresD (ML encTReport l) = true := ML_pure (fun x => by simp [pureD, puresD]) l
@[simp] theorem ML_okS_TReport (l : List TReport) : (ML encTReport l).all okS = true := ML_all (fun x => by simp [okS, cellsD, oneD, softD, Value.oneCell']) l
@[simp] def encLLI (x : List (List Int)) : D := .sl false 1 yLI (ML encLI x)
def yLLI : D := encLLI []
def wfLLI (x : List (List Int)) : Prop := x.length ≤ maxLen ∧ ∀ y ∈ x, wfLI y
theorem inj_LI : ∀ x y : List Int, encLI x = encLI y → x = y := by
  intro x y h
  simp [encLI] at h
  first | exact h | simp [h] | (cases h; rfl)
@[simp] theorem ML_inj_LI (l l' : List (List Int)) : ML encLI l = ML encLI l' ↔ l = l' := ML_inj inj_LI
@[simp] theorem ML_getD_LI (l : List (List Int)) (k : Nat) : (ML encLI l).getD k yLI = encLI (l.getD k []) := ML_getD l k []
@[simp] theorem ML_get2_LI (l : List (List Int)) (k : Nat) : (ML encLI l)[k]?.getD yLI = encLI (l.getD k []) := by rw [← List.getD_eq_getElem?_getD]; exact ML_getD l k []
@[simp] theorem ML_snoc_LI (l : List (List Int)) (a : List Int) : ML encLI l ++ [.sl false 1 (.lit (.int .i64 0)) (ML dI a)] = ML encLI (l ++ [a]) := ML_snoc (enc := encLI) l a
@[simp] theorem ML_cons_LI (l : List (List Int)) (a : List Int) : .sl false 1 (.lit (.int .i64 0)) (ML dI a) :: ML encLI l = ML encLI (a :: l) := rfl
@[simp] theorem ML_set_LI (l : List (List Int)) (k : Nat) (a : List Int) : (ML encLI l).set k (.sl false 1 (.lit (.int .i64 0)) (ML dI a)) = ML encLI (l.set k a) := ML_set (enc := encLI) l k a
@[simp] theorem ML_rep_LI (n : Nat) (a : List Int) : List.replicate n (.sl false 1 (.lit (.int .i64 0)) (ML dI a) : D) = ML encLI (List.replicate n a) := ML_rep (enc := encLI) n a
@[simp] theorem ML_pure_LI (l : List (List Int)) : puresD (ML encLI l) = true := ML_pure (fun x => by simp [pureD, puresD, ML_pure_I]) l
@[simp] theorem ML_okS_LI (l : List (List Int)) : (ML encLI l).all okS = true := ML_all (fun x => by simp [okS, cellsD, oneD, softD, Value.oneCell']) l
structure THand where
  Thing : Int
  Holder : Int
  Who : Int
  At : Int
  Seal : Int
instance : Inhabited THand := ⟨⟨default, default, default, default, default⟩⟩
instance : DecidableEq THand := fun a b => decidable_of_iff (a.Thing = b.Thing ∧ a.Holder = b.Holder ∧ a.Who = b.Who ∧ a.At = b.At ∧ a.Seal = b.Seal) (by cases a; cases b; simp)
@[simp] theorem THand_eta (x : THand) : (⟨x.Thing, x.Holder, x.Who, x.At, x.Seal⟩ : THand) = x := rfl
@[simp] def encTHand (x : THand) : D := .agg [.lit (.int .i64 x.Thing), .lit (.int .i64 x.Holder), .lit (.int .i64 x.Who), .lit (.int .i64 x.At), .lit (.int .i64 x.Seal)]
def yTHand : D := encTHand default
def wfTHand (x : THand) : Prop := inR .i64 x.Thing ∧ inR .i64 x.Holder ∧ inR .i64 x.Who ∧ inR .i64 x.At ∧ inR .i64 x.Seal
@[simp] def encLTHand (x : List THand) : D := .sl false 5 yTHand (ML encTHand x)
def yLTHand : D := encLTHand []
def wfLTHand (x : List THand) : Prop := x.length ≤ maxLen ∧ ∀ y ∈ x, wfTHand y
theorem inj_THand : ∀ x y : THand, encTHand x = encTHand y → x = y := by
  intro x y h
  obtain ⟨x0, x1, x2, x3, x4⟩ := x
  obtain ⟨y0, y1, y2, y3, y4⟩ := y
  simp [encTHand] at h
  first | exact h | simp [h] | (cases h; rfl)
@[simp] theorem ML_inj_THand (l l' : List THand) : ML encTHand l = ML encTHand l' ↔ l = l' := ML_inj inj_THand
@[simp] theorem ML_getD_THand (l : List THand) (k : Nat) : (ML encTHand l).getD k yTHand = encTHand (l.getD k default) := ML_getD l k default
@[simp] theorem ML_get2_THand (l : List THand) (k : Nat) : (ML encTHand l)[k]?.getD yTHand = encTHand (l.getD k default) := by rw [← List.getD_eq_getElem?_getD]; exact ML_getD l k default
@[simp] theorem ML_snoc_THand (l : List THand) (a0 : Int) (a1 : Int) (a2 : Int) (a3 : Int) (a4 : Int) : ML encTHand l ++ [.agg [.lit (.int .i64 a0), .lit (.int .i64 a1), .lit (.int .i64 a2), .lit (.int .i64 a3), .lit (.int .i64 a4)]] = ML encTHand (l ++ [⟨a0, a1, a2, a3, a4⟩]) := ML_snoc (enc := encTHand) l ⟨a0, a1, a2, a3, a4⟩
@[simp] theorem ML_cons_THand (l : List THand) (a0 : Int) (a1 : Int) (a2 : Int) (a3 : Int) (a4 : Int) : .agg [.lit (.int .i64 a0), .lit (.int .i64 a1), .lit (.int .i64 a2), .lit (.int .i64 a3), .lit (.int .i64 a4)] :: ML encTHand l = ML encTHand (⟨a0, a1, a2, a3, a4⟩ :: l) := rfl
@[simp] theorem ML_set_THand (l : List THand) (k : Nat) (a0 : Int) (a1 : Int) (a2 : Int) (a3 : Int) (a4 : Int) : (ML encTHand l).set k (.agg [.lit (.int .i64 a0), .lit (.int .i64 a1), .lit (.int .i64 a2), .lit (.int .i64 a3), .lit (.int .i64 a4)]) = ML encTHand (l.set k ⟨a0, a1, a2, a3, a4⟩) := ML_set (enc := encTHand) l k ⟨a0, a1, a2, a3, a4⟩
@[simp] theorem ML_rep_THand (n : Nat) (a0 : Int) (a1 : Int) (a2 : Int) (a3 : Int) (a4 : Int) : List.replicate n (.agg [.lit (.int .i64 a0), .lit (.int .i64 a1), .lit (.int .i64 a2), .lit (.int .i64 a3), .lit (.int .i64 a4)] : D) = ML encTHand (List.replicate n ⟨a0, a1, a2, a3, a4⟩) := ML_rep (enc := encTHand) n ⟨a0, a1, a2, a3, a4⟩
@[simp] theorem ML_pure_THand (l : List THand) : puresD (ML encTHand l) = true := ML_pure (fun x => by simp [pureD, puresD]) l
@[simp] theorem ML_okS_THand (l : List THand) : (ML encTHand l).all okS = true := ML_all (fun x => by simp [okS, cellsD, oneD, softD, Value.oneCell']) l
@[simp] theorem ML_flat_THand (l : List THand) : flatDs (ML encTHand l) = true := ML_flat (fun x => by simp [flatD, flatDs]) l
structure TParcel where
  From : Int
  To : Int
  Things : List Int
  At : Int
instance : Inhabited TParcel := ⟨⟨default, default, default, default⟩⟩
instance : DecidableEq TParcel := fun a b => decidable_of_iff (a.From = b.From ∧ a.To = b.To ∧ a.Things = b.Things ∧ a.At = b.At) (by cases a; cases b; simp)
@[simp] theorem TParcel_eta (x : TParcel) : (⟨x.From, x.To, x.Things, x.At⟩ : TParcel) = x := rfl
@[simp] def encTParcel (x : TParcel) : D := .agg [.lit (.int .i64 x.From), .lit (.int .i64 x.To), .sl false 1 (.lit (.int .i64 0)) (ML dI x.Things), .lit (.int .i64 x.At)]
def yTParcel : D := encTParcel default
def wfTParcel (x : TParcel) : Prop := inR .i64 x.From ∧ inR .i64 x.To ∧ wfLI x.Things ∧ inR .i64 x.At
@[simp] def encLTParcel (x : List TParcel) : D := .sl false 4 yTParcel (ML encTParcel x)
def yLTParcel : D := encLTParcel []
def wfLTParcel (x : List TParcel) : Prop := x.length ≤ maxLen ∧ ∀ y ∈ x, wfTParcel y
theorem inj_TParcel : ∀ x y : TParcel, encTParcel x = encTParcel y → x = y := by
  intro x y h
  obtain ⟨x0, x1, x2, x3⟩ := x
  obtain ⟨y0, y1, y2, y3⟩ := y
  simp [encTParcel] at h
  first | exact h | simp [h] | (cases h; rfl)
@[simp] theorem ML_inj_TParcel (l l' : List TParcel) : ML encTParcel l = ML encTParcel l' ↔ l = l' := ML_inj inj_TParcel
@[simp] theorem ML_getD_TParcel (l : List TParcel) (k : Nat) : (ML encTParcel l).getD k yTParcel = encTParcel (l.getD k default) := ML_getD l k default
@[simp] theorem ML_get2_TParcel (l : List TParcel) (k : Nat) : (ML encTParcel l)[k]?.getD yTParcel = encTParcel (l.getD k default) := by rw [← List.getD_eq_getElem?_getD]; exact ML_getD l k default
@[simp] theorem ML_snoc_TParcel (l : List TParcel) (a0 : Int) (a1 : Int) (a2 : List Int) (a3 : Int) : ML encTParcel l ++ [.agg [.lit (.int .i64 a0), .lit (.int .i64 a1), .sl false 1 (.lit (.int .i64 0)) (ML dI a2), .lit (.int .i64 a3)]] = ML encTParcel (l ++ [⟨a0, a1, a2, a3⟩]) := ML_snoc (enc := encTParcel) l ⟨a0, a1, a2, a3⟩
@[simp] theorem ML_cons_TParcel (l : List TParcel) (a0 : Int) (a1 : Int) (a2 : List Int) (a3 : Int) : .agg [.lit (.int .i64 a0), .lit (.int .i64 a1), .sl false 1 (.lit (.int .i64 0)) (ML dI a2), .lit (.int .i64 a3)] :: ML encTParcel l = ML encTParcel (⟨a0, a1, a2, a3⟩ :: l) := rfl
@[simp] theorem ML_set_TParcel (l : List TParcel) (k : Nat) (a0 : Int) (a1 : Int) (a2 : List Int) (a3 : Int) : (ML encTParcel l).set k (.agg [.lit (.int .i64 a0), .lit (.int .i64 a1), .sl false 1 (.lit (.int .i64 0)) (ML dI a2), .lit (.int .i64 a3)]) = ML encTParcel (l.set k ⟨a0, a1, a2, a3⟩) := ML_set (enc := encTParcel) l k ⟨a0, a1, a2, a3⟩
@[simp] theorem ML_rep_TParcel (n : Nat) (a0 : Int) (a1 : Int) (a2 : List Int) (a3 : Int) : List.replicate n (.agg [.lit (.int .i64 a0), .lit (.int .i64 a1), .sl false 1 (.lit (.int .i64 0)) (ML dI a2), .lit (.int .i64 a3)] : D) = ML encTParcel (List.replicate n ⟨a0, a1, a2, a3⟩) := ML_rep (enc := encTParcel) n ⟨a0, a1, a2, a3⟩
@[simp] theorem ML_pure_TParcel (l : List TParcel) : puresD (ML encTParcel l) = true := ML_pure (fun x => by simp [pureD, puresD]) l
@[simp] theorem ML_okS_TParcel (l : List TParcel) : (ML encTParcel l).all okS = true := ML_all (fun x => by simp [okS, cellsD, oneD, softD, Value.oneCell']) l
structure TMeeting where
  with_ : TSpan
instance : Inhabited TMeeting := ⟨⟨default⟩⟩
instance : DecidableEq TMeeting := fun a b => decidable_of_iff (a.with_ = b.with_) (by cases a; cases b; simp)
@[simp] theorem TMeeting_eta (x : TMeeting) : (⟨x.with_⟩ : TMeeting) = x := rfl
@[simp] def encTMeeting (x : TMeeting) : D := .agg [.lit (.int .i64 x.with_.From), .lit (.int .i64 x.with_.Until)]
def yTMeeting : D := encTMeeting default
def wfTMeeting (x : TMeeting) : Prop := wfTSpan x.with_
structure TWidening where
  by_ : Int
instance : Inhabited TWidening := ⟨⟨default⟩⟩
instance : DecidableEq TWidening := fun a b => decidable_of_iff (a.by_ = b.by_) (by cases a; cases b; simp)
@[simp] theorem TWidening_eta (x : TWidening) : (⟨x.by_⟩ : TWidening) = x := rfl
@[simp] def encTWidening (x : TWidening) : D := .agg [.lit (.int .i64 x.by_)]
def yTWidening : D := encTWidening default
def wfTWidening (x : TWidening) : Prop := inR .i64 x.by_
end Go.Proofs.Ytnghehfdclhfdaa
