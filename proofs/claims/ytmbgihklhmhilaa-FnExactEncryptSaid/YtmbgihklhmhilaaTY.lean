/- The data of this program as Lean types, and how they are held. -/
import Derived.Test.YtmbgihklhmhilaaEngB
namespace Go.Proofs.Ytmbgihklhmhilaa
open Go Go.Eng
set_option linter.unusedSimpArgs false
set_option linter.unusedVariables false
/-- what the package variables hold -/
def glD : Nat → D
  | _ => .any
instance : HasG := ⟨glD⟩
@[simp] theorem gl_0 : HasG.gl 0 = .any := rfl
@[simp] theorem gl_1 : HasG.gl 1 = .any := rfl
@[simp] theorem gl_2 : HasG.gl 2 = .any := rfl
@[simp] theorem gl_3 : HasG.gl 3 = .any := rfl
@[simp] theorem gl_4 : HasG.gl 4 = .any := rfl
@[simp] theorem gl_5 : HasG.gl 5 = .any := rfl
@[simp] theorem gl_6 : HasG.gl 6 = .any := rfl
@[simp] theorem gl_7 : HasG.gl 7 = .any := rfl
@[simp] def encLU (x : List Int) : D := .sl false 1 (.lit (.int .u8 0)) (ML dU x)
def yLU : D := encLU []
def wfLU (x : List Int) : Prop := x.length ≤ maxLen ∧ ∀ y ∈ x, inR .u8 y
theorem inj_U : ∀ x y : Int, dU x = dU y → x = y := by
  intro x y h
  simp [dI] at h
  first | exact h | simp [h] | (cases h; rfl)
@[simp] theorem ML_inj_U (l l' : List Int) : ML dU l = ML dU l' ↔ l = l' := ML_inj inj_U
@[simp] theorem ML_getD_U (l : List Int) (k : Nat) : (ML dU l).getD k (.lit (.int .u8 0)) = dU (l.getD k 0) := ML_getD l k 0
@[simp] theorem ML_get2_U (l : List Int) (k : Nat) : (ML dU l)[k]?.getD (.lit (.int .u8 0)) = dU (l.getD k 0) := by rw [← List.getD_eq_getElem?_getD]; exact ML_getD l k 0
@[simp] theorem ML_snoc_U (l : List Int) (a : Int) : ML dU l ++ [.lit (.int .u8 a)] = ML dU (l ++ [a]) := ML_snoc (enc := dU) l a
@[simp] theorem ML_cons_U (l : List Int) (a : Int) : .lit (.int .u8 a) :: ML dU l = ML dU (a :: l) := rfl
@[simp] theorem ML_set_U (l : List Int) (k : Nat) (a : Int) : (ML dU l).set k (.lit (.int .u8 a)) = ML dU (l.set k a) := ML_set (enc := dU) l k a
@[simp] theorem ML_rep_U (n : Nat) (a : Int) : List.replicate n (.lit (.int .u8 a) : D) = ML dU (List.replicate n a) := ML_rep (enc := dU) n a
@[simp] theorem ML_pure_U (l : List Int) : puresD (ML dU l) = true := ML_pure (fun x => by simp [pureD, puresD]) l
@[simp] theorem ML_flat_U (l : List Int) : flatDs (ML dU l) = true := ML_flat (fun x => by simp [flatD, flatDs]) l
structure TThing where
  Id : Int
  Kind : Int
  Colour : Int
  Size : Int
  Worth : Int
instance : Inhabited TThing := ⟨⟨default, default, default, default, default⟩⟩
instance : DecidableEq TThing := fun a b => decidable_of_iff (a.Id = b.Id ∧ a.Kind = b.Kind ∧ a.Colour = b.Colour ∧ a.Size = b.Size ∧ a.Worth = b.Worth) (by cases a; cases b; simp)
@[simp] theorem TThing_eta (x : TThing) : (⟨x.Id, x.Kind, x.Colour, x.Size, x.Worth⟩ : TThing) = x := rfl
@[simp] def encTThing (x : TThing) : D := .agg [.lit (.int .i64 x.Id), .lit (.int .i64 x.Kind), .lit (.int .i64 x.Colour), .lit (.int .i64 x.Size), .lit (.int .i64 x.Worth)]
def yTThing : D := encTThing default
def wfTThing (x : TThing) : Prop := inR .i64 x.Id ∧ inR .i64 x.Kind ∧ inR .i64 x.Colour ∧ inR .i64 x.Size ∧ inR .i64 x.Worth
structure TFind where
  Thing : TThing
  Place : Int
  At : Int
  Finder : Int
instance : Inhabited TFind := ⟨⟨default, default, default, default⟩⟩
instance : DecidableEq TFind := fun a b => decidable_of_iff (a.Thing = b.Thing ∧ a.Place = b.Place ∧ a.At = b.At ∧ a.Finder = b.Finder) (by cases a; cases b; simp)
@[simp] theorem TFind_eta (x : TFind) : (⟨x.Thing, x.Place, x.At, x.Finder⟩ : TFind) = x := rfl
@[simp] def encTFind (x : TFind) : D := .agg [.lit (.int .i64 x.Thing.Id), .lit (.int .i64 x.Thing.Kind), .lit (.int .i64 x.Thing.Colour), .lit (.int .i64 x.Thing.Size), .lit (.int .i64 x.Thing.Worth), .lit (.int .i64 x.Place), .lit (.int .i64 x.At), .lit (.int .i64 x.Finder)]
def yTFind : D := encTFind default
def wfTFind (x : TFind) : Prop := wfTThing x.Thing ∧ inR .i64 x.Place ∧ inR .i64 x.At ∧ inR .i64 x.Finder
@[simp] def encLI (x : List Int) : D := .sl false 1 (.lit (.int .i64 0)) (ML dI x)
def yLI : D := encLI []
def wfLI (x : List Int) : Prop := x.length ≤ maxLen ∧ ∀ y ∈ x, inR .i64 y
theorem inj_I : ∀ x y : Int, dI x = dI y → x = y := by
  intro x y h
  simp [dI] at h
  first | exact h | simp [h] | (cases h; rfl)
@[simp] theorem ML_inj_I (l l' : List Int) : ML dI l = ML dI l' ↔ l = l' := ML_inj inj_I
@[simp] theorem ML_getD_I (l : List Int) (k : Nat) : (ML dI l).getD k (.lit (.int .i64 0)) = dI (l.getD k 0) := ML_getD l k 0
@[simp] theorem ML_get2_I (l : List Int) (k : Nat) : (ML dI l)[k]?.getD (.lit (.int .i64 0)) = dI (l.getD k 0) := by rw [← List.getD_eq_getElem?_getD]; exact ML_getD l k 0
@[simp] theorem ML_snoc_I (l : List Int) (a : Int) : ML dI l ++ [.lit (.int .i64 a)] = ML dI (l ++ [a]) := ML_snoc (enc := dI) l a
@[simp] theorem ML_cons_I (l : List Int) (a : Int) : .lit (.int .i64 a) :: ML dI l = ML dI (a :: l) := rfl
@[simp] theorem ML_set_I (l : List Int) (k : Nat) (a : Int) : (ML dI l).set k (.lit (.int .i64 a)) = ML dI (l.set k a) := ML_set (enc := dI) l k a
@[simp] theorem ML_rep_I (n : Nat) (a : Int) : List.replicate n (.lit (.int .i64 a) : D) = ML dI (List.replicate n a) := ML_rep (enc := dI) n a
@[simp] theorem ML_pure_I (l : List Int) : puresD (ML dI l) = true := ML_pure (fun x => by simp [pureD, puresD]) l
@[simp] theorem ML_flat_I (l : List Int) : flatDs (ML dI l) = true := ML_flat (fun x => by simp [flatD, flatDs]) l
structure TDoubt where
  Colours : List Int
  Size : Int
  Places : List Int
  Hours : Int
instance : Inhabited TDoubt := ⟨⟨default, default, default, default⟩⟩
instance : DecidableEq TDoubt := fun a b => decidable_of_iff (a.Colours = b.Colours ∧ a.Size = b.Size ∧ a.Places = b.Places ∧ a.Hours = b.Hours) (by cases a; cases b; simp)
@[simp] theorem TDoubt_eta (x : TDoubt) : (⟨x.Colours, x.Size, x.Places, x.Hours⟩ : TDoubt) = x := rfl
@[simp] def encTDoubt (x : TDoubt) : D := .agg [.sl false 1 (.lit (.int .i64 0)) (ML dI x.Colours), .lit (.int .i64 x.Size), .sl false 1 (.lit (.int .i64 0)) (ML dI x.Places), .lit (.int .i64 x.Hours)]
def yTDoubt : D := encTDoubt default
def wfTDoubt (x : TDoubt) : Prop := wfLI x.Colours ∧ inR .i64 x.Size ∧ wfLI x.Places ∧ inR .i64 x.Hours
structure TSpan where
  From : Int
  Until : Int
instance : Inhabited TSpan := ⟨⟨default, default⟩⟩
instance : DecidableEq TSpan := fun a b => decidable_of_iff (a.From = b.From ∧ a.Until = b.Until) (by cases a; cases b; simp)
@[simp] theorem TSpan_eta (x : TSpan) : (⟨x.From, x.Until⟩ : TSpan) = x := rfl
@[simp] def encTSpan (x : TSpan) : D := .agg [.lit (.int .i64 x.From), .lit (.int .i64 x.Until)]
def yTSpan : D := encTSpan default
def wfTSpan (x : TSpan) : Prop := inR .i64 x.From ∧ inR .i64 x.Until
structure TReport where
  Id : Int
  Kind : Int
  Colours : List Int
  SizeLow : Int
  SizeHigh : Int
  Places : List Int
  Span : TSpan
instance : Inhabited TReport := ⟨⟨default, default, default, default, default, default, default⟩⟩
instance : DecidableEq TReport := fun a b => decidable_of_iff (a.Id = b.Id ∧ a.Kind = b.Kind ∧ a.Colours = b.Colours ∧ a.SizeLow = b.SizeLow ∧ a.SizeHigh = b.SizeHigh ∧ a.Places = b.Places ∧ a.Span = b.Span) (by cases a; cases b; simp)
@[simp] theorem TReport_eta (x : TReport) : (⟨x.Id, x.Kind, x.Colours, x.SizeLow, x.SizeHigh, x.Places, x.Span⟩ : TReport) = x := rfl
@[simp] def encTReport (x : TReport) : D := .agg [.lit (.int .i64 x.Id), .lit (.int .i64 x.Kind), .sl false 1 (.lit (.int .i64 0)) (ML dI x.Colours), .lit (.int .i64 x.SizeLow), .lit (.int .i64 x.SizeHigh), .sl false 1 (.lit (.int .i64 0)) (ML dI x.Places), .lit (.int .i64 x.Span.From), .lit (.int .i64 x.Span.Until)]
def yTReport : D := encTReport default
def wfTReport (x : TReport) : Prop := inR .i64 x.Id ∧ inR .i64 x.Kind ∧ wfLI x.Colours ∧ inR .i64 x.SizeLow ∧ inR .i64 x.SizeHigh ∧ wfLI x.Places ∧ wfTSpan x.Span
structure TSlot where
  Id : Int
  Size : Int
  Thing : Int
instance : Inhabited TSlot := ⟨⟨default, default, default⟩⟩
instance : DecidableEq TSlot := fun a b => decidable_of_iff (a.Id = b.Id ∧ a.Size = b.Size ∧ a.Thing = b.Thing) (by cases a; cases b; simp)
@[simp] theorem TSlot_eta (x : TSlot) : (⟨x.Id, x.Size, x.Thing⟩ : TSlot) = x := rfl
@[simp] def encTSlot (x : TSlot) : D := .agg [.lit (.int .i64 x.Id), .lit (.int .i64 x.Size), .lit (.int .i64 x.Thing)]
def yTSlot : D := encTSlot default
def wfTSlot (x : TSlot) : Prop := inR .i64 x.Id ∧ inR .i64 x.Size ∧ inR .i64 x.Thing
@[simp] def encLTSlot (x : List TSlot) : D := .sl false 3 yTSlot (ML encTSlot x)
def yLTSlot : D := encLTSlot []
def wfLTSlot (x : List TSlot) : Prop := x.length ≤ maxLen ∧ ∀ y ∈ x, wfTSlot y
theorem inj_TSlot : ∀ x y : TSlot, encTSlot x = encTSlot y → x = y := by
  intro x y h
  obtain ⟨x0, x1, x2⟩ := x
  obtain ⟨y0, y1, y2⟩ := y
  simp [encTSlot] at h
  first | exact h | simp [h] | (cases h; rfl)
@[simp] theorem ML_inj_TSlot (l l' : List TSlot) : ML encTSlot l = ML encTSlot l' ↔ l = l' := ML_inj inj_TSlot
@[simp] theorem ML_getD_TSlot (l : List TSlot) (k : Nat) : (ML encTSlot l).getD k yTSlot = encTSlot (l.getD k default) := ML_getD l k default
@[simp] theorem ML_get2_TSlot (l : List TSlot) (k : Nat) : (ML encTSlot l)[k]?.getD yTSlot = encTSlot (l.getD k default) := by rw [← List.getD_eq_getElem?_getD]; exact ML_getD l k default
@[simp] theorem ML_snoc_TSlot (l : List TSlot) (a0 : Int) (a1 : Int) (a2 : Int) : ML encTSlot l ++ [.agg [.lit (.int .i64 a0), .lit (.int .i64 a1), .lit (.int .i64 a2)]] = ML encTSlot (l ++ [⟨a0, a1, a2⟩]) := ML_snoc (enc := encTSlot) l ⟨a0, a1, a2⟩
@[simp] theorem ML_cons_TSlot (l : List TSlot) (a0 : Int) (a1 : Int) (a2 : Int) : .agg [.lit (.int .i64 a0), .lit (.int .i64 a1), .lit (.int .i64 a2)] :: ML encTSlot l = ML encTSlot (⟨a0, a1, a2⟩ :: l) := rfl
@[simp] theorem ML_set_TSlot (l : List TSlot) (k : Nat) (a0 : Int) (a1 : Int) (a2 : Int) : (ML encTSlot l).set k (.agg [.lit (.int .i64 a0), .lit (.int .i64 a1), .lit (.int .i64 a2)]) = ML encTSlot (l.set k ⟨a0, a1, a2⟩) := ML_set (enc := encTSlot) l k ⟨a0, a1, a2⟩
@[simp] theorem ML_rep_TSlot (n : Nat) (a0 : Int) (a1 : Int) (a2 : Int) : List.replicate n (.agg [.lit (.int .i64 a0), .lit (.int .i64 a1), .lit (.int .i64 a2)] : D) = ML encTSlot (List.replicate n ⟨a0, a1, a2⟩) := ML_rep (enc := encTSlot) n ⟨a0, a1, a2⟩
@[simp] theorem ML_pure_TSlot (l : List TSlot) : puresD (ML encTSlot l) = true := ML_pure (fun x => by simp [pureD, puresD]) l
@[simp] theorem ML_flat_TSlot (l : List TSlot) : flatDs (ML encTSlot l) = true := ML_flat (fun x => by simp [flatD, flatDs]) l
@[simp] def encLTThing (x : List TThing) : D := .sl false 5 yTThing (ML encTThing x)
def yLTThing : D := encLTThing []
def wfLTThing (x : List TThing) : Prop := x.length ≤ maxLen ∧ ∀ y ∈ x, wfTThing y
theorem inj_TThing : ∀ x y : TThing, encTThing x = encTThing y → x = y := by
  intro x y h
  obtain ⟨x0, x1, x2, x3, x4⟩ := x
  obtain ⟨y0, y1, y2, y3, y4⟩ := y
  simp [encTThing] at h
  first | exact h | simp [h] | (cases h; rfl)
@[simp] theorem ML_inj_TThing (l l' : List TThing) : ML encTThing l = ML encTThing l' ↔ l = l' := ML_inj inj_TThing
@[simp] theorem ML_getD_TThing (l : List TThing) (k : Nat) : (ML encTThing l).getD k yTThing = encTThing (l.getD k default) := ML_getD l k default
@[simp] theorem ML_get2_TThing (l : List TThing) (k : Nat) : (ML encTThing l)[k]?.getD yTThing = encTThing (l.getD k default) := by rw [← List.getD_eq_getElem?_getD]; exact ML_getD l k default
@[simp] theorem ML_snoc_TThing (l : List TThing) (a0 : Int) (a1 : Int) (a2 : Int) (a3 : Int) (a4 : Int) : ML encTThing l ++ [.agg [.lit (.int .i64 a0), .lit (.int .i64 a1), .lit (.int .i64 a2), .lit (.int .i64 a3), .lit (.int .i64 a4)]] = ML encTThing (l ++ [⟨a0, a1, a2, a3, a4⟩]) := ML_snoc (enc := encTThing) l ⟨a0, a1, a2, a3, a4⟩
@[simp] theorem ML_cons_TThing (l : List TThing) (a0 : Int) (a1 : Int) (a2 : Int) (a3 : Int) (a4 : Int) : .agg [.lit (.int .i64 a0), .lit (.int .i64 a1), .lit (.int .i64 a2), .lit (.int .i64 a3), .lit (.int .i64 a4)] :: ML encTThing l = ML encTThing (⟨a0, a1, a2, a3, a4⟩ :: l) := rfl
@[simp] theorem ML_set_TThing (l : List TThing) (k : Nat) (a0 : Int) (a1 : Int) (a2 : Int) (a3 : Int) (a4 : Int) : (ML encTThing l).set k (.agg [.lit (.int .i64 a0), .lit (.int .i64 a1), .lit (.int .i64 a2), .lit (.int .i64 a3), .lit (.int .i64 a4)]) = ML encTThing (l.set k ⟨a0, a1, a2, a3, a4⟩) := ML_set (enc := encTThing) l k ⟨a0, a1, a2, a3, a4⟩
@[simp] theorem ML_rep_TThing (n : Nat) (a0 : Int) (a1 : Int) (a2 : Int) (a3 : Int) (a4 : Int) : List.replicate n (.agg [.lit (.int .i64 a0), .lit (.int .i64 a1), .lit (.int .i64 a2), .lit (.int .i64 a3), .lit (.int .i64 a4)] : D) = ML encTThing (List.replicate n ⟨a0, a1, a2, a3, a4⟩) := ML_rep (enc := encTThing) n ⟨a0, a1, a2, a3, a4⟩
@[simp] theorem ML_pure_TThing (l : List TThing) : puresD (ML encTThing l) = true := ML_pure (fun x => by simp [pureD, puresD]) l
@[simp] theorem ML_flat_TThing (l : List TThing) : flatDs (ML encTThing l) = true := ML_flat (fun x => by simp [flatD, flatDs]) l
structure THand where
  Thing : Int
  Holder : Int
  Who : Int
  At : Int
  Seal : Int
instance : Inhabited THand := ⟨⟨default, default, default, default, default⟩⟩
instance : DecidableEq THand := fun a b => decidable_of_iff (a.Thing = b.Thing ∧ a.Holder = b.Holder ∧ a.Who = b.Who ∧ a.At = b.At ∧ a.Seal = b.Seal) (by cases a; cases b; simp)
@[simp] theorem THand_eta (x : THand) : (⟨x.Thing, x.Holder, x.Who, x.At, x.Seal⟩ : THand) = x := rfl
@[simp] def encTHand (x : THand) : D := .agg [.lit (.int .i64 x.Thing), .lit (.int .i64 x.Holder), .lit (.int .i64 x.Who), .lit (.int .i64 x.At), .lit (.int .i64 x.Seal)]
def yTHand : D := encTHand default
def wfTHand (x : THand) : Prop := inR .i64 x.Thing ∧ inR .i64 x.Holder ∧ inR .i64 x.Who ∧ inR .i64 x.At ∧ inR .i64 x.Seal
@[simp] def encLTHand (x : List THand) : D := .sl false 5 yTHand (ML encTHand x)
def yLTHand : D := encLTHand []
def wfLTHand (x : List THand) : Prop := x.length ≤ maxLen ∧ ∀ y ∈ x, wfTHand y
theorem inj_THand : ∀ x y : THand, encTHand x = encTHand y → x = y := by
  intro x y h
  obtain ⟨x0, x1, x2, x3, x4⟩ := x
  obtain ⟨y0, y1, y2, y3, y4⟩ := y
  simp [encTHand] at h
  first | exact h | simp [h] | (cases h; rfl)
@[simp] theorem ML_inj_THand (l l' : List THand) : ML encTHand l = ML encTHand l' ↔ l = l' := ML_inj inj_THand
@[simp] theorem ML_getD_THand (l : List THand) (k : Nat) : (ML encTHand l).getD k yTHand = encTHand (l.getD k default) := ML_getD l k default
@[simp] theorem ML_get2_THand (l : List THand) (k : Nat) : (ML encTHand l)[k]?.getD yTHand = encTHand (l.getD k default) := by rw [← List.getD_eq_getElem?_getD]; exact ML_getD l k default
@[simp] theorem ML_snoc_THand (l : List THand) (a0 : Int) (a1 : Int) (a2 : Int) (a3 : Int) (a4 : Int) : ML encTHand l ++ [.agg [.lit (.int .i64 a0), .lit (.int .i64 a1), .lit (.int .i64 a2), .lit (.int .i64 a3), .lit (.int .i64 a4)]] = ML encTHand (l ++ [⟨a0, a1, a2, a3, a4⟩]) := ML_snoc (enc := encTHand) l ⟨a0, a1, a2, a3, a4⟩
@[simp] theorem ML_cons_THand (l : List THand) (a0 : Int) (a1 : Int) (a2 : Int) (a3 : Int) (a4 : Int) : .agg [.lit (.int .i64 a0), .lit (.int .i64 a1), .lit (.int .i64 a2), .lit (.int .i64 a3), .lit (.int .i64 a4)] :: ML encTHand l = ML encTHand (⟨a0, a1, a2, a3, a4⟩ :: l) := rfl
@[simp] theorem ML_set_THand (l : List THand) (k : Nat) (a0 : Int) (a1 : Int) (a2 : Int) (a3 : Int) (a4 : Int) : (ML encTHand l).set k (.agg [.lit (.int .i64 a0), .lit (.int .i64 a1), .lit (.int .i64 a2), .lit (.int .i64 a3), .lit (.int .i64 a4)]) = ML encTHand (l.set k ⟨a0, a1, a2, a3, a4⟩) := ML_set (enc := encTHand) l k ⟨a0, a1, a2, a3, a4⟩
@[simp] theorem ML_rep_THand (n : Nat) (a0 : Int) (a1 : Int) (a2 : Int) (a3 : Int) (a4 : Int) : List.replicate n (.agg [.lit (.int .i64 a0), .lit (.int .i64 a1), .lit (.int .i64 a2), .lit (.int .i64 a3), .lit (.int .i64 a4)] : D) = ML encTHand (List.replicate n ⟨a0, a1, a2, a3, a4⟩) := ML_rep (enc := encTHand) n ⟨a0, a1, a2, a3, a4⟩
@[simp] theorem ML_pure_THand (l : List THand) : puresD (ML encTHand l) = true := ML_pure (fun x => by simp [pureD, puresD]) l
@[simp] theorem ML_flat_THand (l : List THand) : flatDs (ML encTHand l) = true := ML_flat (fun x => by simp [flatD, flatDs]) l
@[simp] def encLTFind (x : List TFind) : D := .sl false 8 yTFind (ML encTFind x)
def yLTFind : D := encLTFind []
def wfLTFind (x : List TFind) : Prop := x.length ≤ maxLen ∧ ∀ y ∈ x, wfTFind y
theorem inj_TFind : ∀ x y : TFind, encTFind x = encTFind y → x = y := by
  intro x y h
  obtain ⟨⟨x00, x01, x02, x03, x04⟩, x1, x2, x3⟩ := x
  obtain ⟨⟨y00, y01, y02, y03, y04⟩, y1, y2, y3⟩ := y
  simp [encTFind] at h
  first | exact h | simp [h] | (cases h; rfl)
@[simp] theorem ML_inj_TFind (l l' : List TFind) : ML encTFind l = ML encTFind l' ↔ l = l' := ML_inj inj_TFind
@[simp] theorem ML_getD_TFind (l : List TFind) (k : Nat) : (ML encTFind l).getD k yTFind = encTFind (l.getD k default) := ML_getD l k default
@[simp] theorem ML_get2_TFind (l : List TFind) (k : Nat) : (ML encTFind l)[k]?.getD yTFind = encTFind (l.getD k default) := by rw [← List.getD_eq_getElem?_getD]; exact ML_getD l k default
@[simp] theorem ML_snoc_TFind (l : List TFind) (a00 : Int) (a01 : Int) (a02 : Int) (a03 : Int) (a04 : Int) (a1 : Int) (a2 : Int) (a3 : Int) : ML encTFind l ++ [.agg [.lit (.int .i64 a00), .lit (.int .i64 a01), .lit (.int .i64 a02), .lit (.int .i64 a03), .lit (.int .i64 a04), .lit (.int .i64 a1), .lit (.int .i64 a2), .lit (.int .i64 a3)]] = ML encTFind (l ++ [⟨⟨a00, a01, a02, a03, a04⟩, a1, a2, a3⟩]) := ML_snoc (enc := encTFind) l ⟨⟨a00, a01, a02, a03, a04⟩, a1, a2, a3⟩
@[simp] theorem ML_cons_TFind (l : List TFind) (a00 : Int) (a01 : Int) (a02 : Int) (a03 : Int) (a04 : Int) (a1 : Int) (a2 : Int) (a3 : Int) : .agg [.lit (.int .i64 a00), .lit (.int .i64 a01), .lit (.int .i64 a02), .lit (.int .i64 a03), .lit (.int .i64 a04), .lit (.int .i64 a1), .lit (.int .i64 a2), .lit (.int .i64 a3)] :: ML encTFind l = ML encTFind (⟨⟨a00, a01, a02, a03, a04⟩, a1, a2, a3⟩ :: l) := rfl
@[simp] theorem ML_set_TFind (l : List TFind) (k : Nat) (a00 : Int) (a01 : Int) (a02 : Int) (a03 : Int) (a04 : Int) (a1 : Int) (a2 : Int) (a3 : Int) : (ML encTFind l).set k (.agg [.lit (.int .i64 a00), .lit (.int .i64 a01), .lit (.int .i64 a02), .lit (.int .i64 a03), .lit (.int .i64 a04), .lit (.int .i64 a1), .lit (.int .i64 a2), .lit (.int .i64 a3)]) = ML encTFind (l.set k ⟨⟨a00, a01, a02, a03, a04⟩, a1, a2, a3⟩) := ML_set (enc := encTFind) l k ⟨⟨a00, a01, a02, a03, a04⟩, a1, a2, a3⟩
@[simp] theorem ML_rep_TFind (n : Nat) (a00 : Int) (a01 : Int) (a02 : Int) (a03 : Int) (a04 : Int) (a1 : Int) (a2 : Int) (a3 : Int) : List.replicate n (.agg [.lit (.int .i64 a00), .lit (.int .i64 a01), .lit (.int .i64 a02), .lit (.int .i64 a03), .lit (.int .i64 a04), .lit (.int .i64 a1), .lit (.int .i64 a2), .lit (.int .i64 a3)] : D) = ML encTFind (List.replicate n ⟨⟨a00, a01, a02, a03, a04⟩, a1, a2, a3⟩) := ML_rep (enc := encTFind) n ⟨⟨a00, a01, a02, a03, a04⟩, a1, a2, a3⟩
@[simp] theorem ML_pure_TFind (l : List TFind) : puresD (ML encTFind l) = true := ML_pure (fun x => by simp [pureD, puresD]) l
@[simp] theorem ML_flat_TFind (l : List TFind) : flatDs (ML encTFind l) = true := ML_flat (fun x => by simp [flatD, flatDs]) l
@[simp] def encLLI (x : List (List Int)) : D := .sl false 1 yLI (ML encLI x)
def yLLI : D := encLLI []
def wfLLI (x : List (List Int)) : Prop := x.length ≤ maxLen ∧ ∀ y ∈ x, wfLI y
theorem inj_LI : ∀ x y : List Int, encLI x = encLI y → x = y := by
  intro x y h
  simp [encLI] at h
  first | exact h | simp [h] | (cases h; rfl)
@[simp] theorem ML_inj_LI (l l' : List (List Int)) : ML encLI l = ML encLI l' ↔ l = l' := ML_inj inj_LI
@[simp] theorem ML_getD_LI (l : List (List Int)) (k : Nat) : (ML encLI l).getD k yLI = encLI (l.getD k []) := ML_getD l k []
@[simp] theorem ML_get2_LI (l : List (List Int)) (k : Nat) : (ML encLI l)[k]?.getD yLI = encLI (l.getD k []) := by rw [← List.getD_eq_getElem?_getD]; exact ML_getD l k []
@[simp] theorem ML_snoc_LI (l : List (List Int)) (a : List Int) : ML encLI l ++ [.sl false 1 (.lit (.int .i64 0)) (ML dI a)] = ML encLI (l ++ [a]) := ML_snoc (enc := encLI) l a
@[simp] theorem ML_cons_LI (l : List (List Int)) (a : List Int) : .sl false 1 (.lit (.int .i64 0)) (ML dI a) :: ML encLI l = ML encLI (a :: l) := rfl
@[simp] theorem ML_set_LI (l : List (List Int)) (k : Nat) (a : List Int) : (ML encLI l).set k (.sl false 1 (.lit (.int .i64 0)) (ML dI a)) = ML encLI (l.set k a) := ML_set (enc := encLI) l k a
@[simp] theorem ML_rep_LI (n : Nat) (a : List Int) : List.replicate n (.sl false 1 (.lit (.int .i64 0)) (ML dI a) : D) = ML encLI (List.replicate n a) := ML_rep (enc := encLI) n a
@[simp] theorem ML_pure_LI (l : List (List Int)) : puresD (ML encLI l) = true := ML_pure (fun x => by simp [pureD, puresD, ML_pure_I]) l
structure TInner where
  Outer : Int
  Thing : Int
instance : Inhabited TInner := ⟨⟨default, default⟩⟩
instance : DecidableEq TInner := fun a b => decidable_of_iff (a.Outer = b.Outer ∧ a.Thing = b.Thing) (by cases a; cases b; simp)
@[simp] theorem TInner_eta (x : TInner) : (⟨x.Outer, x.Thing⟩ : TInner) = x := rfl
@[simp] def encTInner (x : TInner) : D := .agg [.lit (.int .i64 x.Outer), .lit (.int .i64 x.Thing)]
def yTInner : D := encTInner default
def wfTInner (x : TInner) : Prop := inR .i64 x.Outer ∧ inR .i64 x.Thing
@[simp] def encLTInner (x : List TInner) : D := .sl false 2 yTInner (ML encTInner x)
def yLTInner : D := encLTInner []
def wfLTInner (x : List TInner) : Prop := x.length ≤ maxLen ∧ ∀ y ∈ x, wfTInner y
theorem inj_TInner : ∀ x y : TInner, encTInner x = encTInner y → x = y := by
  intro x y h
  obtain ⟨x0, x1⟩ := x
  obtain ⟨y0, y1⟩ := y
  simp [encTInner] at h
  first | exact h | simp [h] | (cases h; rfl)
@[simp] theorem ML_inj_TInner (l l' : List TInner) : ML encTInner l = ML encTInner l' ↔ l = l' := ML_inj inj_TInner
@[simp] theorem ML_getD_TInner (l : List TInner) (k : Nat) : (ML encTInner l).getD k yTInner = encTInner (l.getD k default) := ML_getD l k default
@[simp] theorem ML_get2_TInner (l : List TInner) (k : Nat) : (ML encTInner l)[k]?.getD yTInner = encTInner (l.getD k default) := by rw [← List.getD_eq_getElem?_getD]; exact ML_getD l k default
@[simp] theorem ML_snoc_TInner (l : List TInner) (a0 : Int) (a1 : Int) : ML encTInner l ++ [.agg [.lit (.int .i64 a0), .lit (.int .i64 a1)]] = ML encTInner (l ++ [⟨a0, a1⟩]) := ML_snoc (enc := encTInner) l ⟨a0, a1⟩
@[simp] theorem ML_cons_TInner (l : List TInner) (a0 : Int) (a1 : Int) : .agg [.lit (.int .i64 a0), .lit (.int .i64 a1)] :: ML encTInner l = ML encTInner (⟨a0, a1⟩ :: l) := rfl
@[simp] theorem ML_set_TInner (l : List TInner) (k : Nat) (a0 : Int) (a1 : Int) : (ML encTInner l).set k (.agg [.lit (.int .i64 a0), .lit (.int .i64 a1)]) = ML encTInner (l.set k ⟨a0, a1⟩) := ML_set (enc := encTInner) l k ⟨a0, a1⟩
@[simp] theorem ML_rep_TInner (n : Nat) (a0 : Int) (a1 : Int) : List.replicate n (.agg [.lit (.int .i64 a0), .lit (.int .i64 a1)] : D) = ML encTInner (List.replicate n ⟨a0, a1⟩) := ML_rep (enc := encTInner) n ⟨a0, a1⟩
@[simp] theorem ML_pure_TInner (l : List TInner) : puresD (ML encTInner l) = true := ML_pure (fun x => by simp [pureD, puresD]) l
@[simp] theorem ML_flat_TInner (l : List TInner) : flatDs (ML encTInner l) = true := ML_flat (fun x => by simp [flatD, flatDs]) l
structure TTicket where
  Id : Int
  At : Int
  Hour : Int
instance : Inhabited TTicket := ⟨⟨default, default, default⟩⟩
instance : DecidableEq TTicket := fun a b => decidable_of_iff (a.Id = b.Id ∧ a.At = b.At ∧ a.Hour = b.Hour) (by cases a; cases b; simp)
@[simp] theorem TTicket_eta (x : TTicket) : (⟨x.Id, x.At, x.Hour⟩ : TTicket) = x := rfl
@[simp] def encTTicket (x : TTicket) : D := .agg [.lit (.int .i64 x.Id), .lit (.int .i64 x.At), .lit (.int .i64 x.Hour)]
def yTTicket : D := encTTicket default
def wfTTicket (x : TTicket) : Prop := inR .i64 x.Id ∧ inR .i64 x.At ∧ inR .i64 x.Hour
@[simp] def encLTTicket (x : List TTicket) : D := .sl false 3 yTTicket (ML encTTicket x)
def yLTTicket : D := encLTTicket []
def wfLTTicket (x : List TTicket) : Prop := x.length ≤ maxLen ∧ ∀ y ∈ x, wfTTicket y
theorem inj_TTicket : ∀ x y : TTicket, encTTicket x = encTTicket y → x = y := by
  intro x y h
  obtain ⟨x0, x1, x2⟩ := x
  obtain ⟨y0, y1, y2⟩ := y
  simp [encTTicket] at h
  first | exact h | simp [h] | (cases h; rfl)
@[simp] theorem ML_inj_TTicket (l l' : List TTicket) : ML encTTicket l = ML encTTicket l' ↔ l = l' := ML_inj inj_TTicket
@[simp] theorem ML_getD_TTicket (l : List TTicket) (k : Nat) : (ML encTTicket l).getD k yTTicket = encTTicket (l.getD k default) := ML_getD l k default
@[simp] theorem ML_get2_TTicket (l : List TTicket) (k : Nat) : (ML encTTicket l)[k]?.getD yTTicket = encTTicket (l.getD k default) := by rw [← List.getD_eq_getElem?_getD]; exact ML_getD l k default
@[simp] theorem ML_snoc_TTicket (l : List TTicket) (a0 : Int) (a1 : Int) (a2 : Int) : ML encTTicket l ++ [.agg [.lit (.int .i64 a0), .lit (.int .i64 a1), .lit (.int .i64 a2)]] = ML encTTicket (l ++ [⟨a0, a1, a2⟩]) := ML_snoc (enc := encTTicket) l ⟨a0, a1, a2⟩
@[simp] theorem ML_cons_TTicket (l : List TTicket) (a0 : Int) (a1 : Int) (a2 : Int) : .agg [.lit (.int .i64 a0), .lit (.int .i64 a1), .lit (.int .i64 a2)] :: ML encTTicket l = ML encTTicket (⟨a0, a1, a2⟩ :: l) := rfl
@[simp] theorem ML_set_TTicket (l : List TTicket) (k : Nat) (a0 : Int) (a1 : Int) (a2 : Int) : (ML encTTicket l).set k (.agg [.lit (.int .i64 a0), .lit (.int .i64 a1), .lit (.int .i64 a2)]) = ML encTTicket (l.set k ⟨a0, a1, a2⟩) := ML_set (enc := encTTicket) l k ⟨a0, a1, a2⟩
@[simp] theorem ML_rep_TTicket (n : Nat) (a0 : Int) (a1 : Int) (a2 : Int) : List.replicate n (.agg [.lit (.int .i64 a0), .lit (.int .i64 a1), .lit (.int .i64 a2)] : D) = ML encTTicket (List.replicate n ⟨a0, a1, a2⟩) := ML_rep (enc := encTTicket) n ⟨a0, a1, a2⟩
@[simp] theorem ML_pure_TTicket (l : List TTicket) : puresD (ML encTTicket l) = true := ML_pure (fun x => by simp [pureD, puresD]) l
@[simp] theorem ML_flat_TTicket (l : List TTicket) : flatDs (ML encTTicket l) = true := ML_flat (fun x => by simp [flatD, flatDs]) l
structure TEntry where
  From : Int
  To : Int
  Cents : Int
  At : Int
instance : Inhabited TEntry := ⟨⟨default, default, default, default⟩⟩
instance : DecidableEq TEntry := fun a b => decidable_of_iff (a.From = b.From ∧ a.To = b.To ∧ a.Cents = b.Cents ∧ a.At = b.At) (by cases a; cases b; simp)
@[simp] theorem TEntry_eta (x : TEntry) : (⟨x.From, x.To, x.Cents, x.At⟩ : TEntry) = x := rfl
@[simp] def encTEntry (x : TEntry) : D := .agg [.lit (.int .i64 x.From), .lit (.int .i64 x.To), .lit (.int .i64 x.Cents), .lit (.int .i64 x.At)]
def yTEntry : D := encTEntry default
def wfTEntry (x : TEntry) : Prop := inR .i64 x.From ∧ inR .i64 x.To ∧ inR .i64 x.Cents ∧ inR .i64 x.At
@[simp] def encLTEntry (x : List TEntry) : D := .sl false 4 yTEntry (ML encTEntry x)
def yLTEntry : D := encLTEntry []
def wfLTEntry (x : List TEntry) : Prop := x.length ≤ maxLen ∧ ∀ y ∈ x, wfTEntry y
theorem inj_TEntry : ∀ x y : TEntry, encTEntry x = encTEntry y → x = y := by
  intro x y h
  obtain ⟨x0, x1, x2, x3⟩ := x
  obtain ⟨y0, y1, y2, y3⟩ := y
  simp [encTEntry] at h
  first | exact h | simp [h] | (cases h; rfl)
@[simp] theorem ML_inj_TEntry (l l' : List TEntry) : ML encTEntry l = ML encTEntry l' ↔ l = l' := ML_inj inj_TEntry
@[simp] theorem ML_getD_TEntry (l : List TEntry) (k : Nat) : (ML encTEntry l).getD k yTEntry = encTEntry (l.getD k default) := ML_getD l k default
@[simp] theorem ML_get2_TEntry (l : List TEntry) (k : Nat) : (ML encTEntry l)[k]?.getD yTEntry = encTEntry (l.getD k default) := by rw [← List.getD_eq_getElem?_getD]; exact ML_getD l k default
@[simp] theorem ML_snoc_TEntry (l : List TEntry) (a0 : Int) (a1 : Int) (a2 : Int) (a3 : Int) : ML encTEntry l ++ [.agg [.lit (.int .i64 a0), .lit (.int .i64 a1), .lit (.int .i64 a2), .lit (.int .i64 a3)]] = ML encTEntry (l ++ [⟨a0, a1, a2, a3⟩]) := ML_snoc (enc := encTEntry) l ⟨a0, a1, a2, a3⟩
@[simp] theorem ML_cons_TEntry (l : List TEntry) (a0 : Int) (a1 : Int) (a2 : Int) (a3 : Int) : .agg [.lit (.int .i64 a0), .lit (.int .i64 a1), .lit (.int .i64 a2), .lit (.int .i64 a3)] :: ML encTEntry l = ML encTEntry (⟨a0, a1, a2, a3⟩ :: l) := rfl
@[simp] theorem ML_set_TEntry (l : List TEntry) (k : Nat) (a0 : Int) (a1 : Int) (a2 : Int) (a3 : Int) : (ML encTEntry l).set k (.agg [.lit (.int .i64 a0), .lit (.int .i64 a1), .lit (.int .i64 a2), .lit (.int .i64 a3)]) = ML encTEntry (l.set k ⟨a0, a1, a2, a3⟩) := ML_set (enc := encTEntry) l k ⟨a0, a1, a2, a3⟩
@[simp] theorem ML_rep_TEntry (n : Nat) (a0 : Int) (a1 : Int) (a2 : Int) (a3 : Int) : List.replicate n (.agg [.lit (.int .i64 a0), .lit (.int .i64 a1), .lit (.int .i64 a2), .lit (.int .i64 a3)] : D) = ML encTEntry (List.replicate n ⟨a0, a1, a2, a3⟩) := ML_rep (enc := encTEntry) n ⟨a0, a1, a2, a3⟩
@[simp] theorem ML_pure_TEntry (l : List TEntry) : puresD (ML encTEntry l) = true := ML_pure (fun x => by simp [pureD, puresD]) l
@[simp] theorem ML_flat_TEntry (l : List TEntry) : flatDs (ML encTEntry l) = true := ML_flat (fun x => by simp [flatD, flatDs]) l
structure TPeak where
  number_ : Int
  count_ : Int
instance : Inhabited TPeak := ⟨⟨default, default⟩⟩
instance : DecidableEq TPeak := fun a b => decidable_of_iff (a.number_ = b.number_ ∧ a.count_ = b.count_) (by cases a; cases b; simp)
@[simp] theorem TPeak_eta (x : TPeak) : (⟨x.number_, x.count_⟩ : TPeak) = x := rfl
@[simp] def encTPeak (x : TPeak) : D := .agg [.lit (.int .i64 x.number_), .lit (.int .i64 x.count_)]
def yTPeak : D := encTPeak default
def wfTPeak (x : TPeak) : Prop := inR .i64 x.number_ ∧ inR .i64 x.count_
structure TQueue where
  waiting_ : List TTicket
instance : Inhabited TQueue := ⟨⟨default⟩⟩
instance : DecidableEq TQueue := fun a b => decidable_of_iff (a.waiting_ = b.waiting_) (by cases a; cases b; simp)
@[simp] theorem TQueue_eta (x : TQueue) : (⟨x.waiting_⟩ : TQueue) = x := rfl
@[simp] def encTQueue (x : TQueue) : D := .agg [.sl false 3 yTTicket (ML encTTicket x.waiting_)]
def yTQueue : D := encTQueue default
def wfTQueue (x : TQueue) : Prop := wfLTTicket x.waiting_
structure TFreeSlot where
  size_ : Int
  index_ : Int
instance : Inhabited TFreeSlot := ⟨⟨default, default⟩⟩
instance : DecidableEq TFreeSlot := fun a b => decidable_of_iff (a.size_ = b.size_ ∧ a.index_ = b.index_) (by cases a; cases b; simp)
@[simp] theorem TFreeSlot_eta (x : TFreeSlot) : (⟨x.size_, x.index_⟩ : TFreeSlot) = x := rfl
@[simp] def encTFreeSlot (x : TFreeSlot) : D := .agg [.lit (.int .i64 x.size_), .lit (.int .i64 x.index_)]
def yTFreeSlot : D := encTFreeSlot default
def wfTFreeSlot (x : TFreeSlot) : Prop := inR .i64 x.size_ ∧ inR .i64 x.index_
@[simp] def encLTFreeSlot (x : List TFreeSlot) : D := .sl false 2 yTFreeSlot (ML encTFreeSlot x)
def yLTFreeSlot : D := encLTFreeSlot []
def wfLTFreeSlot (x : List TFreeSlot) : Prop := x.length ≤ maxLen ∧ ∀ y ∈ x, wfTFreeSlot y
theorem inj_TFreeSlot : ∀ x y : TFreeSlot, encTFreeSlot x = encTFreeSlot y → x = y := by
  intro x y h
  obtain ⟨x0, x1⟩ := x
  obtain ⟨y0, y1⟩ := y
  simp [encTFreeSlot] at h
  first | exact h | simp [h] | (cases h; rfl)
@[simp] theorem ML_inj_TFreeSlot (l l' : List TFreeSlot) : ML encTFreeSlot l = ML encTFreeSlot l' ↔ l = l' := ML_inj inj_TFreeSlot
@[simp] theorem ML_getD_TFreeSlot (l : List TFreeSlot) (k : Nat) : (ML encTFreeSlot l).getD k yTFreeSlot = encTFreeSlot (l.getD k default) := ML_getD l k default
@[simp] theorem ML_get2_TFreeSlot (l : List TFreeSlot) (k : Nat) : (ML encTFreeSlot l)[k]?.getD yTFreeSlot = encTFreeSlot (l.getD k default) := by rw [← List.getD_eq_getElem?_getD]; exact ML_getD l k default
@[simp] theorem ML_snoc_TFreeSlot (l : List TFreeSlot) (a0 : Int) (a1 : Int) : ML encTFreeSlot l ++ [.agg [.lit (.int .i64 a0), .lit (.int .i64 a1)]] = ML encTFreeSlot (l ++ [⟨a0, a1⟩]) := ML_snoc (enc := encTFreeSlot) l ⟨a0, a1⟩
@[simp] theorem ML_cons_TFreeSlot (l : List TFreeSlot) (a0 : Int) (a1 : Int) : .agg [.lit (.int .i64 a0), .lit (.int .i64 a1)] :: ML encTFreeSlot l = ML encTFreeSlot (⟨a0, a1⟩ :: l) := rfl
@[simp] theorem ML_set_TFreeSlot (l : List TFreeSlot) (k : Nat) (a0 : Int) (a1 : Int) : (ML encTFreeSlot l).set k (.agg [.lit (.int .i64 a0), .lit (.int .i64 a1)]) = ML encTFreeSlot (l.set k ⟨a0, a1⟩) := ML_set (enc := encTFreeSlot) l k ⟨a0, a1⟩
@[simp] theorem ML_rep_TFreeSlot (n : Nat) (a0 : Int) (a1 : Int) : List.replicate n (.agg [.lit (.int .i64 a0), .lit (.int .i64 a1)] : D) = ML encTFreeSlot (List.replicate n ⟨a0, a1⟩) := ML_rep (enc := encTFreeSlot) n ⟨a0, a1⟩
@[simp] theorem ML_pure_TFreeSlot (l : List TFreeSlot) : puresD (ML encTFreeSlot l) = true := ML_pure (fun x => by simp [pureD, puresD]) l
@[simp] theorem ML_flat_TFreeSlot (l : List TFreeSlot) : flatDs (ML encTFreeSlot l) = true := ML_flat (fun x => by simp [flatD, flatDs]) l
end Go.Proofs.Ytmbgihklhmhilaa
