/- The data of this program as Lean types, and how they are held. -/
import Derived.Test.YtlpobdjfdbfhaaaEngB
namespace Go.Proofs.Ytlpobdjfdbfhaaa
open Go Go.Eng
set_option linter.unusedSimpArgs false
set_option linter.unusedVariables false
structure TThing where
  Id : Int
  Kind : Int
  Colour : Int
  Size : Int
  Worth : Int
instance : Inhabited TThing := ⟨⟨default, default, default, default, default⟩⟩
instance : DecidableEq TThing := fun a b => decidable_of_iff (a.Id = b.Id ∧ a.Kind = b.Kind ∧ a.Colour = b.Colour ∧ a.Size = b.Size ∧ a.Worth = b.Worth) (by cases a; cases b; simp)
@[simp] theorem TThing_eta (x : TThing) : (⟨x.Id, x.Kind, x.Colour, x.Size, x.Worth⟩ : TThing) = x := rfl
@[simp] def encTThing (x : TThing) : D := .agg [.lit (.int .i64 x.Id), .lit (.int .i64 x.Kind), .lit (.int .i64 x.Colour), .lit (.int .i64 x.Size), .lit (.int .i64 x.Worth)]
def yTThing : D := encTThing default
def wfTThing (x : TThing) : Prop := inR .i64 x.Id ∧ inR .i64 x.Kind ∧ inR .i64 x.Colour ∧ inR .i64 x.Size ∧ inR .i64 x.Worth
structure TFind where
  Thing : TThing
  Place : Int
  At : Int
  Finder : Int
instance : Inhabited TFind := ⟨⟨default, default, default, default⟩⟩
instance : DecidableEq TFind := fun a b => decidable_of_iff (a.Thing = b.Thing ∧ a.Place = b.Place ∧ a.At = b.At ∧ a.Finder = b.Finder) (by cases a; cases b; simp)
@[simp] theorem TFind_eta (x : TFind) : (⟨x.Thing, x.Place, x.At, x.Finder⟩ : TFind) = x := rfl
@[simp] def encTFind (x : TFind) : D := .agg [.lit (.int .i64 x.Thing.Id), .lit (.int .i64 x.Thing.Kind), .lit (.int .i64 x.Thing.Colour), .lit (.int .i64 x.Thing.Size), .lit (.int .i64 x.Thing.Worth), .lit (.int .i64 x.Place), .lit (.int .i64 x.At), .lit (.int .i64 x.Finder)]
def yTFind : D := encTFind default
def wfTFind (x : TFind) : Prop := wfTThing x.Thing ∧ inR .i64 x.Place ∧ inR .i64 x.At ∧ inR .i64 x.Finder
@[simp] def encLTFind (x : List TFind) : D := .sl false 8 yTFind (ML encTFind x)
def yLTFind : D := encLTFind []
def wfLTFind (x : List TFind) : Prop := x.length ≤ maxLen ∧ ∀ y ∈ x, wfTFind y
theorem inj_TFind : ∀ x y : TFind, encTFind x = encTFind y → x = y := by
  intro x y h
  obtain ⟨⟨x00, x01, x02, x03, x04⟩, x1, x2, x3⟩ := x
  obtain ⟨⟨y00, y01, y02, y03, y04⟩, y1, y2, y3⟩ := y
  simp [encTFind] at h
  first | exact h | simp [h] | (cases h; rfl)
@[simp] theorem ML_inj_TFind (l l' : List TFind) : ML encTFind l = ML encTFind l' ↔ l = l' := ML_inj inj_TFind
@[simp] theorem ML_getD_TFind (l : List TFind) (k : Nat) : (ML encTFind l).getD k yTFind = encTFind (l.getD k default) := ML_getD l k default
@[simp] theorem ML_get2_TFind (l : List TFind) (k : Nat) : (ML encTFind l)[k]?.getD yTFind = encTFind (l.getD k default) := by rw [← List.getD_eq_getElem?_getD]; exact ML_getD l k default
@[simp] theorem ML_snoc_TFind (l : List TFind) (a00 : Int) (a01 : Int) (a02 : Int) (a03 : Int) (a04 : Int) (a1 : Int) (a2 : Int) (a3 : Int) : ML encTFind l ++ [.agg [.lit (.int .i64 a00), .lit (.int .i64 a01), .lit (.int .i64 a02), .lit (.int .i64 a03), .lit (.int .i64 a04), .lit (.int .i64 a1), .lit (.int .i64 a2), .lit (.int .i64 a3)]] = ML encTFind (l ++ [⟨⟨a00, a01, a02, a03, a04⟩, a1, a2, a3⟩]) := ML_snoc (enc := encTFind) l ⟨⟨a00, a01, a02, a03, a04⟩, a1, a2, a3⟩
@[simp] theorem ML_cons_TFind (l : List TFind) (a00 : Int) (a01 : Int) (a02 : Int) (a03 : Int) (a04 : Int) (a1 : Int) (a2 : Int) (a3 : Int) : .agg [.lit (.int .i64 a00), .lit (.int .i64 a01), .lit (.int .i64 a02), .lit (.int .i64 a03), .lit (.int .i64 a04), .lit (.int .i64 a1), .lit (.int .i64 a2), .lit (.int .i64 a3)] :: ML encTFind l = ML encTFind (⟨⟨a00, a01, a02, a03, a04⟩, a1, a2, a3⟩ :: l) := rfl
@[simp] theorem ML_set_TFind (l : List TFind) (k : Nat) (a00 : Int) (a01 : Int) (a02 : Int) (a03 : Int) (a04 : Int) (a1 : Int) (a2 : Int) (a3 : Int) : (ML encTFind l).set k (.agg [.lit (.int .i64 a00), .lit (.int .i64 a01), .lit (.int .i64 a02), .lit (.int .i64 a03), .lit (.int .i64 a04), .lit (.int .i64 a1), .lit (.int .i64 a2), .lit (.int .i64 a3)]) = ML encTFind (l.set k ⟨⟨a00, a01, a02, a03, a04⟩, a1, a2, a3⟩) := ML_set (enc := encTFind) l k ⟨⟨a00, a01, a02, a03, a04⟩, a1, a2, a3⟩
@[simp] theorem ML_rep_TFind (n : Nat) (a00 : Int) (a01 : Int) (a02 : Int) (a03 : Int) (a04 : Int) (a1 : Int) (a2 : Int) (a3 : Int) : List.replicate n (.agg [.lit (.int .i64 a00), .lit (.int .i64 a01), .lit (.int .i64 a02), .lit (.int .i64 a03), .lit (.int .i64 a04), .lit (.int .i64 a1), .lit (.int .i64 a2), .lit (.int .i64 a3)] : D) = ML encTFind (List.replicate n ⟨⟨a00, a01, a02, a03, a04⟩, a1, a2, a3⟩) := ML_rep (enc := encTFind) n ⟨⟨a00, a01, a02, a03, a04⟩, a1, a2, a3⟩
@[simp] theorem ML_pure_TFind (l : List TFind) : puresD (ML encTFind l) = true := ML_pure (fun x => by simp [pureD, puresD]) l
@[simp] theorem ML_flat_TFind (l : List TFind) : flatDs (ML encTFind l) = true := ML_flat (fun x => by simp [flatD, flatDs]) l
@[simp] def encLI (x : List Int) : D := .sl false 1 (.lit (.int .i64 0)) (ML dI x)
def yLI : D := encLI []
def wfLI (x : List Int) : Prop := x.length ≤ maxLen ∧ ∀ y ∈ x, inR .i64 y
theorem inj_I : ∀ x y : Int, dI x = dI y → x = y := by
  intro x y h
  simp [dI] at h
  first | exact h | simp [h] | (cases h; rfl)
@[simp] theorem ML_inj_I (l l' : List Int) : ML dI l = ML dI l' ↔ l = l' := ML_inj inj_I
@[simp] theorem ML_getD_I (l : List Int) (k : Nat) : (ML dI l).getD k (.lit (.int .i64 0)) = dI (l.getD k 0) := ML_getD l k 0
@[simp] theorem ML_get2_I (l : List Int) (k : Nat) : (ML dI l)[k]?.getD (.lit (.int .i64 0)) = dI (l.getD k 0) := by rw [← List.getD_eq_getElem?_getD]; exact ML_getD l k 0
@[simp] theorem ML_snoc_I (l : List Int) (a : Int) : ML dI l ++ [.lit (.int .i64 a)] = ML dI (l ++ [a]) := ML_snoc (enc := dI) l a
@[simp] theorem ML_cons_I (l : List Int) (a : Int) : .lit (.int .i64 a) :: ML dI l = ML dI (a :: l) := rfl
@[simp] theorem ML_set_I (l : List Int) (k : Nat) (a : Int) : (ML dI l).set k (.lit (.int .i64 a)) = ML dI (l.set k a) := ML_set (enc := dI) l k a
@[simp] theorem ML_rep_I (n : Nat) (a : Int) : List.replicate n (.lit (.int .i64 a) : D) = ML dI (List.replicate n a) := ML_rep (enc := dI) n a
@[simp] theorem ML_pure_I (l : List Int) : puresD (ML dI l) = true := ML_pure (fun x => by simp [pureD, puresD]) l
@[simp] theorem ML_flat_I (l : List Int) : flatDs (ML dI l) = true := ML_flat (fun x => by simp [flatD, flatDs]) l
structure TSpan where
  From : Int
  Until : Int
instance : Inhabited TSpan := ⟨⟨default, default⟩⟩
instance : DecidableEq TSpan := fun a b => decidable_of_iff (a.From = b.From ∧ a.Until = b.Until) (by cases a; cases b; simp)
@[simp] theorem TSpan_eta (x : TSpan) : (⟨x.From, x.Until⟩ : TSpan) = x := rfl
@[simp] def encTSpan (x : TSpan) : D := .agg [.lit (.int .i64 x.From), .lit (.int .i64 x.Until)]
def yTSpan : D := encTSpan default
def wfTSpan (x : TSpan) : Prop := inR .i64 x.From ∧ inR .i64 x.Until
structure TReport where
  Id : Int
  Kind : Int
  Colours : List Int
  SizeLow : Int
  SizeHigh : Int
  Places : List Int
  Span : TSpan
instance : Inhabited TReport := ⟨⟨default, default, default, default, default, default, default⟩⟩
instance : DecidableEq TReport := fun a b => decidable_of_iff (a.Id = b.Id ∧ a.Kind = b.Kind ∧ a.Colours = b.Colours ∧ a.SizeLow = b.SizeLow ∧ a.SizeHigh = b.SizeHigh ∧ a.Places = b.Places ∧ a.Span = b.Span) (by cases a; cases b; simp)
@[simp] theorem TReport_eta (x : TReport) : (⟨x.Id, x.Kind, x.Colours, x.SizeLow, x.SizeHigh, x.Places, x.Span⟩ : TReport) = x := rfl
@[simp] def encTReport (x : TReport) : D := .agg [.lit (.int .i64 x.Id), .lit (.int .i64 x.Kind), .sl false 1 (.lit (.int .i64 0)) (ML dI x.Colours), .lit (.int .i64 x.SizeLow), .lit (.int .i64 x.SizeHigh), .sl false 1 (.lit (.int .i64 0)) (ML dI x.Places), .lit (.int .i64 x.Span.From), .lit (.int .i64 x.Span.Until)]
def yTReport : D := encTReport default
def wfTReport (x : TReport) : Prop := inR .i64 x.Id ∧ inR .i64 x.Kind ∧ wfLI x.Colours ∧ inR .i64 x.SizeLow ∧ inR .i64 x.SizeHigh ∧ wfLI x.Places ∧ wfTSpan x.Span
@[simp] def encLTReport (x : List TReport) : D := .sl false 8 yTReport (ML encTReport x)
def yLTReport : D := encLTReport []
def wfLTReport (x : List TReport) : Prop := x.length ≤ maxLen ∧ ∀ y ∈ x, wfTReport y
theorem inj_TReport : ∀ x y : TReport, encTReport x = encTReport y → x = y := by
  intro x y h
  obtain ⟨x0, x1, x2, x3, x4, x5, ⟨x60, x61⟩⟩ := x
  obtain ⟨y0, y1, y2, y3, y4, y5, ⟨y60, y61⟩⟩ := y
  simp [encTReport] at h
  first | exact h | simp [h] | (cases h; rfl)
@[simp] theorem ML_inj_TReport (l l' : List TReport) : ML encTReport l = ML encTReport l' ↔ l = l' := ML_inj inj_TReport
@[simp] theorem ML_getD_TReport (l : List TReport) (k : Nat) : (ML encTReport l).getD k yTReport = encTReport (l.getD k default) := ML_getD l k default
@[simp] theorem ML_get2_TReport (l : List TReport) (k : Nat) : (ML encTReport l)[k]?.getD yTReport = encTReport (l.getD k default) := by rw [← List.getD_eq_getElem?_getD]; exact ML_getD l k default
@[simp] theorem ML_snoc_TReport (l : List TReport) (a0 : Int) (a1 : Int) (a2 : List Int) (a3 : Int) (a4 : Int) (a5 : List Int) (a60 : Int) (a61 : Int) : ML encTReport l ++ [.agg [.lit (.int .i64 a0), .lit (.int .i64 a1), .sl false 1 (.lit (.int .i64 0)) (ML dI a2), .lit (.int .i64 a3), .lit (.int .i64 a4), .sl false 1 (.lit (.int .i64 0)) (ML dI a5), .lit (.int .i64 a60), .lit (.int .i64 a61)]] = ML encTReport (l ++ [⟨a0, a1, a2, a3, a4, a5, ⟨a60, a61⟩⟩]) := ML_snoc (enc := encTReport) l ⟨a0, a1, a2, a3, a4, a5, ⟨a60, a61⟩⟩
@[simp] theorem ML_cons_TReport (l : List TReport) (a0 : Int) (a1 : Int) (a2 : List Int) (a3 : Int) (a4 : Int) (a5 : List Int) (a60 : Int) (a61 : Int) : .agg [.lit (.int .i64 a0), .lit (.int .i64 a1), .sl false 1 (.lit (.int .i64 0)) (ML dI a2), .lit (.int .i64 a3), .lit (.int .i64 a4), .sl false 1 (.lit (.int .i64 0)) (ML dI a5), .lit (.int .i64 a60), .lit (.int .i64 a61)] :: ML encTReport l = ML encTReport (⟨a0, a1, a2, a3, a4, a5, ⟨a60, a61⟩⟩ :: l) := rfl
@[simp] theorem ML_set_TReport (l : List TReport) (k : Nat) (a0 : Int) (a1 : Int) (a2 : List Int) (a3 : Int) (a4 : Int) (a5 : List Int) (a60 : Int) (a61 : Int) : (ML encTReport l).set k (.agg [.lit (.int .i64 a0), .lit (.int .i64 a1), .sl false 1 (.lit (.int .i64 0)) (ML dI a2), .lit (.int .i64 a3), .lit (.int .i64 a4), .sl false 1 (.lit (.int .i64 0)) (ML dI a5), .lit (.int .i64 a60), .lit (.int .i64 a61)]) = ML encTReport (l.set k ⟨a0, a1, a2, a3, a4, a5, ⟨a60, a61⟩⟩) := ML_set (enc := encTReport) l k ⟨a0, a1, a2, a3, a4, a5, ⟨a60, a61⟩⟩
@[simp] theorem ML_rep_TReport (n : Nat) (a0 : Int) (a1 : Int) (a2 : List Int) (a3 : Int) (a4 : Int) (a5 : List Int) (a60 : Int) (a61 : Int) : List.replicate n (.agg [.lit (.int .i64 a0), .lit (.int .i64 a1), .sl false 1 (.lit (.int .i64 0)) (ML dI a2), .lit (.int .i64 a3), .lit (.int .i64 a4), .sl false 1 (.lit (.int .i64 0)) (ML dI a5), .lit (.int .i64 a60), .lit (.int .i64 a61)] : D) = ML encTReport (List.replicate n ⟨a0, a1, a2, a3, a4, a5, ⟨a60, a61⟩⟩) := ML_rep (enc := encTReport) n ⟨a0, a1, a2, a3, a4, a5, ⟨a60, a61⟩⟩
@[simp] theorem ML_pure_TReport (l : List TReport) : puresD (ML encTReport l) = true := ML_pure (fun x => by simp [pureD, puresD]) l
structure TDoubt where
  Colours : List Int
  Size : Int
  Places : List Int
  Hours : Int
instance : Inhabited TDoubt := ⟨⟨default, default, default, default⟩⟩
instance : DecidableEq TDoubt := fun a b => decidable_of_iff (a.Colours = b.Colours ∧ a.Size = b.Size ∧ a.Places = b.Places ∧ a.Hours = b.Hours) (by cases a; cases b; simp)
@[simp] theorem TDoubt_eta (x : TDoubt) : (⟨x.Colours, x.Size, x.Places, x.Hours⟩ : TDoubt) = x := rfl
@[simp] def encTDoubt (x : TDoubt) : D := .agg [.sl false 1 (.lit (.int .i64 0)) (ML dI x.Colours), .lit (.int .i64 x.Size), .sl false 1 (.lit (.int .i64 0)) (ML dI x.Places), .lit (.int .i64 x.Hours)]
def yTDoubt : D := encTDoubt default
def wfTDoubt (x : TDoubt) : Prop := wfLI x.Colours ∧ inR .i64 x.Size ∧ wfLI x.Places ∧ inR .i64 x.Hours
structure TStop where
  Place : Int
  Arrive : Int
  Leave : Int
instance : Inhabited TStop := ⟨⟨default, default, default⟩⟩
instance : DecidableEq TStop := fun a b => decidable_of_iff (a.Place = b.Place ∧ a.Arrive = b.Arrive ∧ a.Leave = b.Leave) (by cases a; cases b; simp)
@[simp] theorem TStop_eta (x : TStop) : (⟨x.Place, x.Arrive, x.Leave⟩ : TStop) = x := rfl
@[simp] def encTStop (x : TStop) : D := .agg [.lit (.int .i64 x.Place), .lit (.int .i64 x.Arrive), .lit (.int .i64 x.Leave)]
def yTStop : D := encTStop default
def wfTStop (x : TStop) : Prop := inR .i64 x.Place ∧ inR .i64 x.Arrive ∧ inR .i64 x.Leave
@[simp] def encLTStop (x : List TStop) : D := .sl false 3 yTStop (ML encTStop x)
def yLTStop : D := encLTStop []
def wfLTStop (x : List TStop) : Prop := x.length ≤ maxLen ∧ ∀ y ∈ x, wfTStop y
theorem inj_TStop : ∀ x y : TStop, encTStop x = encTStop y → x = y := by
  intro x y h
  obtain ⟨x0, x1, x2⟩ := x
  obtain ⟨y0, y1, y2⟩ := y
  simp [encTStop] at h
  first | exact h | simp [h] | (cases h; rfl)
@[simp] theorem ML_inj_TStop (l l' : List TStop) : ML encTStop l = ML encTStop l' ↔ l = l' := ML_inj inj_TStop
@[simp] theorem ML_getD_TStop (l : List TStop) (k : Nat) : (ML encTStop l).getD k yTStop = encTStop (l.getD k default) := ML_getD l k default
@[simp] theorem ML_get2_TStop (l : List TStop) (k : Nat) : (ML encTStop l)[k]?.getD yTStop = encTStop (l.getD k default) := by rw [← List.getD_eq_getElem?_getD]; exact ML_getD l k default
@[simp] theorem ML_snoc_TStop (l : List TStop) (a0 : Int) (a1 : Int) (a2 : Int) : ML encTStop l ++ [.agg [.lit (.int .i64 a0), .lit (.int .i64 a1), .lit (.int .i64 a2)]] = ML encTStop (l ++ [⟨a0, a1, a2⟩]) := ML_snoc (enc := encTStop) l ⟨a0, a1, a2⟩
@[simp] theorem ML_cons_TStop (l : List TStop) (a0 : Int) (a1 : Int) (a2 : Int) : .agg [.lit (.int .i64 a0), .lit (.int .i64 a1), .lit (.int .i64 a2)] :: ML encTStop l = ML encTStop (⟨a0, a1, a2⟩ :: l) := rfl
@[simp] theorem ML_set_TStop (l : List TStop) (k : Nat) (a0 : Int) (a1 : Int) (a2 : Int) : (ML encTStop l).set k (.agg [.lit (.int .i64 a0), .lit (.int .i64 a1), .lit (.int .i64 a2)]) = ML encTStop (l.set k ⟨a0, a1, a2⟩) := ML_set (enc := encTStop) l k ⟨a0, a1, a2⟩
@[simp] theorem ML_rep_TStop (n : Nat) (a0 : Int) (a1 : Int) (a2 : Int) : List.replicate n (.agg [.lit (.int .i64 a0), .lit (.int .i64 a1), .lit (.int .i64 a2)] : D) = ML encTStop (List.replicate n ⟨a0, a1, a2⟩) := ML_rep (enc := encTStop) n ⟨a0, a1, a2⟩
@[simp] theorem ML_pure_TStop (l : List TStop) : puresD (ML encTStop l) = true := ML_pure (fun x => by simp [pureD, puresD]) l
@[simp] theorem ML_flat_TStop (l : List TStop) : flatDs (ML encTStop l) = true := ML_flat (fun x => by simp [flatD, flatDs]) l
@[simp] def encLB (x : List Bool) : D := .sl false 1 (.lit (.bool false)) (ML dB x)
def yLB : D := encLB []
def wfLB (x : List Bool) : Prop := x.length ≤ maxLen ∧ True
theorem inj_B : ∀ x y : Bool, dB x = dB y → x = y := by
  intro x y h
  simp [dI] at h
  first | exact h | simp [h] | (cases h; rfl)
@[simp] theorem ML_inj_B (l l' : List Bool) : ML dB l = ML dB l' ↔ l = l' := ML_inj inj_B
@[simp] theorem ML_getD_B (l : List Bool) (k : Nat) : (ML dB l).getD k (.lit (.bool false)) = dB (l.getD k false) := ML_getD l k false
@[simp] theorem ML_get2_B (l : List Bool) (k : Nat) : (ML dB l)[k]?.getD (.lit (.bool false)) = dB (l.getD k false) := by rw [← List.getD_eq_getElem?_getD]; exact ML_getD l k false
@[simp] theorem ML_snoc_B (l : List Bool) (a : Bool) : ML dB l ++ [.lit (.bool a)] = ML dB (l ++ [a]) := ML_snoc (enc := dB) l a
@[simp] theorem ML_cons_B (l : List Bool) (a : Bool) : .lit (.bool a) :: ML dB l = ML dB (a :: l) := rfl
@[simp] theorem ML_set_B (l : List Bool) (k : Nat) (a : Bool) : (ML dB l).set k (.lit (.bool a)) = ML dB (l.set k a) := ML_set (enc := dB) l k a
@[simp] theorem ML_rep_B (n : Nat) (a : Bool) : List.replicate n (.lit (.bool a) : D) = ML dB (List.replicate n a) := ML_rep (enc := dB) n a
@[simp] theorem ML_pure_B (l : List Bool) : puresD (ML dB l) = true := ML_pure (fun x => by simp [pureD, puresD]) l
@[simp] theorem ML_flat_B (l : List Bool) : flatDs (ML dB l) = true := ML_flat (fun x => by simp [flatD, flatDs]) l
@[simp] def encLLI (x : List (List Int)) : D := .sl false 1 yLI (ML encLI x)
def yLLI : D := encLLI []
def wfLLI (x : List (List Int)) : Prop := x.length ≤ maxLen ∧ ∀ y ∈ x, wfLI y
theorem inj_LI : ∀ x y : List Int, encLI x = encLI y → x = y := by
  intro x y h
  simp [encLI] at h
  first | exact h | simp [h] | (cases h; rfl)
@[simp] theorem ML_inj_LI (l l' : List (List Int)) : ML encLI l = ML encLI l' ↔ l = l' := ML_inj inj_LI
@[simp] theorem ML_getD_LI (l : List (List Int)) (k : Nat) : (ML encLI l).getD k yLI = encLI (l.getD k []) := ML_getD l k []
@[simp] theorem ML_get2_LI (l : List (List Int)) (k : Nat) : (ML encLI l)[k]?.getD yLI = encLI (l.getD k []) := by rw [← List.getD_eq_getElem?_getD]; exact ML_getD l k []
@[simp] theorem ML_snoc_LI (l : List (List Int)) (a : List Int) : ML encLI l ++ [.sl false 1 (.lit (.int .i64 0)) (ML dI a)] = ML encLI (l ++ [a]) := ML_snoc (enc := encLI) l a
@[simp] theorem ML_cons_LI (l : List (List Int)) (a : List Int) : .sl false 1 (.lit (.int .i64 0)) (ML dI a) :: ML encLI l = ML encLI (a :: l) := rfl
@[simp] theorem ML_set_LI (l : List (List Int)) (k : Nat) (a : List Int) : (ML encLI l).set k (.sl false 1 (.lit (.int .i64 0)) (ML dI a)) = ML encLI (l.set k a) := ML_set (enc := encLI) l k a
@[simp] theorem ML_rep_LI (n : Nat) (a : List Int) : List.replicate n (.sl false 1 (.lit (.int .i64 0)) (ML dI a) : D) = ML encLI (List.replicate n a) := ML_rep (enc := encLI) n a
@[simp] theorem ML_pure_LI (l : List (List Int)) : puresD (ML encLI l) = true := ML_pure (fun x => by simp [pureD, puresD, ML_pure_I]) l
structure TMeeting where
  with_ : TSpan
instance : Inhabited TMeeting := ⟨⟨default⟩⟩
instance : DecidableEq TMeeting := fun a b => decidable_of_iff (a.with_ = b.with_) (by cases a; cases b; simp)
@[simp] theorem TMeeting_eta (x : TMeeting) : (⟨x.with_⟩ : TMeeting) = x := rfl
@[simp] def encTMeeting (x : TMeeting) : D := .agg [.lit (.int .i64 x.with_.From), .lit (.int .i64 x.with_.Until)]
def yTMeeting : D := encTMeeting default
def wfTMeeting (x : TMeeting) : Prop := wfTSpan x.with_
structure TWidening where
  by_ : Int
instance : Inhabited TWidening := ⟨⟨default⟩⟩
instance : DecidableEq TWidening := fun a b => decidable_of_iff (a.by_ = b.by_) (by cases a; cases b; simp)
@[simp] theorem TWidening_eta (x : TWidening) : (⟨x.by_⟩ : TWidening) = x := rfl
@[simp] def encTWidening (x : TWidening) : D := .agg [.lit (.int .i64 x.by_)]
def yTWidening : D := encTWidening default
def wfTWidening (x : TWidening) : Prop := inR .i64 x.by_
end Go.Proofs.Ytlpobdjfdbfhaaa
