/- The data of this program as Lean types, and how they are held. -/
import Derived.Test.YtdemoobiiijmoaaEngB
namespace Go.Proofs.Ytdemoobiiijmoaa
open Go Go.Eng
set_option linter.unusedSimpArgs false
set_option linter.unusedVariables false
/-- what the package variables hold -/
def glD : Nat → D
  | _ => .any
instance : HasG := ⟨glD⟩
@[simp] theorem gl_0 : HasG.gl 0 = .any := rfl
@[simp] theorem gl_1 : HasG.gl 1 = .any := rfl
@[simp] theorem gl_2 : HasG.gl 2 = .any := rfl
@[simp] theorem gl_3 : HasG.gl 3 = .any := rfl
@[simp] theorem gl_4 : HasG.gl 4 = .any := rfl
@[simp] theorem gl_5 : HasG.gl 5 = .any := rfl
@[simp] theorem gl_6 : HasG.gl 6 = .any := rfl
@[simp] theorem gl_7 : HasG.gl 7 = .any := rfl
structure TSlot where
  Id : Int
  Size : Int
  Thing : Int
instance : Inhabited TSlot := ⟨⟨default, default, default⟩⟩
instance : DecidableEq TSlot := fun a b => decidable_of_iff (a.Id = b.Id ∧ a.Size = b.Size ∧ a.Thing = b.Thing) (by cases a; cases b; simp)
@[simp] theorem TSlot_eta (x : TSlot) : (⟨x.Id, x.Size, x.Thing⟩ : TSlot) = x := rfl
@[simp] def encTSlot (x : TSlot) : D := .agg [.lit (.int .i64 x.Id), .lit (.int .i64 x.Size), .lit (.int .i64 x.Thing)]
def yTSlot : D := encTSlot default
def wfTSlot (x : TSlot) : Prop := inR .i64 x.Id ∧ inR .i64 x.Size ∧ inR .i64 x.Thing
@[simp] def encLTSlot (x : List TSlot) : D := .sl false 3 yTSlot (ML encTSlot x)
def yLTSlot : D := encLTSlot []
def wfLTSlot (x : List TSlot) : Prop := x.length ≤ maxLen ∧ ∀ y ∈ x, wfTSlot y
theorem inj_TSlot : ∀ x y : TSlot, encTSlot x = encTSlot y → x = y := by
  intro x y h
  obtain ⟨x0, x1, x2⟩ := x
  obtain ⟨y0, y1, y2⟩ := y
  simp [encTSlot] at h
  first | exact h | simp [h] | (cases h; rfl)
@[simp] theorem ML_inj_TSlot (l l' : List TSlot) : ML encTSlot l = ML encTSlot l' ↔ l = l' := ML_inj inj_TSlot
@[simp] theorem ML_getD_TSlot (l : List TSlot) (k : Nat) : (ML encTSlot l).getD k yTSlot = encTSlot (l.getD k default) := ML_getD l k default
@[simp] theorem ML_get2_TSlot (l : List TSlot) (k : Nat) : (ML encTSlot l)[k]?.getD yTSlot = encTSlot (l.getD k default) := by rw [← List.getD_eq_getElem?_getD]; exact ML_getD l k default
@[simp] theorem ML_snoc_TSlot (l : List TSlot) (a0 : Int) (a1 : Int) (a2 : Int) : ML encTSlot l ++ [.agg [.lit (.int .i64 a0), .lit (.int .i64 a1), .lit (.int .i64 a2)]] = ML encTSlot (l ++ [⟨a0, a1, a2⟩]) := ML_snoc (enc := encTSlot) l ⟨a0, a1, a2⟩
@[simp] theorem ML_cons_TSlot (l : List TSlot) (a0 : Int) (a1 : Int) (a2 : Int) : .agg [.lit (.int .i64 a0), .lit (.int .i64 a1), .lit (.int .i64 a2)] :: ML encTSlot l = ML encTSlot (⟨a0, a1, a2⟩ :: l) := rfl
@[simp] theorem ML_set_TSlot (l : List TSlot) (k : Nat) (a0 : Int) (a1 : Int) (a2 : Int) : (ML encTSlot l).set k (.agg [.lit (.int .i64 a0), .lit (.int .i64 a1), .lit (.int .i64 a2)]) = ML encTSlot (l.set k ⟨a0, a1, a2⟩) := ML_set (enc := encTSlot) l k ⟨a0, a1, a2⟩
@[simp] theorem ML_rep_TSlot (n : Nat) (a0 : Int) (a1 : Int) (a2 : Int) : List.replicate n (.agg [.lit (.int .i64 a0), .lit (.int .i64 a1), .lit (.int .i64 a2)] : D) = ML encTSlot (List.replicate n ⟨a0, a1, a2⟩) := ML_rep (enc := encTSlot) n ⟨a0, a1, a2⟩
@[simp] theorem ML_pure_TSlot (l : List TSlot) : puresD (ML encTSlot l) = true := ML_pure (fun x => by simp [pureD, puresD]) l
@[simp] theorem ML_flat_TSlot (l : List TSlot) : flatDs (ML encTSlot l) = true := ML_flat (fun x => by simp [flatD, flatDs]) l
structure TThing where
  Id : Int
  Kind : Int
  Colour : Int
  Size : Int
  Worth : Int
instance : Inhabited TThing := ⟨⟨default, default, default, default, default⟩⟩
instance : DecidableEq TThing := fun a b => decidable_of_iff (a.Id = b.Id ∧ a.Kind = b.Kind ∧ a.Colour = b.Colour ∧ a.Size = b.Size ∧ a.Worth = b.Worth) (by cases a; cases b; simp)
@[simp] theorem TThing_eta (x : TThing) : (⟨x.Id, x.Kind, x.Colour, x.Size, x.Worth⟩ : TThing) = x := rfl
@[simp] def encTThing (x : TThing) : D := .agg [.lit (.int .i64 x.Id), .lit (.int .i64 x.Kind), .lit (.int .i64 x.Colour), .lit (.int .i64 x.Size), .lit (.int .i64 x.Worth)]
def yTThing : D := encTThing default
def wfTThing (x : TThing) : Prop := inR .i64 x.Id ∧ inR .i64 x.Kind ∧ inR .i64 x.Colour ∧ inR .i64 x.Size ∧ inR .i64 x.Worth
@[simp] def encLTThing (x : List TThing) : D := .sl false 5 yTThing (ML encTThing x)
def yLTThing : D := encLTThing []
def wfLTThing (x : List TThing) : Prop := x.length ≤ maxLen ∧ ∀ y ∈ x, wfTThing y
theorem inj_TThing : ∀ x y : TThing, encTThing x = encTThing y → x = y := by
  intro x y h
  obtain ⟨x0, x1, x2, x3, x4⟩ := x
  obtain ⟨y0, y1, y2, y3, y4⟩ := y
  simp [encTThing] at h
  first | exact h | simp [h] | (cases h; rfl)
@[simp] theorem ML_inj_TThing (l l' : List TThing) : ML encTThing l = ML encTThing l' ↔ l = l' := ML_inj inj_TThing
@[simp] theorem ML_getD_TThing (l : List TThing) (k : Nat) : (ML encTThing l).getD k yTThing = encTThing (l.getD k default) := ML_getD l k default
@[simp] theorem ML_get2_TThing (l : List TThing) (k : Nat) : (ML encTThing l)[k]?.getD yTThing = encTThing (l.getD k default) := by rw [← List.getD_eq_getElem?_getD]; exact ML_getD l k default
@[simp] theorem ML_snoc_TThing (l : List TThing) (a0 : Int) (a1 : Int) (a2 : Int) (a3 : Int) (a4 : Int) : ML encTThing l ++ [.agg [.lit (.int .i64 a0), .lit (.int .i64 a1), .lit (.int .i64 a2), .lit (.int .i64 a3), .lit (.int .i64 a4)]] = ML encTThing (l ++ [⟨a0, a1, a2, a3, a4⟩]) := ML_snoc (enc := encTThing) l ⟨a0, a1, a2, a3, a4⟩
@[simp] theorem ML_cons_TThing (l : List TThing) (a0 : Int) (a1 : Int) (a2 : Int) (a3 : Int) (a4 : Int) : .agg [.lit (.int .i64 a0), .lit (.int .i64 a1), .lit (.int .i64 a2), .lit (.int .i64 a3), .lit (.int .i64 a4)] :: ML encTThing l = ML encTThing (⟨a0, a1, a2, a3, a4⟩ :: l) := rfl
@[simp] theorem ML_set_TThing (l : List TThing) (k : Nat) (a0 : Int) (a1 : Int) (a2 : Int) (a3 : Int) (a4 : Int) : (ML encTThing l).set k (.agg [.lit (.int .i64 a0), .lit (.int .i64 a1), .lit (.int .i64 a2), .lit (.int .i64 a3), .lit (.int .i64 a4)]) = ML encTThing (l.set k ⟨a0, a1, a2, a3, a4⟩) := ML_set (enc := encTThing) l k ⟨a0, a1, a2, a3, a4⟩
@[simp] theorem ML_rep_TThing (n : Nat) (a0 : Int) (a1 : Int) (a2 : Int) (a3 : Int) (a4 : Int) : List.replicate n (.agg [.lit (.int .i64 a0), .lit (.int .i64 a1), .lit (.int .i64 a2), .lit (.int .i64 a3), .lit (.int .i64 a4)] : D) = ML encTThing (List.replicate n ⟨a0, a1, a2, a3, a4⟩) := ML_rep (enc := encTThing) n ⟨a0, a1, a2, a3, a4⟩
@[simp] theorem ML_pure_TThing (l : List TThing) : puresD (ML encTThing l) = true := ML_pure (fun x => by simp [pureD, puresD]) l
@[simp] theorem ML_flat_TThing (l : List TThing) : flatDs (ML encTThing l) = true := ML_flat (fun x => by simp [flatD, flatDs]) l
@[simp] def encLI (x : List Int) : D := .sl false 1 (.lit (.int .i64 0)) (ML dI x)
def yLI : D := encLI []
def wfLI (x : List Int) : Prop := x.length ≤ maxLen ∧ ∀ y ∈ x, inR .i64 y
theorem inj_I : ∀ x y : Int, dI x = dI y → x = y := by
  intro x y h
  simp [dI] at h
  first | exact h | simp [h] | (cases h; rfl)
@[simp] theorem ML_inj_I (l l' : List Int) : ML dI l = ML dI l' ↔ l = l' := ML_inj inj_I
@[simp] theorem ML_getD_I (l : List Int) (k : Nat) : (ML dI l).getD k (.lit (.int .i64 0)) = dI (l.getD k 0) := ML_getD l k 0
@[simp] theorem ML_get2_I (l : List Int) (k : Nat) : (ML dI l)[k]?.getD (.lit (.int .i64 0)) = dI (l.getD k 0) := by rw [← List.getD_eq_getElem?_getD]; exact ML_getD l k 0
@[simp] theorem ML_snoc_I (l : List Int) (a : Int) : ML dI l ++ [.lit (.int .i64 a)] = ML dI (l ++ [a]) := ML_snoc (enc := dI) l a
@[simp] theorem ML_cons_I (l : List Int) (a : Int) : .lit (.int .i64 a) :: ML dI l = ML dI (a :: l) := rfl
@[simp] theorem ML_set_I (l : List Int) (k : Nat) (a : Int) : (ML dI l).set k (.lit (.int .i64 a)) = ML dI (l.set k a) := ML_set (enc := dI) l k a
@[simp] theorem ML_rep_I (n : Nat) (a : Int) : List.replicate n (.lit (.int .i64 a) : D) = ML dI (List.replicate n a) := ML_rep (enc := dI) n a
@[simp] theorem ML_pure_I (l : List Int) : puresD (ML dI l) = true := ML_pure (fun x => by simp [pureD, puresD]) l
@[simp] theorem ML_flat_I (l : List Int) : flatDs (ML dI l) = true := ML_flat (fun x => by simp [flatD, flatDs]) l
structure TFreeSlot where
  size_ : Int
  index_ : Int
instance : Inhabited TFreeSlot := ⟨⟨default, default⟩⟩
instance : DecidableEq TFreeSlot := fun a b => decidable_of_iff (a.size_ = b.size_ ∧ a.index_ = b.index_) (by cases a; cases b; simp)
@[simp] theorem TFreeSlot_eta (x : TFreeSlot) : (⟨x.size_, x.index_⟩ : TFreeSlot) = x := rfl
@[simp] def encTFreeSlot (x : TFreeSlot) : D := .agg [.lit (.int .i64 x.size_), .lit (.int .i64 x.index_)]
def yTFreeSlot : D := encTFreeSlot default
def wfTFreeSlot (x : TFreeSlot) : Prop := inR .i64 x.size_ ∧ inR .i64 x.index_
@[simp] def encLTFreeSlot (x : List TFreeSlot) : D := .sl false 2 yTFreeSlot (ML encTFreeSlot x)
def yLTFreeSlot : D := encLTFreeSlot []
def wfLTFreeSlot (x : List TFreeSlot) : Prop := x.length ≤ maxLen ∧ ∀ y ∈ x, wfTFreeSlot y
theorem inj_TFreeSlot : ∀ x y : TFreeSlot, encTFreeSlot x = encTFreeSlot y → x = y := by
  intro x y h
  obtain ⟨x0, x1⟩ := x
  obtain ⟨y0, y1⟩ := y
  simp [encTFreeSlot] at h
  first | exact h | simp [h] | (cases h; rfl)
@[simp] theorem ML_inj_TFreeSlot (l l' : List TFreeSlot) : ML encTFreeSlot l = ML encTFreeSlot l' ↔ l = l' := ML_inj inj_TFreeSlot
@[simp] theorem ML_getD_TFreeSlot (l : List TFreeSlot) (k : Nat) : (ML encTFreeSlot l).getD k yTFreeSlot = encTFreeSlot (l.getD k default) := ML_getD l k default
@[simp] theorem ML_get2_TFreeSlot (l : List TFreeSlot) (k : Nat) : (ML encTFreeSlot l)[k]?.getD yTFreeSlot = encTFreeSlot (l.getD k default) := by rw [← List.getD_eq_getElem?_getD]; exact ML_getD l k default
@[simp] theorem ML_snoc_TFreeSlot (l : List TFreeSlot) (a0 : Int) (a1 : Int) : ML encTFreeSlot l ++ [.agg [.lit (.int .i64 a0), .lit (.int .i64 a1)]] = ML encTFreeSlot (l ++ [⟨a0, a1⟩]) := ML_snoc (enc := encTFreeSlot) l ⟨a0, a1⟩
@[simp] theorem ML_cons_TFreeSlot (l : List TFreeSlot) (a0 : Int) (a1 : Int) : .agg [.lit (.int .i64 a0), .lit (.int .i64 a1)] :: ML encTFreeSlot l = ML encTFreeSlot (⟨a0, a1⟩ :: l) := rfl
@[simp] theorem ML_set_TFreeSlot (l : List TFreeSlot) (k : Nat) (a0 : Int) (a1 : Int) : (ML encTFreeSlot l).set k (.agg [.lit (.int .i64 a0), .lit (.int .i64 a1)]) = ML encTFreeSlot (l.set k ⟨a0, a1⟩) := ML_set (enc := encTFreeSlot) l k ⟨a0, a1⟩
@[simp] theorem ML_rep_TFreeSlot (n : Nat) (a0 : Int) (a1 : Int) : List.replicate n (.agg [.lit (.int .i64 a0), .lit (.int .i64 a1)] : D) = ML encTFreeSlot (List.replicate n ⟨a0, a1⟩) := ML_rep (enc := encTFreeSlot) n ⟨a0, a1⟩
@[simp] theorem ML_pure_TFreeSlot (l : List TFreeSlot) : puresD (ML encTFreeSlot l) = true := ML_pure (fun x => by simp [pureD, puresD]) l
@[simp] theorem ML_flat_TFreeSlot (l : List TFreeSlot) : flatDs (ML encTFreeSlot l) = true := ML_flat (fun x => by simp [flatD, flatDs]) l
end Go.Proofs.Ytdemoobiiijmoaa
