/- The data of this program as Lean types, and how they are held. -/
import Derived.Test.YtnnieeojfdjcoaaEngB
namespace Go.Proofs.Ytnnieeojfdjcoaa
open Go Go.Eng
set_option linter.unusedSimpArgs false
set_option linter.unusedVariables false
structure TMark where
  Question : Int
  Answer : Int
instance : Inhabited TMark := ⟨⟨default, default⟩⟩
instance : DecidableEq TMark := fun a b => decidable_of_iff (a.Question = b.Question ∧ a.Answer = b.Answer) (by cases a; cases b; simp)
@[simp] theorem TMark_eta (x : TMark) : (⟨x.Question, x.Answer⟩ : TMark) = x := rfl
@[simp] def encTMark (x : TMark) : D := .agg [.lit (.int .i64 x.Question), .lit (.int .i64 x.Answer)]
def yTMark : D := encTMark default
def wfTMark (x : TMark) : Prop := inR .i64 x.Question ∧ inR .i64 x.Answer
@[simp] def encLTMark (x : List TMark) : D := .sl false 2 yTMark (ML encTMark x)
def yLTMark : D := encLTMark []
def wfLTMark (x : List TMark) : Prop := x.length ≤ maxLen ∧ ∀ y ∈ x, wfTMark y
theorem inj_TMark : ∀ x y : TMark, encTMark x = encTMark y → x = y := by
  intro x y h
  obtain ⟨x0, x1⟩ := x
  obtain ⟨y0, y1⟩ := y
  simp [encTMark] at h
  first | exact h | simp [h] | (cases h; rfl)
@[simp] theorem ML_inj_TMark (l l' : List TMark) : ML encTMark l = ML encTMark l' ↔ l = l' := ML_inj inj_TMark
@[simp] theorem ML_getD_TMark (l : List TMark) (k : Nat) : (ML encTMark l).getD k yTMark = encTMark (l.getD k default) := ML_getD l k default
@[simp] theorem ML_get2_TMark (l : List TMark) (k : Nat) : (ML encTMark l)[k]?.getD yTMark = encTMark (l.getD k default) := by rw [← List.getD_eq_getElem?_getD]; exact ML_getD l k default
@[simp] theorem ML_snoc_TMark (l : List TMark) (a0 : Int) (a1 : Int) : ML encTMark l ++ [.agg [.lit (.int .i64 a0), .lit (.int .i64 a1)]] = ML encTMark (l ++ [⟨a0, a1⟩]) := ML_snoc (enc := encTMark) l ⟨a0, a1⟩
@[simp] theorem ML_cons_TMark (l : List TMark) (a0 : Int) (a1 : Int) : .agg [.lit (.int .i64 a0), .lit (.int .i64 a1)] :: ML encTMark l = ML encTMark (⟨a0, a1⟩ :: l) := rfl
@[simp] theorem ML_set_TMark (l : List TMark) (k : Nat) (a0 : Int) (a1 : Int) : (ML encTMark l).set k (.agg [.lit (.int .i64 a0), .lit (.int .i64 a1)]) = ML encTMark (l.set k ⟨a0, a1⟩) := ML_set (enc := encTMark) l k ⟨a0, a1⟩
@[simp] theorem ML_rep_TMark (n : Nat) (a0 : Int) (a1 : Int) : List.replicate n (.agg [.lit (.int .i64 a0), .lit (.int .i64 a1)] : D) = ML encTMark (List.replicate n ⟨a0, a1⟩) := ML_rep (enc := encTMark) n ⟨a0, a1⟩
@[simp] theorem ML_pure_TMark (l : List TMark) : puresD (ML encTMark l) = true := ML_pure (fun x => by simp [pureD, puresD]) l
@[simp] theorem ML_flat_TMark (l : List TMark) : flatDs (ML encTMark l) = true := ML_flat (fun x => by simp [flatD, flatDs]) l
structure TTrial where
  Claim : Int
  Asked : Int
  Right : Int
  Wrong : Int
instance : Inhabited TTrial := ⟨⟨default, default, default, default⟩⟩
instance : DecidableEq TTrial := fun a b => decidable_of_iff (a.Claim = b.Claim ∧ a.Asked = b.Asked ∧ a.Right = b.Right ∧ a.Wrong = b.Wrong) (by cases a; cases b; simp)
@[simp] theorem TTrial_eta (x : TTrial) : (⟨x.Claim, x.Asked, x.Right, x.Wrong⟩ : TTrial) = x := rfl
@[simp] def encTTrial (x : TTrial) : D := .agg [.lit (.int .i64 x.Claim), .lit (.int .i64 x.Asked), .lit (.int .i64 x.Right), .lit (.int .i64 x.Wrong)]
def yTTrial : D := encTTrial default
def wfTTrial (x : TTrial) : Prop := inR .i64 x.Claim ∧ inR .i64 x.Asked ∧ inR .i64 x.Right ∧ inR .i64 x.Wrong
@[simp] def encLI (x : List Int) : D := .sl false 1 (.lit (.int .i64 0)) (ML dI x)
def yLI : D := encLI []
def wfLI (x : List Int) : Prop := x.length ≤ maxLen ∧ ∀ y ∈ x, inR .i64 y
theorem inj_I : ∀ x y : Int, dI x = dI y → x = y := by
  intro x y h
  simp [dI] at h
  first | exact h | simp [h] | (cases h; rfl)
@[simp] theorem ML_inj_I (l l' : List Int) : ML dI l = ML dI l' ↔ l = l' := ML_inj inj_I
@[simp] theorem ML_getD_I (l : List Int) (k : Nat) : (ML dI l).getD k (.lit (.int .i64 0)) = dI (l.getD k 0) := ML_getD l k 0
@[simp] theorem ML_get2_I (l : List Int) (k : Nat) : (ML dI l)[k]?.getD (.lit (.int .i64 0)) = dI (l.getD k 0) := by rw [← List.getD_eq_getElem?_getD]; exact ML_getD l k 0
@[simp] theorem ML_snoc_I (l : List Int) (a : Int) : ML dI l ++ [.lit (.int .i64 a)] = ML dI (l ++ [a]) := ML_snoc (enc := dI) l a
@[simp] theorem ML_cons_I (l : List Int) (a : Int) : .lit (.int .i64 a) :: ML dI l = ML dI (a :: l) := rfl
@[simp] theorem ML_set_I (l : List Int) (k : Nat) (a : Int) : (ML dI l).set k (.lit (.int .i64 a)) = ML dI (l.set k a) := ML_set (enc := dI) l k a
@[simp] theorem ML_rep_I (n : Nat) (a : Int) : List.replicate n (.lit (.int .i64 a) : D) = ML dI (List.replicate n a) := ML_rep (enc := dI) n a
@[simp] theorem ML_pure_I (l : List Int) : puresD (ML dI l) = true := ML_pure (fun x => by simp [pureD, puresD]) l
@[simp] theorem ML_flat_I (l : List Int) : flatDs (ML dI l) = true := ML_flat (fun x => by simp [flatD, flatDs]) l
structure TClaim where
  Id : Int
  Who : Int
  Thing : Int
  At : Int
  State : Int
instance : Inhabited TClaim := ⟨⟨default, default, default, default, default⟩⟩
instance : DecidableEq TClaim := fun a b => decidable_of_iff (a.Id = b.Id ∧ a.Who = b.Who ∧ a.Thing = b.Thing ∧ a.At = b.At ∧ a.State = b.State) (by cases a; cases b; simp)
@[simp] theorem TClaim_eta (x : TClaim) : (⟨x.Id, x.Who, x.Thing, x.At, x.State⟩ : TClaim) = x := rfl
@[simp] def encTClaim (x : TClaim) : D := .agg [.lit (.int .i64 x.Id), .lit (.int .i64 x.Who), .lit (.int .i64 x.Thing), .lit (.int .i64 x.At), .lit (.int .i64 x.State)]
def yTClaim : D := encTClaim default
def wfTClaim (x : TClaim) : Prop := inR .i64 x.Id ∧ inR .i64 x.Who ∧ inR .i64 x.Thing ∧ inR .i64 x.At ∧ inR .i64 x.State
@[simp] def encLTClaim (x : List TClaim) : D := .sl false 5 yTClaim (ML encTClaim x)
def yLTClaim : D := encLTClaim []
def wfLTClaim (x : List TClaim) : Prop := x.length ≤ maxLen ∧ ∀ y ∈ x, wfTClaim y
theorem inj_TClaim : ∀ x y : TClaim, encTClaim x = encTClaim y → x = y := by
  intro x y h
  obtain ⟨x0, x1, x2, x3, x4⟩ := x
  obtain ⟨y0, y1, y2, y3, y4⟩ := y
  simp [encTClaim] at h
  first | exact h | simp [h] | (cases h; rfl)
@[simp] theorem ML_inj_TClaim (l l' : List TClaim) : ML encTClaim l = ML encTClaim l' ↔ l = l' := ML_inj inj_TClaim
@[simp] theorem ML_getD_TClaim (l : List TClaim) (k : Nat) : (ML encTClaim l).getD k yTClaim = encTClaim (l.getD k default) := ML_getD l k default
@[simp] theorem ML_get2_TClaim (l : List TClaim) (k : Nat) : (ML encTClaim l)[k]?.getD yTClaim = encTClaim (l.getD k default) := by rw [← List.getD_eq_getElem?_getD]; exact ML_getD l k default
@[simp] theorem ML_snoc_TClaim (l : List TClaim) (a0 : Int) (a1 : Int) (a2 : Int) (a3 : Int) (a4 : Int) : ML encTClaim l ++ [.agg [.lit (.int .i64 a0), .lit (.int .i64 a1), .lit (.int .i64 a2), .lit (.int .i64 a3), .lit (.int .i64 a4)]] = ML encTClaim (l ++ [⟨a0, a1, a2, a3, a4⟩]) := ML_snoc (enc := encTClaim) l ⟨a0, a1, a2, a3, a4⟩
@[simp] theorem ML_cons_TClaim (l : List TClaim) (a0 : Int) (a1 : Int) (a2 : Int) (a3 : Int) (a4 : Int) : .agg [.lit (.int .i64 a0), .lit (.int .i64 a1), .lit (.int .i64 a2), .lit (.int .i64 a3), .lit (.int .i64 a4)] :: ML encTClaim l = ML encTClaim (⟨a0, a1, a2, a3, a4⟩ :: l) := rfl
@[simp] theorem ML_set_TClaim (l : List TClaim) (k : Nat) (a0 : Int) (a1 : Int) (a2 : Int) (a3 : Int) (a4 : Int) : (ML encTClaim l).set k (.agg [.lit (.int .i64 a0), .lit (.int .i64 a1), .lit (.int .i64 a2), .lit (.int .i64 a3), .lit (.int .i64 a4)]) = ML encTClaim (l.set k ⟨a0, a1, a2, a3, a4⟩) := ML_set (enc := encTClaim) l k ⟨a0, a1, a2, a3, a4⟩
@[simp] theorem ML_rep_TClaim (n : Nat) (a0 : Int) (a1 : Int) (a2 : Int) (a3 : Int) (a4 : Int) : List.replicate n (.agg [.lit (.int .i64 a0), .lit (.int .i64 a1), .lit (.int .i64 a2), .lit (.int .i64 a3), .lit (.int .i64 a4)] : D) = ML encTClaim (List.replicate n ⟨a0, a1, a2, a3, a4⟩) := ML_rep (enc := encTClaim) n ⟨a0, a1, a2, a3, a4⟩
@[simp] theorem ML_pure_TClaim (l : List TClaim) : puresD (ML encTClaim l) = true := ML_pure (fun x => by simp [pureD, puresD]) l
@[simp] theorem ML_flat_TClaim (l : List TClaim) : flatDs (ML encTClaim l) = true := ML_flat (fun x => by simp [flatD, flatDs]) l
structure TSlot where
  Id : Int
  Size : Int
  Thing : Int
instance : Inhabited TSlot := ⟨⟨default, default, default⟩⟩
instance : DecidableEq TSlot := fun a b => decidable_of_iff (a.Id = b.Id ∧ a.Size = b.Size ∧ a.Thing = b.Thing) (by cases a; cases b; simp)
@[simp] theorem TSlot_eta (x : TSlot) : (⟨x.Id, x.Size, x.Thing⟩ : TSlot) = x := rfl
@[simp] def encTSlot (x : TSlot) : D := .agg [.lit (.int .i64 x.Id), .lit (.int .i64 x.Size), .lit (.int .i64 x.Thing)]
def yTSlot : D := encTSlot default
def wfTSlot (x : TSlot) : Prop := inR .i64 x.Id ∧ inR .i64 x.Size ∧ inR .i64 x.Thing
@[simp] def encLTSlot (x : List TSlot) : D := .sl false 3 yTSlot (ML encTSlot x)
def yLTSlot : D := encLTSlot []
def wfLTSlot (x : List TSlot) : Prop := x.length ≤ maxLen ∧ ∀ y ∈ x, wfTSlot y
theorem inj_TSlot : ∀ x y : TSlot, encTSlot x = encTSlot y → x = y := by
  intro x y h
  obtain ⟨x0, x1, x2⟩ := x
  obtain ⟨y0, y1, y2⟩ := y
  simp [encTSlot] at h
  first | exact h | simp [h] | (cases h; rfl)
@[simp] theorem ML_inj_TSlot (l l' : List TSlot) : ML encTSlot l = ML encTSlot l' ↔ l = l' := ML_inj inj_TSlot
@[simp] theorem ML_getD_TSlot (l : List TSlot) (k : Nat) : (ML encTSlot l).getD k yTSlot = encTSlot (l.getD k default) := ML_getD l k default
@[simp] theorem ML_get2_TSlot (l : List TSlot) (k : Nat) : (ML encTSlot l)[k]?.getD yTSlot = encTSlot (l.getD k default) := by rw [← List.getD_eq_getElem?_getD]; exact ML_getD l k default
@[simp] theorem ML_snoc_TSlot (l : List TSlot) (a0 : Int) (a1 : Int) (a2 : Int) : ML encTSlot l ++ [.agg [.lit (.int .i64 a0), .lit (.int .i64 a1), .lit (.int .i64 a2)]] = ML encTSlot (l ++ [⟨a0, a1, a2⟩]) := ML_snoc (enc := encTSlot) l ⟨a0, a1, a2⟩
@[simp] theorem ML_cons_TSlot (l : List TSlot) (a0 : Int) (a1 : Int) (a2 : Int) : .agg [.lit (.int .i64 a0), .lit (.int .i64 a1), .lit (.int .i64 a2)] :: ML encTSlot l = ML encTSlot (⟨a0, a1, a2⟩ :: l) := rfl
@[simp] theorem ML_set_TSlot (l : List TSlot) (k : Nat) (a0 : Int) (a1 : Int) (a2 : Int) : (ML encTSlot l).set k (.agg [.lit (.int .i64 a0), .lit (.int .i64 a1), .lit (.int .i64 a2)]) = ML encTSlot (l.set k ⟨a0, a1, a2⟩) := ML_set (enc := encTSlot) l k ⟨a0, a1, a2⟩
@[simp] theorem ML_rep_TSlot (n : Nat) (a0 : Int) (a1 : Int) (a2 : Int) : List.replicate n (.agg [.lit (.int .i64 a0), .lit (.int .i64 a1), .lit (.int .i64 a2)] : D) = ML encTSlot (List.replicate n ⟨a0, a1, a2⟩) := ML_rep (enc := encTSlot) n ⟨a0, a1, a2⟩
@[simp] theorem ML_pure_TSlot (l : List TSlot) : puresD (ML encTSlot l) = true := ML_pure (fun x => by simp [pureD, puresD]) l
@[simp] theorem ML_flat_TSlot (l : List TSlot) : flatDs (ML encTSlot l) = true := ML_flat (fun x => by simp [flatD, flatDs]) l
structure TThing where
  Id : Int
  Kind : Int
  Colour : Int
  Size : Int
  Worth : Int
instance : Inhabited TThing := ⟨⟨default, default, default, default, default⟩⟩
instance : DecidableEq TThing := fun a b => decidable_of_iff (a.Id = b.Id ∧ a.Kind = b.Kind ∧ a.Colour = b.Colour ∧ a.Size = b.Size ∧ a.Worth = b.Worth) (by cases a; cases b; simp)
@[simp] theorem TThing_eta (x : TThing) : (⟨x.Id, x.Kind, x.Colour, x.Size, x.Worth⟩ : TThing) = x := rfl
@[simp] def encTThing (x : TThing) : D := .agg [.lit (.int .i64 x.Id), .lit (.int .i64 x.Kind), .lit (.int .i64 x.Colour), .lit (.int .i64 x.Size), .lit (.int .i64 x.Worth)]
def yTThing : D := encTThing default
def wfTThing (x : TThing) : Prop := inR .i64 x.Id ∧ inR .i64 x.Kind ∧ inR .i64 x.Colour ∧ inR .i64 x.Size ∧ inR .i64 x.Worth
@[simp] def encLTThing (x : List TThing) : D := .sl false 5 yTThing (ML encTThing x)
def yLTThing : D := encLTThing []
def wfLTThing (x : List TThing) : Prop := x.length ≤ maxLen ∧ ∀ y ∈ x, wfTThing y
theorem inj_TThing : ∀ x y : TThing, encTThing x = encTThing y → x = y := by
  intro x y h
  obtain ⟨x0, x1, x2, x3, x4⟩ := x
  obtain ⟨y0, y1, y2, y3, y4⟩ := y
  simp [encTThing] at h
  first | exact h | simp [h] | (cases h; rfl)
@[simp] theorem ML_inj_TThing (l l' : List TThing) : ML encTThing l = ML encTThing l' ↔ l = l' := ML_inj inj_TThing
@[simp] theorem ML_getD_TThing (l : List TThing) (k : Nat) : (ML encTThing l).getD k yTThing = encTThing (l.getD k default) := ML_getD l k default
@[simp] theorem ML_get2_TThing (l : List TThing) (k : Nat) : (ML encTThing l)[k]?.getD yTThing = encTThing (l.getD k default) := by rw [← List.getD_eq_getElem?_getD]; exact ML_getD l k default
@[simp] theorem ML_snoc_TThing (l : List TThing) (a0 : Int) (a1 : Int) (a2 : Int) (a3 : Int) (a4 : Int) : ML encTThing l ++ [.agg [.lit (.int .i64 a0), .lit (.int .i64 a1), .lit (.int .i64 a2), .lit (.int .i64 a3), .lit (.int .i64 a4)]] = ML encTThing (l ++ [⟨a0, a1, a2, a3, a4⟩]) := ML_snoc (enc := encTThing) l ⟨a0, a1, a2, a3, a4⟩
@[simp] theorem ML_cons_TThing (l : List TThing) (a0 : Int) (a1 : Int) (a2 : Int) (a3 : Int) (a4 : Int) : .agg [.lit (.int .i64 a0), .lit (.int .i64 a1), .lit (.int .i64 a2), .lit (.int .i64 a3), .lit (.int .i64 a4)] :: ML encTThing l = ML encTThing (⟨a0, a1, a2, a3, a4⟩ :: l) := rfl
@[simp] theorem ML_set_TThing (l : List TThing) (k : Nat) (a0 : Int) (a1 : Int) (a2 : Int) (a3 : Int) (a4 : Int) : (ML encTThing l).set k (.agg [.lit (.int .i64 a0), .lit (.int .i64 a1), .lit (.int .i64 a2), .lit (.int .i64 a3), .lit (.int .i64 a4)]) = ML encTThing (l.set k ⟨a0, a1, a2, a3, a4⟩) := ML_set (enc := encTThing) l k ⟨a0, a1, a2, a3, a4⟩
@[simp] theorem ML_rep_TThing (n : Nat) (a0 : Int) (a1 : Int) (a2 : Int) (a3 : Int) (a4 : Int) : List.replicate n (.agg [.lit (.int .i64 a0), .lit (.int .i64 a1), .lit (.int .i64 a2), .lit (.int .i64 a3), .lit (.int .i64 a4)] : D) = ML encTThing (List.replicate n ⟨a0, a1, a2, a3, a4⟩) := ML_rep (enc := encTThing) n ⟨a0, a1, a2, a3, a4⟩
@[simp] theorem ML_pure_TThing (l : List TThing) : puresD (ML encTThing l) = true := ML_pure (fun x => by simp [pureD, puresD]) l
@[simp] theorem ML_flat_TThing (l : List TThing) : flatDs (ML encTThing l) = true := ML_flat (fun x => by simp [flatD, flatDs]) l
structure TFreeSlot where
  size_ : Int
  index_ : Int
instance : Inhabited TFreeSlot := ⟨⟨default, default⟩⟩
instance : DecidableEq TFreeSlot := fun a b => decidable_of_iff (a.size_ = b.size_ ∧ a.index_ = b.index_) (by cases a; cases b; simp)
@[simp] theorem TFreeSlot_eta (x : TFreeSlot) : (⟨x.size_, x.index_⟩ : TFreeSlot) = x := rfl
@[simp] def encTFreeSlot (x : TFreeSlot) : D := .agg [.lit (.int .i64 x.size_), .lit (.int .i64 x.index_)]
def yTFreeSlot : D := encTFreeSlot default
def wfTFreeSlot (x : TFreeSlot) : Prop := inR .i64 x.size_ ∧ inR .i64 x.index_
@[simp] def encLTFreeSlot (x : List TFreeSlot) : D := .sl false 2 yTFreeSlot (ML encTFreeSlot x)
def yLTFreeSlot : D := encLTFreeSlot []
def wfLTFreeSlot (x : List TFreeSlot) : Prop := x.length ≤ maxLen ∧ ∀ y ∈ x, wfTFreeSlot y
theorem inj_TFreeSlot : ∀ x y : TFreeSlot, encTFreeSlot x = encTFreeSlot y → x = y := by
  intro x y h
  obtain ⟨x0, x1⟩ := x
  obtain ⟨y0, y1⟩ := y
  simp [encTFreeSlot] at h
  first | exact h | simp [h] | (cases h; rfl)
@[simp] theorem ML_inj_TFreeSlot (l l' : List TFreeSlot) : ML encTFreeSlot l = ML encTFreeSlot l' ↔ l = l' := ML_inj inj_TFreeSlot
@[simp] theorem ML_getD_TFreeSlot (l : List TFreeSlot) (k : Nat) : (ML encTFreeSlot l).getD k yTFreeSlot = encTFreeSlot (l.getD k default) := ML_getD l k default
@[simp] theorem ML_get2_TFreeSlot (l : List TFreeSlot) (k : Nat) : (ML encTFreeSlot l)[k]?.getD yTFreeSlot = encTFreeSlot (l.getD k default) := by rw [← List.getD_eq_getElem?_getD]; exact ML_getD l k default
@[simp] theorem ML_snoc_TFreeSlot (l : List TFreeSlot) (a0 : Int) (a1 : Int) : ML encTFreeSlot l ++ [.agg [.lit (.int .i64 a0), .lit (.int .i64 a1)]] = ML encTFreeSlot (l ++ [⟨a0, a1⟩]) := ML_snoc (enc := encTFreeSlot) l ⟨a0, a1⟩
@[simp] theorem ML_cons_TFreeSlot (l : List TFreeSlot) (a0 : Int) (a1 : Int) : .agg [.lit (.int .i64 a0), .lit (.int .i64 a1)] :: ML encTFreeSlot l = ML encTFreeSlot (⟨a0, a1⟩ :: l) := rfl
@[simp] theorem ML_set_TFreeSlot (l : List TFreeSlot) (k : Nat) (a0 : Int) (a1 : Int) : (ML encTFreeSlot l).set k (.agg [.lit (.int .i64 a0), .lit (.int .i64 a1)]) = ML encTFreeSlot (l.set k ⟨a0, a1⟩) := ML_set (enc := encTFreeSlot) l k ⟨a0, a1⟩
@[simp] theorem ML_rep_TFreeSlot (n : Nat) (a0 : Int) (a1 : Int) : List.replicate n (.agg [.lit (.int .i64 a0), .lit (.int .i64 a1)] : D) = ML encTFreeSlot (List.replicate n ⟨a0, a1⟩) := ML_rep (enc := encTFreeSlot) n ⟨a0, a1⟩
@[simp] theorem ML_pure_TFreeSlot (l : List TFreeSlot) : puresD (ML encTFreeSlot l) = true := ML_pure (fun x => by simp [pureD, puresD]) l
@[simp] theorem ML_flat_TFreeSlot (l : List TFreeSlot) : flatDs (ML encTFreeSlot l) = true := ML_flat (fun x => by simp [flatD, flatDs]) l
end Go.Proofs.Ytnnieeojfdjcoaa
