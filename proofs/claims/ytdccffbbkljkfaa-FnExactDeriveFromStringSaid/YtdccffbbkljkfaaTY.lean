/- The data of this program as Lean types, and how they are held. -/
import Derived.Test.YtdccffbbkljkfaaEngB
namespace Go.Proofs.Ytdccffbbkljkfaa
open Go Go.Eng
set_option linter.unusedSimpArgs false
set_option linter.unusedVariables false
@[simp] def encLU (x : List Int) : D := .sl false 1 (.lit (.int .u8 0)) (ML dU x)
def yLU : D := encLU []
def wfLU (x : List Int) : Prop := x.length ≤ maxLen ∧ ∀ y ∈ x, inR .u8 y
theorem inj_U : ∀ x y : Int, dU x = dU y → x = y := by
  intro x y h
  simp [dI] at h
  first | exact h | simp [h] | (cases h; rfl)
@[simp] theorem ML_inj_U (l l' : List Int) : ML dU l = ML dU l' ↔ l = l' := ML_inj inj_U
@[simp] theorem ML_getD_U (l : List Int) (k : Nat) : (ML dU l).getD k (.lit (.int .u8 0)) = dU (l.getD k 0) := ML_getD l k 0
@[simp] theorem ML_get2_U (l : List Int) (k : Nat) : (ML dU l)[k]?.getD (.lit (.int .u8 0)) = dU (l.getD k 0) := by rw [← List.getD_eq_getElem?_getD]; exact ML_getD l k 0
@[simp] theorem ML_snoc_U (l : List Int) (a : Int) : ML dU l ++ [.lit (.int .u8 a)] = ML dU (l ++ [a]) := ML_snoc (enc := dU) l a
@[simp] theorem ML_cons_U (l : List Int) (a : Int) : .lit (.int .u8 a) :: ML dU l = ML dU (a :: l) := rfl
@[simp] theorem ML_set_U (l : List Int) (k : Nat) (a : Int) : (ML dU l).set k (.lit (.int .u8 a)) = ML dU (l.set k a) := ML_set (enc := dU) l k a
@[simp] theorem ML_rep_U (n : Nat) (a : Int) : List.replicate n (.lit (.int .u8 a) : D) = ML dU (List.replicate n a) := ML_rep (enc := dU) n a
@[simp] theorem ML_pure_U (l : List Int) : puresD (ML dU l) = true := ML_pure (fun x => by simp [pureD, puresD]) l
@[simp] theorem ML_flat_U (l : List Int) : flatDs (ML dU l) = true := ML_flat (fun x => by simp [flatD, flatDs]) l
@[simp] def encLI (x : List Int) : D := .sl false 1 (.lit (.int .i64 0)) (ML dI x)
def yLI : D := encLI []
def wfLI (x : List Int) : Prop := x.length ≤ maxLen ∧ ∀ y ∈ x, inR .i64 y
theorem inj_I : ∀ x y : Int, dI x = dI y → x = y := by
  intro x y h
  simp [dI] at h
  first | exact h | simp [h] | (cases h; rfl)
@[simp] theorem ML_inj_I (l l' : List Int) : ML dI l = ML dI l' ↔ l = l' := ML_inj inj_I
@[simp] theorem ML_getD_I (l : List Int) (k : Nat) : (ML dI l).getD k (.lit (.int .i64 0)) = dI (l.getD k 0) := ML_getD l k 0
@[simp] theorem ML_get2_I (l : List Int) (k : Nat) : (ML dI l)[k]?.getD (.lit (.int .i64 0)) = dI (l.getD k 0) := by rw [← List.getD_eq_getElem?_getD]; exact ML_getD l k 0
@[simp] theorem ML_snoc_I (l : List Int) (a : Int) : ML dI l ++ [.lit (.int .i64 a)] = ML dI (l ++ [a]) := ML_snoc (enc := dI) l a
@[simp] theorem ML_cons_I (l : List Int) (a : Int) : .lit (.int .i64 a) :: ML dI l = ML dI (a :: l) := rfl
@[simp] theorem ML_set_I (l : List Int) (k : Nat) (a : Int) : (ML dI l).set k (.lit (.int .i64 a)) = ML dI (l.set k a) := ML_set (enc := dI) l k a
@[simp] theorem ML_rep_I (n : Nat) (a : Int) : List.replicate n (.lit (.int .i64 a) : D) = ML dI (List.replicate n a) := ML_rep (enc := dI) n a
@[simp] theorem ML_pure_I (l : List Int) : puresD (ML dI l) = true := ML_pure (fun x => by simp [pureD, puresD]) l
@[simp] theorem ML_flat_I (l : List Int) : flatDs (ML dI l) = true := ML_flat (fun x => by simp [flatD, flatDs]) l
structure TThing where
  Id : Int
  Kind : Int
  Colour : Int
  Size : Int
  Worth : Int
instance : Inhabited TThing := ⟨⟨default, default, default, default, default⟩⟩
instance : DecidableEq TThing := fun a b => decidable_of_iff (a.Id = b.Id ∧ a.Kind = b.Kind ∧ a.Colour = b.Colour ∧ a.Size = b.Size ∧ a.Worth = b.Worth) (by cases a; cases b; simp)
@[simp] theorem TThing_eta (x : TThing) : (⟨x.Id, x.Kind, x.Colour, x.Size, x.Worth⟩ : TThing) = x := rfl
@[simp] def encTThing (x : TThing) : D := .agg [.lit (.int .i64 x.Id), .lit (.int .i64 x.Kind), .lit (.int .i64 x.Colour), .lit (.int .i64 x.Size), .lit (.int .i64 x.Worth)]
def yTThing : D := encTThing default
def wfTThing (x : TThing) : Prop := inR .i64 x.Id ∧ inR .i64 x.Kind ∧ inR .i64 x.Colour ∧ inR .i64 x.Size ∧ inR .i64 x.Worth
@[simp] def encLTThing (x : List TThing) : D := .sl false 5 yTThing (ML encTThing x)
def yLTThing : D := encLTThing []
def wfLTThing (x : List TThing) : Prop := x.length ≤ maxLen ∧ ∀ y ∈ x, wfTThing y
theorem inj_TThing : ∀ x y : TThing, encTThing x = encTThing y → x = y := by
  intro x y h
  obtain ⟨x0, x1, x2, x3, x4⟩ := x
  obtain ⟨y0, y1, y2, y3, y4⟩ := y
  simp [encTThing] at h
  first | exact h | simp [h] | (cases h; rfl)
@[simp] theorem ML_inj_TThing (l l' : List TThing) : ML encTThing l = ML encTThing l' ↔ l = l' := ML_inj inj_TThing
@[simp] theorem ML_getD_TThing (l : List TThing) (k : Nat) : (ML encTThing l).getD k yTThing = encTThing (l.getD k default) := ML_getD l k default
@[simp] theorem ML_get2_TThing (l : List TThing) (k : Nat) : (ML encTThing l)[k]?.getD yTThing = encTThing (l.getD k default) := by rw [← List.getD_eq_getElem?_getD]; exact ML_getD l k default
@[simp] theorem ML_snoc_TThing (l : List TThing) (a0 : Int) (a1 : Int) (a2 : Int) (a3 : Int) (a4 : Int) : ML encTThing l ++ [.agg [.lit (.int .i64 a0), .lit (.int .i64 a1), .lit (.int .i64 a2), .lit (.int .i64 a3), .lit (.int .i64 a4)]] = ML encTThing (l ++ [⟨a0, a1, a2, a3, a4⟩]) := ML_snoc (enc := encTThing) l ⟨a0, a1, a2, a3, a4⟩
@[simp] theorem ML_cons_TThing (l : List TThing) (a0 : Int) (a1 : Int) (a2 : Int) (a3 : Int) (a4 : Int) : .agg [.lit (.int .i64 a0), .lit (.int .i64 a1), .lit (.int .i64 a2), .lit (.int .i64 a3), .lit (.int .i64 a4)] :: ML encTThing l = ML encTThing (⟨a0, a1, a2, a3, a4⟩ :: l) := rfl
@[simp] theorem ML_set_TThing (l : List TThing) (k : Nat) (a0 : Int) (a1 : Int) (a2 : Int) (a3 : Int) (a4 : Int) : (ML encTThing l).set k (.agg [.lit (.int .i64 a0), .lit (.int .i64 a1), .lit (.int .i64 a2), .lit (.int .i64 a3), .lit (.int .i64 a4)]) = ML encTThing (l.set k ⟨a0, a1, a2, a3, a4⟩) := ML_set (enc := encTThing) l k ⟨a0, a1, a2, a3, a4⟩
@[simp] theorem ML_rep_TThing (n : Nat) (a0 : Int) (a1 : Int) (a2 : Int) (a3 : Int) (a4 : Int) : List.replicate n (.agg [.lit (.int .i64 a0), .lit (.int .i64 a1), .lit (.int .i64 a2), .lit (.int .i64 a3), .lit (.int .i64 a4)] : D) = ML encTThing (List.replicate n ⟨a0, a1, a2, a3, a4⟩) := ML_rep (enc := encTThing) n ⟨a0, a1, a2, a3, a4⟩
@[simp] theorem ML_pure_TThing (l : List TThing) : puresD (ML encTThing l) = true := ML_pure (fun x => by simp [pureD, puresD]) l
@[simp] theorem ML_flat_TThing (l : List TThing) : flatDs (ML encTThing l) = true := ML_flat (fun x => by simp [flatD, flatDs]) l
structure TSpan where
  From : Int
  Until : Int
instance : Inhabited TSpan := ⟨⟨default, default⟩⟩
instance : DecidableEq TSpan := fun a b => decidable_of_iff (a.From = b.From ∧ a.Until = b.Until) (by cases a; cases b; simp)
@[simp] theorem TSpan_eta (x : TSpan) : (⟨x.From, x.Until⟩ : TSpan) = x := rfl
@[simp] def encTSpan (x : TSpan) : D := .agg [.lit (.int .i64 x.From), .lit (.int .i64 x.Until)]
def yTSpan : D := encTSpan default
def wfTSpan (x : TSpan) : Prop := inR .i64 x.From ∧ inR .i64 x.Until
@[simp] def encLS (x : List ByteArray) : D := .sl false 1 (.lit (.string ⟨#[]⟩)) (ML dS x)
def yLS : D := encLS []
def wfLS (x : List ByteArray) : Prop := x.length ≤ maxLen ∧ ∀ y ∈ x, y.size ≤ maxLen
theorem inj_S : ∀ x y : ByteArray, dS x = dS y → x = y := by
  intro x y h
  simp [dI] at h
  first | exact h | simp [h] | (cases h; rfl)
@[simp] theorem ML_inj_S (l l' : List ByteArray) : ML dS l = ML dS l' ↔ l = l' := ML_inj inj_S
@[simp] theorem ML_getD_S (l : List ByteArray) (k : Nat) : (ML dS l).getD k (.lit (.string ⟨#[]⟩)) = dS (l.getD k ⟨#[]⟩) := ML_getD l k ⟨#[]⟩
@[simp] theorem ML_get2_S (l : List ByteArray) (k : Nat) : (ML dS l)[k]?.getD (.lit (.string ⟨#[]⟩)) = dS (l.getD k ⟨#[]⟩) := by rw [← List.getD_eq_getElem?_getD]; exact ML_getD l k ⟨#[]⟩
@[simp] theorem ML_snoc_S (l : List ByteArray) (a : ByteArray) : ML dS l ++ [.lit (.string a)] = ML dS (l ++ [a]) := ML_snoc (enc := dS) l a
@[simp] theorem ML_cons_S (l : List ByteArray) (a : ByteArray) : .lit (.string a) :: ML dS l = ML dS (a :: l) := rfl
@[simp] theorem ML_set_S (l : List ByteArray) (k : Nat) (a : ByteArray) : (ML dS l).set k (.lit (.string a)) = ML dS (l.set k a) := ML_set (enc := dS) l k a
@[simp] theorem ML_rep_S (n : Nat) (a : ByteArray) : List.replicate n (.lit (.string a) : D) = ML dS (List.replicate n a) := ML_rep (enc := dS) n a
@[simp] theorem ML_pure_S (l : List ByteArray) : puresD (ML dS l) = true := ML_pure (fun x => by simp [pureD, puresD]) l
@[simp] theorem ML_flat_S (l : List ByteArray) : flatDs (ML dS l) = true := ML_flat (fun x => by simp [flatD, flatDs]) l
structure TMeeting where
  with_ : TSpan
instance : Inhabited TMeeting := ⟨⟨default⟩⟩
instance : DecidableEq TMeeting := fun a b => decidable_of_iff (a.with_ = b.with_) (by cases a; cases b; simp)
@[simp] theorem TMeeting_eta (x : TMeeting) : (⟨x.with_⟩ : TMeeting) = x := rfl
@[simp] def encTMeeting (x : TMeeting) : D := .agg [.lit (.int .i64 x.with_.From), .lit (.int .i64 x.with_.Until)]
def yTMeeting : D := encTMeeting default
def wfTMeeting (x : TMeeting) : Prop := wfTSpan x.with_
structure TWidening where
  by_ : Int
instance : Inhabited TWidening := ⟨⟨default⟩⟩
instance : DecidableEq TWidening := fun a b => decidable_of_iff (a.by_ = b.by_) (by cases a; cases b; simp)
@[simp] theorem TWidening_eta (x : TWidening) : (⟨x.by_⟩ : TWidening) = x := rfl
@[simp] def encTWidening (x : TWidening) : D := .agg [.lit (.int .i64 x.by_)]
def yTWidening : D := encTWidening default
def wfTWidening (x : TWidening) : Prop := inR .i64 x.by_
@[simp] def encLLI (x : List (List Int)) : D := .sl false 1 yLI (ML encLI x)
def yLLI : D := encLLI []
def wfLLI (x : List (List Int)) : Prop := x.length ≤ maxLen ∧ ∀ y ∈ x, wfLI y
theorem inj_LI : ∀ x y : List Int, encLI x = encLI y → x = y := by
  intro x y h
  simp [encLI] at h
  first | exact h | simp [h] | (cases h; rfl)
@[simp] theorem ML_inj_LI (l l' : List (List Int)) : ML encLI l = ML encLI l' ↔ l = l' := ML_inj inj_LI
@[simp] theorem ML_getD_LI (l : List (List Int)) (k : Nat) : (ML encLI l).getD k yLI = encLI (l.getD k []) := ML_getD l k []
@[simp] theorem ML_get2_LI (l : List (List Int)) (k : Nat) : (ML encLI l)[k]?.getD yLI = encLI (l.getD k []) := by rw [← List.getD_eq_getElem?_getD]; exact ML_getD l k []
@[simp] theorem ML_snoc_LI (l : List (List Int)) (a : List Int) : ML encLI l ++ [.sl false 1 (.lit (.int .i64 0)) (ML dI a)] = ML encLI (l ++ [a]) := ML_snoc (enc := encLI) l a
@[simp] theorem ML_cons_LI (l : List (List Int)) (a : List Int) : .sl false 1 (.lit (.int .i64 0)) (ML dI a) :: ML encLI l = ML encLI (a :: l) := rfl
@[simp] theorem ML_set_LI (l : List (List Int)) (k : Nat) (a : List Int) : (ML encLI l).set k (.sl false 1 (.lit (.int .i64 0)) (ML dI a)) = ML encLI (l.set k a) := ML_set (enc := encLI) l k a
@[simp] theorem ML_rep_LI (n : Nat) (a : List Int) : List.replicate n (.sl false 1 (.lit (.int .i64 0)) (ML dI a) : D) = ML encLI (List.replicate n a) := ML_rep (enc := encLI) n a
@[simp] theorem ML_pure_LI (l : List (List Int)) : puresD (ML encLI l) = true := ML_pure (fun x => by simp [pureD, puresD, ML_pure_I]) l
end Go.Proofs.Ytdccffbbkljkfaa
