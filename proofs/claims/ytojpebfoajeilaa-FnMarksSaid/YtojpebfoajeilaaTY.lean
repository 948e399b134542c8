/- The data of this program as Lean types, and how they are held. -/
import Derived.Test.YtojpebfoajeilaaEngB
namespace Go.Proofs.Ytojpebfoajeilaa
open Go Go.Eng
set_option linter.unusedSimpArgs false
set_option linter.unusedVariables false
/-- what the package variables hold -/
def glD : Nat → D
  | _ => .any
instance : HasG := ⟨glD⟩
@[simp] theorem gl_0 : HasG.gl 0 = .any := rfl
@[simp] theorem gl_1 : HasG.gl 1 = .any := rfl
@[simp] theorem gl_2 : HasG.gl 2 = .any := rfl
@[simp] theorem gl_3 : HasG.gl 3 = .any := rfl
@[simp] theorem gl_4 : HasG.gl 4 = .any := rfl
@[simp] theorem gl_5 : HasG.gl 5 = .any := rfl
@[simp] theorem gl_6 : HasG.gl 6 = .any := rfl
@[simp] theorem gl_7 : HasG.gl 7 = .any := rfl
@[simp] def encLU (x : List Int) : D := .sl false 1 (.lit (.int .u8 0)) (ML dU x)
def yLU : D := encLU []
def wfLU (x : List Int) : Prop := x.length ≤ maxLen ∧ ∀ y ∈ x, inR .u8 y
theorem inj_U : ∀ x y : Int, dU x = dU y → x = y := by
  intro x y h
  simp [dI] at h
  first | exact h | simp [h] | (cases h; rfl)
@[simp] theorem ML_inj_U (l l' : List Int) : ML dU l = ML dU l' ↔ l = l' := ML_inj inj_U
@[simp] theorem ML_getD_U (l : List Int) (k : Nat) : (ML dU l).getD k (.lit (.int .u8 0)) = dU (l.getD k 0) := ML_getD l k 0
@[simp] theorem ML_get2_U (l : List Int) (k : Nat) : (ML dU l)[k]?.getD (.lit (.int .u8 0)) = dU (l.getD k 0) := by rw [← List.getD_eq_getElem?_getD]; exact ML_getD l k 0
@[simp] theorem ML_snoc_U (l : List Int) (a : Int) : ML dU l ++ [.lit (.int .u8 a)] = ML dU (l ++ [a]) := ML_snoc (enc := dU) l a
@[simp] theorem ML_cons_U (l : List Int) (a : Int) : .lit (.int .u8 a) :: ML dU l = ML dU (a :: l) := rfl
@[simp] theorem ML_set_U (l : List Int) (k : Nat) (a : Int) : (ML dU l).set k (.lit (.int .u8 a)) = ML dU (l.set k a) := ML_set (enc := dU) l k a
@[simp] theorem ML_rep_U (n : Nat) (a : Int) : List.replicate n (.lit (.int .u8 a) : D) = ML dU (List.replicate n a) := ML_rep (enc := dU) n a
@[simp] theorem ML_pure_U (l : List Int) : puresD (ML dU l) = true := ML_pure (fun x => by simp [pureD, puresD]) l
@[simp] theorem ML_okS_U (l : List Int) : (ML dU l).all okS = true := ML_all (fun x => by simp [okS, cellsD, oneD, softD, Value.oneCell']) l
@[simp] theorem ML_flat_U (l : List Int) : flatDs (ML dU l) = true := ML_flat (fun x => by simp [flatD, flatDs]) l
structure TSpan where
  From : Int
  Until : Int
instance : Inhabited TSpan := ⟨⟨default, default⟩⟩
instance : DecidableEq TSpan := fun a b => decidable_of_iff (a.From = b.From ∧ a.Until = b.Until) (by cases a; cases b; simp)
@[simp] theorem TSpan_eta (x : TSpan) : (⟨x.From, x.Until⟩ : TSpan) = x := rfl
@[simp] def encTSpan (x : TSpan) : D := .agg [.lit (.int .i64 x.From), .lit (.int .i64 x.Until)]
def yTSpan : D := encTSpan default
def wfTSpan (x : TSpan) : Prop := inR .i64 x.From ∧ inR .i64 x.Until
structure TMark where
  Question : Int
  Answer : Int
instance : Inhabited TMark := ⟨⟨default, default⟩⟩
instance : DecidableEq TMark := fun a b => decidable_of_iff (a.Question = b.Question ∧ a.Answer = b.Answer) (by cases a; cases b; simp)
@[simp] theorem TMark_eta (x : TMark) : (⟨x.Question, x.Answer⟩ : TMark) = x := rfl
@[simp] def encTMark (x : TMark) : D := .agg [.lit (.int .i64 x.Question), .lit (.int .i64 x.Answer)]
def yTMark : D := encTMark default
def wfTMark (x : TMark) : Prop := inR .i64 x.Question ∧ inR .i64 x.Answer
@[simp] def encLTMark (x : List TMark) : D := .sl false 2 yTMark (ML encTMark x)
def yLTMark : D := encLTMark []
def wfLTMark (x : List TMark) : Prop := x.length ≤ maxLen ∧ ∀ y ∈ x, wfTMark y
theorem inj_TMark : ∀ x y : TMark, encTMark x = encTMark y → x = y := by
  intro x y h
  obtain ⟨x0, x1⟩ := x
  obtain ⟨y0, y1⟩ := y
  simp [encTMark] at h
  first | exact h | simp [h] | (cases h; rfl)
@[simp] theorem ML_inj_TMark (l l' : List TMark) : ML encTMark l = ML encTMark l' ↔ l = l' := ML_inj inj_TMark
@[simp] theorem ML_getD_TMark (l : List TMark) (k : Nat) : (ML encTMark l).getD k yTMark = encTMark (l.getD k default) := ML_getD l k default
@[simp] theorem ML_get2_TMark (l : List TMark) (k : Nat) : (ML encTMark l)[k]?.getD yTMark = encTMark (l.getD k default) := by rw [← List.getD_eq_getElem?_getD]; exact ML_getD l k default
@[simp] theorem ML_snoc_TMark (l : List TMark) (a0 : Int) (a1 : Int) : ML encTMark l ++ [.agg [.lit (.int .i64 a0), .lit (.int .i64 a1)]] = ML encTMark (l ++ [⟨a0, a1⟩]) := ML_snoc (enc := encTMark) l ⟨a0, a1⟩
@[simp] theorem ML_cons_TMark (l : List TMark) (a0 : Int) (a1 : Int) : .agg [.lit (.int .i64 a0), .lit (.int .i64 a1)] :: ML encTMark l = ML encTMark (⟨a0, a1⟩ :: l) := rfl
@[simp] theorem ML_set_TMark (l : List TMark) (k : Nat) (a0 : Int) (a1 : Int) : (ML encTMark l).set k (.agg [.lit (.int .i64 a0), .lit (.int .i64 a1)]) = ML encTMark (l.set k ⟨a0, a1⟩) := ML_set (enc := encTMark) l k ⟨a0, a1⟩
@[simp] theorem ML_rep_TMark (n : Nat) (a0 : Int) (a1 : Int) : List.replicate n (.agg [.lit (.int .i64 a0), .lit (.int .i64 a1)] : D) = ML encTMark (List.replicate n ⟨a0, a1⟩) := ML_rep (enc := encTMark) n ⟨a0, a1⟩
@[simp] theorem ML_pure_TMark (l : List TMark) : puresD (ML encTMark l) = true := ML_pure (fun x => by simp [pureD, puresD]) l
@[simp] theorem ML_okS_TMark (l : List TMark) : (ML encTMark l).all okS = true := ML_all (fun x => by simp [okS, cellsD, oneD, softD, Value.oneCell']) l
@[simp] theorem ML_flat_TMark (l : List TMark) : flatDs (ML encTMark l) = true := ML_flat (fun x => by simp [flatD, flatDs]) l
structure TMeeting where
  with_ : TSpan
instance : Inhabited TMeeting := ⟨⟨default⟩⟩
instance : DecidableEq TMeeting := fun a b => decidable_of_iff (a.with_ = b.with_) (by cases a; cases b; simp)
@[simp] theorem TMeeting_eta (x : TMeeting) : (⟨x.with_⟩ : TMeeting) = x := rfl
@[simp] def encTMeeting (x : TMeeting) : D := .agg [.lit (.int .i64 x.with_.From), .lit (.int .i64 x.with_.Until)]
def yTMeeting : D := encTMeeting default
def wfTMeeting (x : TMeeting) : Prop := wfTSpan x.with_
@[simp] def encLI (x : List Int) : D := .sl false 1 (.lit (.int .i64 0)) (ML dI x)
def yLI : D := encLI []
def wfLI (x : List Int) : Prop := x.length ≤ maxLen ∧ ∀ y ∈ x, inR .i64 y
theorem inj_I : ∀ x y : Int, dI x = dI y → x = y := by
  intro x y h
  simp [dI] at h
  first | exact h | simp [h] | (cases h; rfl)
@[simp] theorem ML_inj_I (l l' : List Int) : ML dI l = ML dI l' ↔ l = l' := ML_inj inj_I
@[simp] theorem ML_getD_I (l : List Int) (k : Nat) : (ML dI l).getD k (.lit (.int .i64 0)) = dI (l.getD k 0) := ML_getD l k 0
@[simp] theorem ML_get2_I (l : List Int) (k : Nat) : (ML dI l)[k]?.getD (.lit (.int .i64 0)) = dI (l.getD k 0) := by rw [← List.getD_eq_getElem?_getD]; exact ML_getD l k 0
@[simp] theorem ML_snoc_I (l : List Int) (a : Int) : ML dI l ++ [.lit (.int .i64 a)] = ML dI (l ++ [a]) := ML_snoc (enc := dI) l a
@[simp] theorem ML_cons_I (l : List Int) (a : Int) : .lit (.int .i64 a) :: ML dI l = ML dI (a :: l) := rfl
@[simp] theorem ML_set_I (l : List Int) (k : Nat) (a : Int) : (ML dI l).set k (.lit (.int .i64 a)) = ML dI (l.set k a) := ML_set (enc := dI) l k a
@[simp] theorem ML_rep_I (n : Nat) (a : Int) : List.replicate n (.lit (.int .i64 a) : D) = ML dI (List.replicate n a) := ML_rep (enc := dI) n a
@[simp] theorem ML_pure_I (l : List Int) : puresD (ML dI l) = true := ML_pure (fun x => by simp [pureD, puresD]) l
@[simp] theorem ML_okS_I (l : List Int) : (ML dI l).all okS = true := ML_all (fun x => by simp [okS, cellsD, oneD, softD, Value.oneCell']) l
@[simp] theorem ML_flat_I (l : List Int) : flatDs (ML dI l) = true := ML_flat (fun x => by simp [flatD, flatDs]) l
structure TWidening where
  by_ : Int
instance : Inhabited TWidening := ⟨⟨default⟩⟩
instance : DecidableEq TWidening := fun a b => decidable_of_iff (a.by_ = b.by_) (by cases a; cases b; simp)
@[simp] theorem TWidening_eta (x : TWidening) : (⟨x.by_⟩ : TWidening) = x := rfl
@[simp] def encTWidening (x : TWidening) : D := .agg [.lit (.int .i64 x.by_)]
def yTWidening : D := encTWidening default
def wfTWidening (x : TWidening) : Prop := inR .i64 x.by_
structure TL1Cur where
  b_ : List Int
  i_ : Int
  h_ : Int
instance : Inhabited TL1Cur := ⟨⟨default, default, default⟩⟩
instance : DecidableEq TL1Cur := fun a b => decidable_of_iff (a.b_ = b.b_ ∧ a.i_ = b.i_ ∧ a.h_ = b.h_) (by cases a; cases b; simp)
@[simp] theorem TL1Cur_eta (x : TL1Cur) : (⟨x.b_, x.i_, x.h_⟩ : TL1Cur) = x := rfl
@[simp] def encTL1Cur (x : TL1Cur) : D := .agg [.sl false 1 (.lit (.int .u8 0)) (ML dU x.b_), .lit (.int .i64 x.i_), .lit (.int .i64 x.h_)]
def yTL1Cur : D := encTL1Cur default
def wfTL1Cur (x : TL1Cur) : Prop := wfLU x.b_ ∧ inR .i64 x.i_ ∧ inR .i64 x.h_
end Go.Proofs.Ytojpebfoajeilaa
