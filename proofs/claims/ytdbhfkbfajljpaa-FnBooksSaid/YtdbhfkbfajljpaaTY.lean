/- The data of this program as Lean types, and how they are held. -/
import Derived.Test.YtdbhfkbfajljpaaEngB
namespace Go.Proofs.Ytdbhfkbfajljpaa
open Go Go.Eng
set_option linter.unusedSimpArgs false
set_option linter.unusedVariables false
/-- what the package variables hold -/
def glD : Nat → D
  | _ => .any
instance : HasG := ⟨glD⟩
@[simp] theorem gl_0 : HasG.gl 0 = .any := rfl
@[simp] theorem gl_1 : HasG.gl 1 = .any := rfl
@[simp] theorem gl_2 : HasG.gl 2 = .any := rfl
@[simp] theorem gl_3 : HasG.gl 3 = .any := rfl
@[simp] theorem gl_4 : HasG.gl 4 = .any := rfl
@[simp] theorem gl_5 : HasG.gl 5 = .any := rfl
@[simp] theorem gl_6 : HasG.gl 6 = .any := rfl
@[simp] theorem gl_7 : HasG.gl 7 = .any := rfl
@[simp] def encLU (x : List Int) : D := .sl false 1 (.lit (.int .u8 0)) (ML dU x)
def yLU : D := encLU []
def wfLU (x : List Int) : Prop := x.length ≤ maxLen ∧ ∀ y ∈ x, inR .u8 y
theorem inj_U : ∀ x y : Int, dU x = dU y → x = y := by
  intro x y h
  simp [dI] at h
  first | exact h | simp [h] | (cases h; rfl)
@[simp] theorem ML_inj_U (l l' : List Int) : ML dU l = ML dU l' ↔ l = l' := ML_inj inj_U
@[simp] theorem ML_getD_U (l : List Int) (k : Nat) : (ML dU l).getD k (.lit (.int .u8 0)) = dU (l.getD k 0) := ML_getD l k 0
@[simp] theorem ML_get2_U (l : List Int) (k : Nat) : (ML dU l)[k]?.getD (.lit (.int .u8 0)) = dU (l.getD k 0) := by rw [← List.getD_eq_getElem?_getD]; exact ML_getD l k 0
@[simp] theorem ML_snoc_U (l : List Int) (a : Int) : ML dU l ++ [.lit (.int .u8 a)] = ML dU (l ++ [a]) := ML_snoc (enc := dU) l a
@[simp] theorem ML_cons_U (l : List Int) (a : Int) : .lit (.int .u8 a) :: ML dU l = ML dU (a :: l) := rfl
@[simp] theorem ML_set_U (l : List Int) (k : Nat) (a : Int) : (ML dU l).set k (.lit (.int .u8 a)) = ML dU (l.set k a) := ML_set (enc := dU) l k a
@[simp] theorem ML_rep_U (n : Nat) (a : Int) : List.replicate n (.lit (.int .u8 a) : D) = ML dU (List.replicate n a) := ML_rep (enc := dU) n a
@[simp] theorem ML_pure_U (l : List Int) : puresD (ML dU l) = true := ML_pure (fun x => by simp [pureD, puresD]) l
@[simp] theorem ML_okS_U (l : List Int) : (ML dU l).all okS = true := ML_all (fun x => by simp [okS, cellsD, oneD, softD, Value.oneCell']) l
@[simp] theorem ML_flat_U (l : List Int) : flatDs (ML dU l) = true := ML_flat (fun x => by simp [flatD, flatDs]) l
@[simp] def encLI (x : List Int) : D := .sl false 1 (.lit (.int .i64 0)) (ML dI x)
def yLI : D := encLI []
def wfLI (x : List Int) : Prop := x.length ≤ maxLen ∧ ∀ y ∈ x, inR .i64 y
theorem inj_I : ∀ x y : Int, dI x = dI y → x = y := by
  intro x y h
  simp [dI] at h
  first | exact h | simp [h] | (cases h; rfl)
@[simp] theorem ML_inj_I (l l' : List Int) : ML dI l = ML dI l' ↔ l = l' := ML_inj inj_I
@[simp] theorem ML_getD_I (l : List Int) (k : Nat) : (ML dI l).getD k (.lit (.int .i64 0)) = dI (l.getD k 0) := ML_getD l k 0
@[simp] theorem ML_get2_I (l : List Int) (k : Nat) : (ML dI l)[k]?.getD (.lit (.int .i64 0)) = dI (l.getD k 0) := by rw [← List.getD_eq_getElem?_getD]; exact ML_getD l k 0
@[simp] theorem ML_snoc_I (l : List Int) (a : Int) : ML dI l ++ [.lit (.int .i64 a)] = ML dI (l ++ [a]) := ML_snoc (enc := dI) l a
@[simp] theorem ML_cons_I (l : List Int) (a : Int) : .lit (.int .i64 a) :: ML dI l = ML dI (a :: l) := rfl
@[simp] theorem ML_set_I (l : List Int) (k : Nat) (a : Int) : (ML dI l).set k (.lit (.int .i64 a)) = ML dI (l.set k a) := ML_set (enc := dI) l k a
@[simp] theorem ML_rep_I (n : Nat) (a : Int) : List.replicate n (.lit (.int .i64 a) : D) = ML dI (List.replicate n a) := ML_rep (enc := dI) n a
@[simp] theorem ML_pure_I (l : List Int) : puresD (ML dI l) = true := ML_pure (fun x => by simp [pureD, puresD]) l
@[simp] theorem ML_okS_I (l : List Int) : (ML dI l).all okS = true := ML_all (fun x => by simp [okS, cellsD, oneD, softD, Value.oneCell']) l
@[simp] theorem ML_flat_I (l : List Int) : flatDs (ML dI l) = true := ML_flat (fun x => by simp [flatD, flatDs]) l
structure TEntry where
  From : Int
  To : Int
  Cents : Int
  At : Int
instance : Inhabited TEntry := ⟨⟨default, default, default, default⟩⟩
instance : DecidableEq TEntry := fun a b => decidable_of_iff (a.From = b.From ∧ a.To = b.To ∧ a.Cents = b.Cents ∧ a.At = b.At) (by cases a; cases b; simp)
@[simp] theorem TEntry_eta (x : TEntry) : (⟨x.From, x.To, x.Cents, x.At⟩ : TEntry) = x := rfl
@[simp] def encTEntry (x : TEntry) : D := .agg [.lit (.int .i64 x.From), .lit (.int .i64 x.To), .lit (.int .i64 x.Cents), .lit (.int .i64 x.At)]
def yTEntry : D := encTEntry default
def wfTEntry (x : TEntry) : Prop := inR .i64 x.From ∧ inR .i64 x.To ∧ inR .i64 x.Cents ∧ inR .i64 x.At
@[simp] def encLTEntry (x : List TEntry) : D := .sl false 4 yTEntry (ML encTEntry x)
def yLTEntry : D := encLTEntry []
def wfLTEntry (x : List TEntry) : Prop := x.length ≤ maxLen ∧ ∀ y ∈ x, wfTEntry y
theorem inj_TEntry : ∀ x y : TEntry, encTEntry x = encTEntry y → x = y := by
  intro x y h
  obtain ⟨x0, x1, x2, x3⟩ := x
  obtain ⟨y0, y1, y2, y3⟩ := y
  simp [encTEntry] at h
  first | exact h | simp [h] | (cases h; rfl)
@[simp] theorem ML_inj_TEntry (l l' : List TEntry) : ML encTEntry l = ML encTEntry l' ↔ l = l' := ML_inj inj_TEntry
@[simp] theorem ML_getD_TEntry (l : List TEntry) (k : Nat) : (ML encTEntry l).getD k yTEntry = encTEntry (l.getD k default) := ML_getD l k default
@[simp] theorem ML_get2_TEntry (l : List TEntry) (k : Nat) : (ML encTEntry l)[k]?.getD yTEntry = encTEntry (l.getD k default) := by rw [← List.getD_eq_getElem?_getD]; exact ML_getD l k default
@[simp] theorem ML_snoc_TEntry (l : List TEntry) (a0 : Int) (a1 : Int) (a2 : Int) (a3 : Int) : ML encTEntry l ++ [.agg [.lit (.int .i64 a0), .lit (.int .i64 a1), .lit (.int .i64 a2), .lit (.int .i64 a3)]] = ML encTEntry (l ++ [⟨a0, a1, a2, a3⟩]) := ML_snoc (enc := encTEntry) l ⟨a0, a1, a2, a3⟩
@[simp] theorem ML_cons_TEntry (l : List TEntry) (a0 : Int) (a1 : Int) (a2 : Int) (a3 : Int) : .agg [.lit (.int .i64 a0), .lit (.int .i64 a1), .lit (.int .i64 a2), .lit (.int .i64 a3)] :: ML encTEntry l = ML encTEntry (⟨a0, a1, a2, a3⟩ :: l) := rfl
@[simp] theorem ML_set_TEntry (l : List TEntry) (k : Nat) (a0 : Int) (a1 : Int) (a2 : Int) (a3 : Int) : (ML encTEntry l).set k (.agg [.lit (.int .i64 a0), .lit (.int .i64 a1), .lit (.int .i64 a2), .lit (.int .i64 a3)]) = ML encTEntry (l.set k ⟨a0, a1, a2, a3⟩) := ML_set (enc := encTEntry) l k ⟨a0, a1, a2, a3⟩
@[simp] theorem ML_rep_TEntry (n : Nat) (a0 : Int) (a1 : Int) (a2 : Int) (a3 : Int) : List.replicate n (.agg [.lit (.int .i64 a0), .lit (.int .i64 a1), .lit (.int .i64 a2), .lit (.int .i64 a3)] : D) = ML encTEntry (List.replicate n ⟨a0, a1, a2, a3⟩) := ML_rep (enc := encTEntry) n ⟨a0, a1, a2, a3⟩
@[simp] theorem ML_pure_TEntry (l : List TEntry) : puresD (ML encTEntry l) = true := ML_pure (fun x => by simp [pureD, puresD]) l
@[simp] theorem ML_okS_TEntry (l : List TEntry) : (ML encTEntry l).all okS = true := ML_all (fun x => by simp [okS, cellsD, oneD, softD, Value.oneCell']) l
@[simp] theorem ML_flat_TEntry (l : List TEntry) : flatDs (ML encTEntry l) = true := ML_flat (fun x => by simp [flatD, flatDs]) l
structure TShare where
  Who : Int
  Cents : Int
instance : Inhabited TShare := ⟨⟨default, default⟩⟩
instance : DecidableEq TShare := fun a b => decidable_of_iff (a.Who = b.Who ∧ a.Cents = b.Cents) (by cases a; cases b; simp)
@[simp] theorem TShare_eta (x : TShare) : (⟨x.Who, x.Cents⟩ : TShare) = x := rfl
@[simp] def encTShare (x : TShare) : D := .agg [.lit (.int .i64 x.Who), .lit (.int .i64 x.Cents)]
def yTShare : D := encTShare default
def wfTShare (x : TShare) : Prop := inR .i64 x.Who ∧ inR .i64 x.Cents
@[simp] def encLTShare (x : List TShare) : D := .sl false 2 yTShare (ML encTShare x)
def yLTShare : D := encLTShare []
def wfLTShare (x : List TShare) : Prop := x.length ≤ maxLen ∧ ∀ y ∈ x, wfTShare y
theorem inj_TShare : ∀ x y : TShare, encTShare x = encTShare y → x = y := by
  intro x y h
  obtain ⟨x0, x1⟩ := x
  obtain ⟨y0, y1⟩ := y
  simp [encTShare] at h
  first | exact h | simp [h] | (cases h; rfl)
@[simp] theorem ML_inj_TShare (l l' : List TShare) : ML encTShare l = ML encTShare l' ↔ l = l' := ML_inj inj_TShare
@[simp] theorem ML_getD_TShare (l : List TShare) (k : Nat) : (ML encTShare l).getD k yTShare = encTShare (l.getD k default) := ML_getD l k default
@[simp] theorem ML_get2_TShare (l : List TShare) (k : Nat) : (ML encTShare l)[k]?.getD yTShare = encTShare (l.getD k default) := by rw [← List.getD_eq_getElem?_getD]; exact ML_getD l k default
@[simp] theorem ML_snoc_TShare (l : List TShare) (a0 : Int) (a1 : Int) : ML encTShare l ++ [.agg [.lit (.int .i64 a0), .lit (.int .i64 a1)]] = ML encTShare (l ++ [⟨a0, a1⟩]) := ML_snoc (enc := encTShare) l ⟨a0, a1⟩
@[simp] theorem ML_cons_TShare (l : List TShare) (a0 : Int) (a1 : Int) : .agg [.lit (.int .i64 a0), .lit (.int .i64 a1)] :: ML encTShare l = ML encTShare (⟨a0, a1⟩ :: l) := rfl
@[simp] theorem ML_set_TShare (l : List TShare) (k : Nat) (a0 : Int) (a1 : Int) : (ML encTShare l).set k (.agg [.lit (.int .i64 a0), .lit (.int .i64 a1)]) = ML encTShare (l.set k ⟨a0, a1⟩) := ML_set (enc := encTShare) l k ⟨a0, a1⟩
@[simp] theorem ML_rep_TShare (n : Nat) (a0 : Int) (a1 : Int) : List.replicate n (.agg [.lit (.int .i64 a0), .lit (.int .i64 a1)] : D) = ML encTShare (List.replicate n ⟨a0, a1⟩) := ML_rep (enc := encTShare) n ⟨a0, a1⟩
@[simp] theorem ML_pure_TShare (l : List TShare) : puresD (ML encTShare l) = true := ML_pure (fun x => by simp [pureD, puresD]) l
@[simp] theorem ML_okS_TShare (l : List TShare) : (ML encTShare l).all okS = true := ML_all (fun x => by simp [okS, cellsD, oneD, softD, Value.oneCell']) l
@[simp] theorem ML_flat_TShare (l : List TShare) : flatDs (ML encTShare l) = true := ML_flat (fun x => by simp [flatD, flatDs]) l
structure TL1Cur where
  b_ : List Int
  i_ : Int
  h_ : Int
instance : Inhabited TL1Cur := ⟨⟨default, default, default⟩⟩
instance : DecidableEq TL1Cur := fun a b => decidable_of_iff (a.b_ = b.b_ ∧ a.i_ = b.i_ ∧ a.h_ = b.h_) (by cases a; cases b; simp)
@[simp] theorem TL1Cur_eta (x : TL1Cur) : (⟨x.b_, x.i_, x.h_⟩ : TL1Cur) = x := rfl
@[simp] def encTL1Cur (x : TL1Cur) : D := .agg [.sl false 1 (.lit (.int .u8 0)) (ML dU x.b_), .lit (.int .i64 x.i_), .lit (.int .i64 x.h_)]
def yTL1Cur : D := encTL1Cur default
def wfTL1Cur (x : TL1Cur) : Prop := wfLU x.b_ ∧ inR .i64 x.i_ ∧ inR .i64 x.h_
@[simp] def encLLI (x : List (List Int)) : D := .sl false 1 yLI (ML encLI x)
def yLLI : D := encLLI []
def wfLLI (x : List (List Int)) : Prop := x.length ≤ maxLen ∧ ∀ y ∈ x, wfLI y
theorem inj_LI : ∀ x y : List Int, encLI x = encLI y → x = y := by
  intro x y h
  simp [encLI] at h
  first | exact h | simp [h] | (cases h; rfl)
@[simp] theorem ML_inj_LI (l l' : List (List Int)) : ML encLI l = ML encLI l' ↔ l = l' := ML_inj inj_LI
@[simp] theorem ML_getD_LI (l : List (List Int)) (k : Nat) : (ML encLI l).getD k yLI = encLI (l.getD k []) := ML_getD l k []
@[simp] theorem ML_get2_LI (l : List (List Int)) (k : Nat) : (ML encLI l)[k]?.getD yLI = encLI (l.getD k []) := by rw [← List.getD_eq_getElem?_getD]; exact ML_getD l k []
@[simp] theorem ML_snoc_LI (l : List (List Int)) (a : List Int) : ML encLI l ++ [.sl false 1 (.lit (.int .i64 0)) (ML dI a)] = ML encLI (l ++ [a]) := ML_snoc (enc := encLI) l a
@[simp] theorem ML_cons_LI (l : List (List Int)) (a : List Int) : .sl false 1 (.lit (.int .i64 0)) (ML dI a) :: ML encLI l = ML encLI (a :: l) := rfl
@[simp] theorem ML_set_LI (l : List (List Int)) (k : Nat) (a : List Int) : (ML encLI l).set k (.sl false 1 (.lit (.int .i64 0)) (ML dI a)) = ML encLI (l.set k a) := ML_set (enc := encLI) l k a
@[simp] theorem ML_rep_LI (n : Nat) (a : List Int) : List.replicate n (.sl false 1 (.lit (.int .i64 0)) (ML dI a) : D) = ML encLI (List.replicate n a) := ML_rep (enc := encLI) n a
@[simp] theorem ML_pure_LI (l : List (List Int)) : puresD (ML encLI l) = true := ML_pure (fun x => by simp [pureD, puresD, ML_pure_I]) l
@[simp] theorem ML_okS_LI (l : List (List Int)) : (ML encLI l).all okS = true := ML_all (fun x => by simp [okS, cellsD, oneD, softD, Value.oneCell']) l
end Go.Proofs.Ytdbhfkbfajljpaa
