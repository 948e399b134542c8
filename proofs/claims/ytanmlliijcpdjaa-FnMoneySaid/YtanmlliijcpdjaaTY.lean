/- The data of this program as Lean types, and how they are held. -/
import Derived.Test.YtanmlliijcpdjaaEngB
namespace Go.Proofs.Ytanmlliijcpdjaa
open Go Go.Eng
set_option linter.unusedSimpArgs false
set_option linter.unusedVariables false
/-- what the package variables hold -/
def glD : Nat → D
  | _ => .any
instance : HasG := ⟨glD⟩
@[simp] theorem gl_0 : HasG.gl 0 = .any := rfl
@[simp] theorem gl_1 : HasG.gl 1 = .any := rfl
@[simp] theorem gl_2 : HasG.gl 2 = .any := rfl
@[simp] theorem gl_3 : HasG.gl 3 = .any := rfl
@[simp] theorem gl_4 : HasG.gl 4 = .any := rfl
@[simp] theorem gl_5 : HasG.gl 5 = .any := rfl
@[simp] theorem gl_6 : HasG.gl 6 = .any := rfl
@[simp] theorem gl_7 : HasG.gl 7 = .any := rfl
@[simp] def encLU (x : List Int) : D := .sl false 1 (.lit (.int .u8 0)) (ML dU x)
def yLU : D := encLU []
def wfLU (x : List Int) : Prop := x.length ≤ maxLen ∧ ∀ y ∈ x, inR .u8 y
theorem inj_U : ∀ x y : Int, dU x = dU y → x = y := by
  intro x y h
  simp [dI] at h
  first | exact h | simp [h] | (cases h; rfl)
@[simp] theorem ML_inj_U (l l' : List Int) : ML dU l = ML dU l' ↔ l = l' := ML_inj inj_U
@[simp] theorem ML_getD_U (l : List Int) (k : Nat) : (ML dU l).getD k (.lit (.int .u8 0)) = dU (l.getD k 0) := ML_getD l k 0
@[simp] theorem ML_get2_U (l : List Int) (k : Nat) : (ML dU l)[k]?.getD (.lit (.int .u8 0)) = dU (l.getD k 0) := by rw [← List.getD_eq_getElem?_getD]; exact ML_getD l k 0
@[simp] theorem ML_snoc_U (l : List Int) (a : Int) : ML dU l ++ [.lit (.int .u8 a)] = ML dU (l ++ [a]) := ML_snoc (enc := dU) l a
@[simp] theorem ML_cons_U (l : List Int) (a : Int) : .lit (.int .u8 a) :: ML dU l = ML dU (a :: l) := rfl
@[simp] theorem ML_set_U (l : List Int) (k : Nat) (a : Int) : (ML dU l).set k (.lit (.int .u8 a)) = ML dU (l.set k a) := ML_set (enc := dU) l k a
@[simp] theorem ML_rep_U (n : Nat) (a : Int) : List.replicate n (.lit (.int .u8 a) : D) = ML dU (List.replicate n a) := ML_rep (enc := dU) n a
@[simp] theorem ML_pure_U (l : List Int) : puresD (ML dU l) = true := ML_pure (fun x => by simp [pureD, puresD]) l
@[simp] theorem ML_okS_U (l : List Int) : (ML dU l).all okS = true := ML_all (fun x => by simp [okS, cellsD, oneD, softD, Value.oneCell']) l
@[simp] theorem ML_flat_U (l : List Int) : flatDs (ML dU l) = true := ML_flat (fun x => by simp [flatD, flatDs]) l
@[simp] def encLI (x : List Int) : D := .sl false 1 (.lit (.int .i64 0)) (ML dI x)
def yLI : D := encLI []
def wfLI (x : List Int) : Prop := x.length ≤ maxLen ∧ ∀ y ∈ x, inR .i64 y
theorem inj_I : ∀ x y : Int, dI x = dI y → x = y := by
  intro x y h
  simp [dI] at h
  first | exact h | simp [h] | (cases h; rfl)
@[simp] theorem ML_inj_I (l l' : List Int) : ML dI l = ML dI l' ↔ l = l' := ML_inj inj_I
@[simp] theorem ML_getD_I (l : List Int) (k : Nat) : (ML dI l).getD k (.lit (.int .i64 0)) = dI (l.getD k 0) := ML_getD l k 0
@[simp] theorem ML_get2_I (l : List Int) (k : Nat) : (ML dI l)[k]?.getD (.lit (.int .i64 0)) = dI (l.getD k 0) := by rw [← List.getD_eq_getElem?_getD]; exact ML_getD l k 0
@[simp] theorem ML_snoc_I (l : List Int) (a : Int) : ML dI l ++ [.lit (.int .i64 a)] = ML dI (l ++ [a]) := ML_snoc (enc := dI) l a
@[simp] theorem ML_cons_I (l : List Int) (a : Int) : .lit (.int .i64 a) :: ML dI l = ML dI (a :: l) := rfl
@[simp] theorem ML_set_I (l : List Int) (k : Nat) (a : Int) : (ML dI l).set k (.lit (.int .i64 a)) = ML dI (l.set k a) := ML_set (enc := dI) l k a
@[simp] theorem ML_rep_I (n : Nat) (a : Int) : List.replicate n (.lit (.int .i64 a) : D) = ML dI (List.replicate n a) := ML_rep (enc := dI) n a
@[simp] theorem ML_pure_I (l : List Int) : puresD (ML dI l) = true := ML_pure (fun x => by simp [pureD, puresD]) l
@[simp] theorem ML_okS_I (l : List Int) : (ML dI l).all okS = true := ML_all (fun x => by simp [okS, cellsD, oneD, softD, Value.oneCell']) l
@[simp] theorem ML_flat_I (l : List Int) : flatDs (ML dI l) = true := ML_flat (fun x => by simp [flatD, flatDs]) l
structure TShare where
  Who : Int
  Cents : Int
instance : Inhabited TShare := ⟨⟨default, default⟩⟩
instance : DecidableEq TShare := fun a b => decidable_of_iff (a.Who = b.Who ∧ a.Cents = b.Cents) (by cases a; cases b; simp)
@[simp] theorem TShare_eta (x : TShare) : (⟨x.Who, x.Cents⟩ : TShare) = x := rfl
@[simp] def encTShare (x : TShare) : D := .agg [.lit (.int .i64 x.Who), .lit (.int .i64 x.Cents)]
def yTShare : D := encTShare default
def wfTShare (x : TShare) : Prop := inR .i64 x.Who ∧ inR .i64 x.Cents
@[simp] def encLTShare (x : List TShare) : D := .sl false 2 yTShare (ML encTShare x)
def yLTShare : D := encLTShare []
def wfLTShare (x : List TShare) : Prop := x.length ≤ maxLen ∧ ∀ y ∈ x, wfTShare y
theorem inj_TShare : ∀ x y : TShare, encTShare x = encTShare y → x = y := by
  intro x y h
  obtain ⟨x0, x1⟩ := x
  obtain ⟨y0, y1⟩ := y
  simp [encTShare] at h
  first | exact h | simp [h] | (cases h; rfl)
@[simp] theorem ML_inj_TShare (l l' : List TShare) : ML encTShare l = ML encTShare l' ↔ l = l' := ML_inj inj_TShare
@[simp] theorem ML_getD_TShare (l : List TShare) (k : Nat) : (ML encTShare l).getD k yTShare = encTShare (l.getD k default) := ML_getD l k default
@[simp] theorem ML_get2_TShare (l : List TShare) (k : Nat) : (ML encTShare l)[k]?.getD yTShare = encTShare (l.getD k default) := by rw [← List.getD_eq_getElem?_getD]; exact ML_getD l k default
@[simp] theorem ML_snoc_TShare (l : List TShare) (a0 : Int) (a1 : Int) : ML encTShare l ++ [.agg [.lit (.int .i64 a0), .lit (.int .i64 a1)]] = ML encTShare (l ++ [⟨a0, a1⟩]) := ML_snoc (enc := encTShare) l ⟨a0, a1⟩
@[simp] theorem ML_cons_TShare (l : List TShare) (a0 : Int) (a1 : Int) : .agg [.lit (.int .i64 a0), .lit (.int .i64 a1)] :: ML encTShare l = ML encTShare (⟨a0, a1⟩ :: l) := rfl
@[simp] theorem ML_set_TShare (l : List TShare) (k : Nat) (a0 : Int) (a1 : Int) : (ML encTShare l).set k (.agg [.lit (.int .i64 a0), .lit (.int .i64 a1)]) = ML encTShare (l.set k ⟨a0, a1⟩) := ML_set (enc := encTShare) l k ⟨a0, a1⟩
@[simp] theorem ML_rep_TShare (n : Nat) (a0 : Int) (a1 : Int) : List.replicate n (.agg [.lit (.int .i64 a0), .lit (.int .i64 a1)] : D) = ML encTShare (List.replicate n ⟨a0, a1⟩) := ML_rep (enc := encTShare) n ⟨a0, a1⟩
@[simp] theorem ML_pure_TShare (l : List TShare) : puresD (ML encTShare l) = true := ML_pure (fun x => by simp [pureD, puresD]) l
@[simp] theorem ML_okS_TShare (l : List TShare) : (ML encTShare l).all okS = true := ML_all (fun x => by simp [okS, cellsD, oneD, softD, Value.oneCell']) l
@[simp] theorem ML_flat_TShare (l : List TShare) : flatDs (ML encTShare l) = true := ML_flat (fun x => by simp [flatD, flatDs]) l
structure TThing where
  Id : Int
  Kind : Int
  Colour : Int
  Size : Int
  Worth : Int
instance : Inhabited TThing := ⟨⟨default, default, default, default, default⟩⟩
instance : DecidableEq TThing := fun a b => decidable_of_iff (a.Id = b.Id ∧ a.Kind = b.Kind ∧ a.Colour = b.Colour ∧ a.Size = b.Size ∧ a.Worth = b.Worth) (by cases a; cases b; simp)
@[simp] theorem TThing_eta (x : TThing) : (⟨x.Id, x.Kind, x.Colour, x.Size, x.Worth⟩ : TThing) = x := rfl
@[simp] def encTThing (x : TThing) : D := .agg [.lit (.int .i64 x.Id), .lit (.int .i64 x.Kind), .lit (.int .i64 x.Colour), .lit (.int .i64 x.Size), .lit (.int .i64 x.Worth)]
def yTThing : D := encTThing default
def wfTThing (x : TThing) : Prop := inR .i64 x.Id ∧ inR .i64 x.Kind ∧ inR .i64 x.Colour ∧ inR .i64 x.Size ∧ inR .i64 x.Worth
structure TPortion where
  Share : TShare
  part_ : Int
  remainder_ : Int
instance : Inhabited TPortion := ⟨⟨default, default, default⟩⟩
instance : DecidableEq TPortion := fun a b => decidable_of_iff (a.Share = b.Share ∧ a.part_ = b.part_ ∧ a.remainder_ = b.remainder_) (by cases a; cases b; simp)
@[simp] theorem TPortion_eta (x : TPortion) : (⟨x.Share, x.part_, x.remainder_⟩ : TPortion) = x := rfl
@[simp] def encTPortion (x : TPortion) : D := .agg [.lit (.int .i64 x.Share.Who), .lit (.int .i64 x.Share.Cents), .lit (.int .i64 x.part_), .lit (.int .i64 x.remainder_)]
def yTPortion : D := encTPortion default
def wfTPortion (x : TPortion) : Prop := wfTShare x.Share ∧ inR .i64 x.part_ ∧ inR .i64 x.remainder_
@[simp] def encLTPortion (x : List TPortion) : D := .sl false 4 yTPortion (ML encTPortion x)
def yLTPortion : D := encLTPortion []
def wfLTPortion (x : List TPortion) : Prop := x.length ≤ maxLen ∧ ∀ y ∈ x, wfTPortion y
theorem inj_TPortion : ∀ x y : TPortion, encTPortion x = encTPortion y → x = y := by
  intro x y h
  obtain ⟨⟨x00, x01⟩, x1, x2⟩ := x
  obtain ⟨⟨y00, y01⟩, y1, y2⟩ := y
  simp [encTPortion] at h
  first | exact h | simp [h] | (cases h; rfl)
@[simp] theorem ML_inj_TPortion (l l' : List TPortion) : ML encTPortion l = ML encTPortion l' ↔ l = l' := ML_inj inj_TPortion
@[simp] theorem ML_getD_TPortion (l : List TPortion) (k : Nat) : (ML encTPortion l).getD k yTPortion = encTPortion (l.getD k default) := ML_getD l k default
@[simp] theorem ML_get2_TPortion (l : List TPortion) (k : Nat) : (ML encTPortion l)[k]?.getD yTPortion = encTPortion (l.getD k default) := by rw [← List.getD_eq_getElem?_getD]; exact ML_getD l k default
@[simp] theorem ML_snoc_TPortion (l : List TPortion) (a00 : Int) (a01 : Int) (a1 : Int) (a2 : Int) : ML encTPortion l ++ [.agg [.lit (.int .i64 a00), .lit (.int .i64 a01), .lit (.int .i64 a1), .lit (.int .i64 a2)]] = ML encTPortion (l ++ [⟨⟨a00, a01⟩, a1, a2⟩]) := ML_snoc (enc := encTPortion) l ⟨⟨a00, a01⟩, a1, a2⟩
@[simp] theorem ML_cons_TPortion (l : List TPortion) (a00 : Int) (a01 : Int) (a1 : Int) (a2 : Int) : .agg [.lit (.int .i64 a00), .lit (.int .i64 a01), .lit (.int .i64 a1), .lit (.int .i64 a2)] :: ML encTPortion l = ML encTPortion (⟨⟨a00, a01⟩, a1, a2⟩ :: l) := rfl
@[simp] theorem ML_set_TPortion (l : List TPortion) (k : Nat) (a00 : Int) (a01 : Int) (a1 : Int) (a2 : Int) : (ML encTPortion l).set k (.agg [.lit (.int .i64 a00), .lit (.int .i64 a01), .lit (.int .i64 a1), .lit (.int .i64 a2)]) = ML encTPortion (l.set k ⟨⟨a00, a01⟩, a1, a2⟩) := ML_set (enc := encTPortion) l k ⟨⟨a00, a01⟩, a1, a2⟩
@[simp] theorem ML_rep_TPortion (n : Nat) (a00 : Int) (a01 : Int) (a1 : Int) (a2 : Int) : List.replicate n (.agg [.lit (.int .i64 a00), .lit (.int .i64 a01), .lit (.int .i64 a1), .lit (.int .i64 a2)] : D) = ML encTPortion (List.replicate n ⟨⟨a00, a01⟩, a1, a2⟩) := ML_rep (enc := encTPortion) n ⟨⟨a00, a01⟩, a1, a2⟩
@[simp] theorem ML_pure_TPortion (l : List TPortion) : puresD (ML encTPortion l) = true := ML_pure (fun x => by simp [pureD, puresD]) l
@[simp] theorem ML_okS_TPortion (l : List TPortion) : (ML encTPortion l).all okS = true := ML_all (fun x => by simp [okS, cellsD, oneD, softD, Value.oneCell']) l
@[simp] theorem ML_flat_TPortion (l : List TPortion) : flatDs (ML encTPortion l) = true := ML_flat (fun x => by simp [flatD, flatDs]) l
structure TL1Cur where
  b_ : List Int
  i_ : Int
  h_ : Int
instance : Inhabited TL1Cur := ⟨⟨default, default, default⟩⟩
instance : DecidableEq TL1Cur := fun a b => decidable_of_iff (a.b_ = b.b_ ∧ a.i_ = b.i_ ∧ a.h_ = b.h_) (by cases a; cases b; simp)
@[simp] theorem TL1Cur_eta (x : TL1Cur) : (⟨x.b_, x.i_, x.h_⟩ : TL1Cur) = x := rfl
@[simp] def encTL1Cur (x : TL1Cur) : D := .agg [.sl false 1 (.lit (.int .u8 0)) (ML dU x.b_), .lit (.int .i64 x.i_), .lit (.int .i64 x.h_)]
def yTL1Cur : D := encTL1Cur default
def wfTL1Cur (x : TL1Cur) : Prop := wfLU x.b_ ∧ inR .i64 x.i_ ∧ inR .i64 x.h_
end Go.Proofs.Ytanmlliijcpdjaa
