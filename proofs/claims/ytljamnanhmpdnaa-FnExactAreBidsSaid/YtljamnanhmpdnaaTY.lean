/- The data of this program as Lean types, and how they are held. -/
import Derived.Test.YtljamnanhmpdnaaEngB
namespace Go.Proofs.Ytljamnanhmpdnaa
open Go Go.Eng
set_option linter.unusedSimpArgs false
set_option linter.unusedVariables false
structure THand where
  Thing : Int
  Holder : Int
  Who : Int
  At : Int
  Seal : Int
instance : Inhabited THand := ⟨⟨default, default, default, default, default⟩⟩
instance : DecidableEq THand := fun a b => decidable_of_iff (a.Thing = b.Thing ∧ a.Holder = b.Holder ∧ a.Who = b.Who ∧ a.At = b.At ∧ a.Seal = b.Seal) (by cases a; cases b; simp)
@[simp] theorem THand_eta (x : THand) : (⟨x.Thing, x.Holder, x.Who, x.At, x.Seal⟩ : THand) = x := rfl
@[simp] def encTHand (x : THand) : D := .agg [.lit (.int .i64 x.Thing), .lit (.int .i64 x.Holder), .lit (.int .i64 x.Who), .lit (.int .i64 x.At), .lit (.int .i64 x.Seal)]
def yTHand : D := encTHand default
def wfTHand (x : THand) : Prop := inR .i64 x.Thing ∧ inR .i64 x.Holder ∧ inR .i64 x.Who ∧ inR .i64 x.At ∧ inR .i64 x.Seal
@[simp] def encLTHand (x : List THand) : D := .sl false 5 yTHand (ML encTHand x)
def yLTHand : D := encLTHand []
def wfLTHand (x : List THand) : Prop := x.length ≤ maxLen ∧ ∀ y ∈ x, wfTHand y
theorem inj_THand : ∀ x y : THand, encTHand x = encTHand y → x = y := by
  intro x y h
  obtain ⟨x0, x1, x2, x3, x4⟩ := x
  obtain ⟨y0, y1, y2, y3, y4⟩ := y
  simp [encTHand] at h
  first | exact h | simp [h] | (cases h; rfl)
@[simp] theorem ML_inj_THand (l l' : List THand) : ML encTHand l = ML encTHand l' ↔ l = l' := ML_inj inj_THand
@[simp] theorem ML_getD_THand (l : List THand) (k : Nat) : (ML encTHand l).getD k yTHand = encTHand (l.getD k default) := ML_getD l k default
@[simp] theorem ML_get2_THand (l : List THand) (k : Nat) : (ML encTHand l)[k]?.getD yTHand = encTHand (l.getD k default) := by rw [← List.getD_eq_getElem?_getD]; exact ML_getD l k default
@[simp] theorem ML_snoc_THand (l : List THand) (a0 : Int) (a1 : Int) (a2 : Int) (a3 : Int) (a4 : Int) : ML encTHand l ++ [.agg [.lit (.int .i64 a0), .lit (.int .i64 a1), .lit (.int .i64 a2), .lit (.int .i64 a3), .lit (.int .i64 a4)]] = ML encTHand (l ++ [⟨a0, a1, a2, a3, a4⟩]) := ML_snoc (enc := encTHand) l ⟨a0, a1, a2, a3, a4⟩
@[simp] theorem ML_cons_THand (l : List THand) (a0 : Int) (a1 : Int) (a2 : Int) (a3 : Int) (a4 : Int) : .agg [.lit (.int .i64 a0), .lit (.int .i64 a1), .lit (.int .i64 a2), .lit (.int .i64 a3), .lit (.int .i64 a4)] :: ML encTHand l = ML encTHand (⟨a0, a1, a2, a3, a4⟩ :: l) := rfl
@[simp] theorem ML_set_THand (l : List THand) (k : Nat) (a0 : Int) (a1 : Int) (a2 : Int) (a3 : Int) (a4 : Int) : (ML encTHand l).set k (.agg [.lit (.int .i64 a0), .lit (.int .i64 a1), .lit (.int .i64 a2), .lit (.int .i64 a3), .lit (.int .i64 a4)]) = ML encTHand (l.set k ⟨a0, a1, a2, a3, a4⟩) := ML_set (enc := encTHand) l k ⟨a0, a1, a2, a3, a4⟩
@[simp] theorem ML_rep_THand (n : Nat) (a0 : Int) (a1 : Int) (a2 : Int) (a3 : Int) (a4 : Int) : List.replicate n (.agg [.lit (.int .i64 a0), .lit (.int .i64 a1), .lit (.int .i64 a2), .lit (.int .i64 a3), .lit (.int .i64 a4)] : D) = ML encTHand (List.replicate n ⟨a0, a1, a2, a3, a4⟩) := ML_rep (enc := encTHand) n ⟨a0, a1, a2, a3, a4⟩
@[simp] theorem ML_pure_THand (l : List THand) : puresD (ML encTHand l) = true := ML_pure (fun x => by simp [pureD, puresD]) l
@[simp] theorem ML_flat_THand (l : List THand) : flatDs (ML encTHand l) = true := ML_flat (fun x => by simp [flatD, flatDs]) l
@[simp] def encLI (x : List Int) : D := .sl false 1 (.lit (.int .i64 0)) (ML dI x)
def yLI : D := encLI []
def wfLI (x : List Int) : Prop := x.length ≤ maxLen ∧ ∀ y ∈ x, inR .i64 y
theorem inj_I : ∀ x y : Int, dI x = dI y → x = y := by
  intro x y h
  simp [dI] at h
  first | exact h | simp [h] | (cases h; rfl)
@[simp] theorem ML_inj_I (l l' : List Int) : ML dI l = ML dI l' ↔ l = l' := ML_inj inj_I
@[simp] theorem ML_getD_I (l : List Int) (k : Nat) : (ML dI l).getD k (.lit (.int .i64 0)) = dI (l.getD k 0) := ML_getD l k 0
@[simp] theorem ML_get2_I (l : List Int) (k : Nat) : (ML dI l)[k]?.getD (.lit (.int .i64 0)) = dI (l.getD k 0) := by rw [← List.getD_eq_getElem?_getD]; exact ML_getD l k 0
@[simp] theorem ML_snoc_I (l : List Int) (a : Int) : ML dI l ++ [.lit (.int .i64 a)] = ML dI (l ++ [a]) := ML_snoc (enc := dI) l a
@[simp] theorem ML_cons_I (l : List Int) (a : Int) : .lit (.int .i64 a) :: ML dI l = ML dI (a :: l) := rfl
@[simp] theorem ML_set_I (l : List Int) (k : Nat) (a : Int) : (ML dI l).set k (.lit (.int .i64 a)) = ML dI (l.set k a) := ML_set (enc := dI) l k a
@[simp] theorem ML_rep_I (n : Nat) (a : Int) : List.replicate n (.lit (.int .i64 a) : D) = ML dI (List.replicate n a) := ML_rep (enc := dI) n a
@[simp] theorem ML_pure_I (l : List Int) : puresD (ML dI l) = true := ML_pure (fun x => by simp [pureD, puresD]) l
@[simp] theorem ML_flat_I (l : List Int) : flatDs (ML dI l) = true := ML_flat (fun x => by simp [flatD, flatDs]) l
structure TBid where
  Who : Int
  Cents : Int
  Seal : Int
instance : Inhabited TBid := ⟨⟨default, default, default⟩⟩
instance : DecidableEq TBid := fun a b => decidable_of_iff (a.Who = b.Who ∧ a.Cents = b.Cents ∧ a.Seal = b.Seal) (by cases a; cases b; simp)
@[simp] theorem TBid_eta (x : TBid) : (⟨x.Who, x.Cents, x.Seal⟩ : TBid) = x := rfl
@[simp] def encTBid (x : TBid) : D := .agg [.lit (.int .i64 x.Who), .lit (.int .i64 x.Cents), .lit (.int .i64 x.Seal)]
def yTBid : D := encTBid default
def wfTBid (x : TBid) : Prop := inR .i64 x.Who ∧ inR .i64 x.Cents ∧ inR .i64 x.Seal
@[simp] def encLTBid (x : List TBid) : D := .sl false 3 yTBid (ML encTBid x)
def yLTBid : D := encLTBid []
def wfLTBid (x : List TBid) : Prop := x.length ≤ maxLen ∧ ∀ y ∈ x, wfTBid y
theorem inj_TBid : ∀ x y : TBid, encTBid x = encTBid y → x = y := by
  intro x y h
  obtain ⟨x0, x1, x2⟩ := x
  obtain ⟨y0, y1, y2⟩ := y
  simp [encTBid] at h
  first | exact h | simp [h] | (cases h; rfl)
@[simp] theorem ML_inj_TBid (l l' : List TBid) : ML encTBid l = ML encTBid l' ↔ l = l' := ML_inj inj_TBid
@[simp] theorem ML_getD_TBid (l : List TBid) (k : Nat) : (ML encTBid l).getD k yTBid = encTBid (l.getD k default) := ML_getD l k default
@[simp] theorem ML_get2_TBid (l : List TBid) (k : Nat) : (ML encTBid l)[k]?.getD yTBid = encTBid (l.getD k default) := by rw [← List.getD_eq_getElem?_getD]; exact ML_getD l k default
@[simp] theorem ML_snoc_TBid (l : List TBid) (a0 : Int) (a1 : Int) (a2 : Int) : ML encTBid l ++ [.agg [.lit (.int .i64 a0), .lit (.int .i64 a1), .lit (.int .i64 a2)]] = ML encTBid (l ++ [⟨a0, a1, a2⟩]) := ML_snoc (enc := encTBid) l ⟨a0, a1, a2⟩
@[simp] theorem ML_cons_TBid (l : List TBid) (a0 : Int) (a1 : Int) (a2 : Int) : .agg [.lit (.int .i64 a0), .lit (.int .i64 a1), .lit (.int .i64 a2)] :: ML encTBid l = ML encTBid (⟨a0, a1, a2⟩ :: l) := rfl
@[simp] theorem ML_set_TBid (l : List TBid) (k : Nat) (a0 : Int) (a1 : Int) (a2 : Int) : (ML encTBid l).set k (.agg [.lit (.int .i64 a0), .lit (.int .i64 a1), .lit (.int .i64 a2)]) = ML encTBid (l.set k ⟨a0, a1, a2⟩) := ML_set (enc := encTBid) l k ⟨a0, a1, a2⟩
@[simp] theorem ML_rep_TBid (n : Nat) (a0 : Int) (a1 : Int) (a2 : Int) : List.replicate n (.agg [.lit (.int .i64 a0), .lit (.int .i64 a1), .lit (.int .i64 a2)] : D) = ML encTBid (List.replicate n ⟨a0, a1, a2⟩) := ML_rep (enc := encTBid) n ⟨a0, a1, a2⟩
@[simp] theorem ML_pure_TBid (l : List TBid) : puresD (ML encTBid l) = true := ML_pure (fun x => by simp [pureD, puresD]) l
@[simp] theorem ML_flat_TBid (l : List TBid) : flatDs (ML encTBid l) = true := ML_flat (fun x => by simp [flatD, flatDs]) l
structure TThing where
  Id : Int
  Kind : Int
  Colour : Int
  Size : Int
  Worth : Int
instance : Inhabited TThing := ⟨⟨default, default, default, default, default⟩⟩
instance : DecidableEq TThing := fun a b => decidable_of_iff (a.Id = b.Id ∧ a.Kind = b.Kind ∧ a.Colour = b.Colour ∧ a.Size = b.Size ∧ a.Worth = b.Worth) (by cases a; cases b; simp)
@[simp] theorem TThing_eta (x : TThing) : (⟨x.Id, x.Kind, x.Colour, x.Size, x.Worth⟩ : TThing) = x := rfl
@[simp] def encTThing (x : TThing) : D := .agg [.lit (.int .i64 x.Id), .lit (.int .i64 x.Kind), .lit (.int .i64 x.Colour), .lit (.int .i64 x.Size), .lit (.int .i64 x.Worth)]
def yTThing : D := encTThing default
def wfTThing (x : TThing) : Prop := inR .i64 x.Id ∧ inR .i64 x.Kind ∧ inR .i64 x.Colour ∧ inR .i64 x.Size ∧ inR .i64 x.Worth
structure TShare where
  Who : Int
  Cents : Int
instance : Inhabited TShare := ⟨⟨default, default⟩⟩
instance : DecidableEq TShare := fun a b => decidable_of_iff (a.Who = b.Who ∧ a.Cents = b.Cents) (by cases a; cases b; simp)
@[simp] theorem TShare_eta (x : TShare) : (⟨x.Who, x.Cents⟩ : TShare) = x := rfl
@[simp] def encTShare (x : TShare) : D := .agg [.lit (.int .i64 x.Who), .lit (.int .i64 x.Cents)]
def yTShare : D := encTShare default
def wfTShare (x : TShare) : Prop := inR .i64 x.Who ∧ inR .i64 x.Cents
@[simp] def encLTShare (x : List TShare) : D := .sl false 2 yTShare (ML encTShare x)
def yLTShare : D := encLTShare []
def wfLTShare (x : List TShare) : Prop := x.length ≤ maxLen ∧ ∀ y ∈ x, wfTShare y
theorem inj_TShare : ∀ x y : TShare, encTShare x = encTShare y → x = y := by
  intro x y h
  obtain ⟨x0, x1⟩ := x
  obtain ⟨y0, y1⟩ := y
  simp [encTShare] at h
  first | exact h | simp [h] | (cases h; rfl)
@[simp] theorem ML_inj_TShare (l l' : List TShare) : ML encTShare l = ML encTShare l' ↔ l = l' := ML_inj inj_TShare
@[simp] theorem ML_getD_TShare (l : List TShare) (k : Nat) : (ML encTShare l).getD k yTShare = encTShare (l.getD k default) := ML_getD l k default
@[simp] theorem ML_get2_TShare (l : List TShare) (k : Nat) : (ML encTShare l)[k]?.getD yTShare = encTShare (l.getD k default) := by rw [← List.getD_eq_getElem?_getD]; exact ML_getD l k default
@[simp] theorem ML_snoc_TShare (l : List TShare) (a0 : Int) (a1 : Int) : ML encTShare l ++ [.agg [.lit (.int .i64 a0), .lit (.int .i64 a1)]] = ML encTShare (l ++ [⟨a0, a1⟩]) := ML_snoc (enc := encTShare) l ⟨a0, a1⟩
@[simp] theorem ML_cons_TShare (l : List TShare) (a0 : Int) (a1 : Int) : .agg [.lit (.int .i64 a0), .lit (.int .i64 a1)] :: ML encTShare l = ML encTShare (⟨a0, a1⟩ :: l) := rfl
@[simp] theorem ML_set_TShare (l : List TShare) (k : Nat) (a0 : Int) (a1 : Int) : (ML encTShare l).set k (.agg [.lit (.int .i64 a0), .lit (.int .i64 a1)]) = ML encTShare (l.set k ⟨a0, a1⟩) := ML_set (enc := encTShare) l k ⟨a0, a1⟩
@[simp] theorem ML_rep_TShare (n : Nat) (a0 : Int) (a1 : Int) : List.replicate n (.agg [.lit (.int .i64 a0), .lit (.int .i64 a1)] : D) = ML encTShare (List.replicate n ⟨a0, a1⟩) := ML_rep (enc := encTShare) n ⟨a0, a1⟩
@[simp] theorem ML_pure_TShare (l : List TShare) : puresD (ML encTShare l) = true := ML_pure (fun x => by simp [pureD, puresD]) l
@[simp] theorem ML_flat_TShare (l : List TShare) : flatDs (ML encTShare l) = true := ML_flat (fun x => by simp [flatD, flatDs]) l
@[simp] def encLS (x : List ByteArray) : D := .sl false 1 (.lit (.string ⟨#[]⟩)) (ML dS x)
def yLS : D := encLS []
def wfLS (x : List ByteArray) : Prop := x.length ≤ maxLen ∧ ∀ y ∈ x, y.size ≤ maxLen
theorem inj_S : ∀ x y : ByteArray, dS x = dS y → x = y := by
  intro x y h
  simp [dI] at h
  first | exact h | simp [h] | (cases h; rfl)
@[simp] theorem ML_inj_S (l l' : List ByteArray) : ML dS l = ML dS l' ↔ l = l' := ML_inj inj_S
@[simp] theorem ML_getD_S (l : List ByteArray) (k : Nat) : (ML dS l).getD k (.lit (.string ⟨#[]⟩)) = dS (l.getD k ⟨#[]⟩) := ML_getD l k ⟨#[]⟩
@[simp] theorem ML_get2_S (l : List ByteArray) (k : Nat) : (ML dS l)[k]?.getD (.lit (.string ⟨#[]⟩)) = dS (l.getD k ⟨#[]⟩) := by rw [← List.getD_eq_getElem?_getD]; exact ML_getD l k ⟨#[]⟩
@[simp] theorem ML_snoc_S (l : List ByteArray) (a : ByteArray) : ML dS l ++ [.lit (.string a)] = ML dS (l ++ [a]) := ML_snoc (enc := dS) l a
@[simp] theorem ML_cons_S (l : List ByteArray) (a : ByteArray) : .lit (.string a) :: ML dS l = ML dS (a :: l) := rfl
@[simp] theorem ML_set_S (l : List ByteArray) (k : Nat) (a : ByteArray) : (ML dS l).set k (.lit (.string a)) = ML dS (l.set k a) := ML_set (enc := dS) l k a
@[simp] theorem ML_rep_S (n : Nat) (a : ByteArray) : List.replicate n (.lit (.string a) : D) = ML dS (List.replicate n a) := ML_rep (enc := dS) n a
@[simp] theorem ML_pure_S (l : List ByteArray) : puresD (ML dS l) = true := ML_pure (fun x => by simp [pureD, puresD]) l
@[simp] theorem ML_flat_S (l : List ByteArray) : flatDs (ML dS l) = true := ML_flat (fun x => by simp [flatD, flatDs]) l
end Go.Proofs.Ytljamnanhmpdnaa
