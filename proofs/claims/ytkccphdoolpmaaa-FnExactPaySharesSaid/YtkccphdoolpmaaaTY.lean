/- The data of this program as Lean types, and how they are held. -/
import Derived.Test.YtkccphdoolpmaaaEngB
namespace Go.Proofs.Ytkccphdoolpmaaa
open Go Go.Eng
set_option linter.unusedSimpArgs false
set_option linter.unusedVariables false
@[simp] def encLU (x : List Int) : D := .sl false 1 (.lit (.int .u8 0)) (ML dU x)
def yLU : D := encLU []
def wfLU (x : List Int) : Prop := x.length ≤ maxLen ∧ ∀ y ∈ x, inR .u8 y
theorem inj_U : ∀ x y : Int, dU x = dU y → x = y := by
  intro x y h
  simp [dI] at h
  first | exact h | simp [h] | (cases h; rfl)
@[simp] theorem ML_inj_U (l l' : List Int) : ML dU l = ML dU l' ↔ l = l' := ML_inj inj_U
@[simp] theorem ML_getD_U (l : List Int) (k : Nat) : (ML dU l).getD k (.lit (.int .u8 0)) = dU (l.getD k 0) := ML_getD l k 0
@[simp] theorem ML_get2_U (l : List Int) (k : Nat) : (ML dU l)[k]?.getD (.lit (.int .u8 0)) = dU (l.getD k 0) := by rw [← List.getD_eq_getElem?_getD]; exact ML_getD l k 0
@[simp] theorem ML_snoc_U (l : List Int) (a : Int) : ML dU l ++ [.lit (.int .u8 a)] = ML dU (l ++ [a]) := ML_snoc (enc := dU) l a
@[simp] theorem ML_cons_U (l : List Int) (a : Int) : .lit (.int .u8 a) :: ML dU l = ML dU (a :: l) := rfl
@[simp] theorem ML_set_U (l : List Int) (k : Nat) (a : Int) : (ML dU l).set k (.lit (.int .u8 a)) = ML dU (l.set k a) := ML_set (enc := dU) l k a
@[simp] theorem ML_rep_U (n : Nat) (a : Int) : List.replicate n (.lit (.int .u8 a) : D) = ML dU (List.replicate n a) := ML_rep (enc := dU) n a
@[simp] theorem ML_pure_U (l : List Int) : puresD (ML dU l) = true := ML_pure (fun x => by simp [pureD, puresD]) l
@[simp] theorem ML_flat_U (l : List Int) : flatDs (ML dU l) = true := ML_flat (fun x => by simp [flatD, flatDs]) l
@[simp] def encLI (x : List Int) : D := .sl false 1 (.lit (.int .i64 0)) (ML dI x)
def yLI : D := encLI []
def wfLI (x : List Int) : Prop := x.length ≤ maxLen ∧ ∀ y ∈ x, inR .i64 y
theorem inj_I : ∀ x y : Int, dI x = dI y → x = y := by
  intro x y h
  simp [dI] at h
  first | exact h | simp [h] | (cases h; rfl)
@[simp] theorem ML_inj_I (l l' : List Int) : ML dI l = ML dI l' ↔ l = l' := ML_inj inj_I
@[simp] theorem ML_getD_I (l : List Int) (k : Nat) : (ML dI l).getD k (.lit (.int .i64 0)) = dI (l.getD k 0) := ML_getD l k 0
@[simp] theorem ML_get2_I (l : List Int) (k : Nat) : (ML dI l)[k]?.getD (.lit (.int .i64 0)) = dI (l.getD k 0) := by rw [← List.getD_eq_getElem?_getD]; exact ML_getD l k 0
@[simp] theorem ML_snoc_I (l : List Int) (a : Int) : ML dI l ++ [.lit (.int .i64 a)] = ML dI (l ++ [a]) := ML_snoc (enc := dI) l a
@[simp] theorem ML_cons_I (l : List Int) (a : Int) : .lit (.int .i64 a) :: ML dI l = ML dI (a :: l) := rfl
@[simp] theorem ML_set_I (l : List Int) (k : Nat) (a : Int) : (ML dI l).set k (.lit (.int .i64 a)) = ML dI (l.set k a) := ML_set (enc := dI) l k a
@[simp] theorem ML_rep_I (n : Nat) (a : Int) : List.replicate n (.lit (.int .i64 a) : D) = ML dI (List.replicate n a) := ML_rep (enc := dI) n a
@[simp] theorem ML_pure_I (l : List Int) : puresD (ML dI l) = true := ML_pure (fun x => by simp [pureD, puresD]) l
@[simp] theorem ML_flat_I (l : List Int) : flatDs (ML dI l) = true := ML_flat (fun x => by simp [flatD, flatDs]) l
structure TThing where
  Id : Int
  Kind : Int
  Colour : Int
  Size : Int
  Worth : Int
instance : Inhabited TThing := ⟨⟨default, default, default, default, default⟩⟩
instance : DecidableEq TThing := fun a b => decidable_of_iff (a.Id = b.Id ∧ a.Kind = b.Kind ∧ a.Colour = b.Colour ∧ a.Size = b.Size ∧ a.Worth = b.Worth) (by cases a; cases b; simp)
@[simp] theorem TThing_eta (x : TThing) : (⟨x.Id, x.Kind, x.Colour, x.Size, x.Worth⟩ : TThing) = x := rfl
@[simp] def encTThing (x : TThing) : D := .agg [.lit (.int .i64 x.Id), .lit (.int .i64 x.Kind), .lit (.int .i64 x.Colour), .lit (.int .i64 x.Size), .lit (.int .i64 x.Worth)]
def yTThing : D := encTThing default
def wfTThing (x : TThing) : Prop := inR .i64 x.Id ∧ inR .i64 x.Kind ∧ inR .i64 x.Colour ∧ inR .i64 x.Size ∧ inR .i64 x.Worth
structure TFind where
  Thing : TThing
  Place : Int
  At : Int
  Finder : Int
instance : Inhabited TFind := ⟨⟨default, default, default, default⟩⟩
instance : DecidableEq TFind := fun a b => decidable_of_iff (a.Thing = b.Thing ∧ a.Place = b.Place ∧ a.At = b.At ∧ a.Finder = b.Finder) (by cases a; cases b; simp)
@[simp] theorem TFind_eta (x : TFind) : (⟨x.Thing, x.Place, x.At, x.Finder⟩ : TFind) = x := rfl
@[simp] def encTFind (x : TFind) : D := .agg [.lit (.int .i64 x.Thing.Id), .lit (.int .i64 x.Thing.Kind), .lit (.int .i64 x.Thing.Colour), .lit (.int .i64 x.Thing.Size), .lit (.int .i64 x.Thing.Worth), .lit (.int .i64 x.Place), .lit (.int .i64 x.At), .lit (.int .i64 x.Finder)]
def yTFind : D := encTFind default
def wfTFind (x : TFind) : Prop := wfTThing x.Thing ∧ inR .i64 x.Place ∧ inR .i64 x.At ∧ inR .i64 x.Finder
@[simp] def encLTFind (x : List TFind) : D := .sl false 8 yTFind (ML encTFind x)
def yLTFind : D := encLTFind []
def wfLTFind (x : List TFind) : Prop := x.length ≤ maxLen ∧ ∀ y ∈ x, wfTFind y
theorem inj_TFind : ∀ x y : TFind, encTFind x = encTFind y → x = y := by
  intro x y h
  obtain ⟨⟨x00, x01, x02, x03, x04⟩, x1, x2, x3⟩ := x
  obtain ⟨⟨y00, y01, y02, y03, y04⟩, y1, y2, y3⟩ := y
  simp [encTFind] at h
  first | exact h | simp [h] | (cases h; rfl)
@[simp] theorem ML_inj_TFind (l l' : List TFind) : ML encTFind l = ML encTFind l' ↔ l = l' := ML_inj inj_TFind
@[simp] theorem ML_getD_TFind (l : List TFind) (k : Nat) : (ML encTFind l).getD k yTFind = encTFind (l.getD k default) := ML_getD l k default
@[simp] theorem ML_get2_TFind (l : List TFind) (k : Nat) : (ML encTFind l)[k]?.getD yTFind = encTFind (l.getD k default) := by rw [← List.getD_eq_getElem?_getD]; exact ML_getD l k default
@[simp] theorem ML_snoc_TFind (l : List TFind) (a00 : Int) (a01 : Int) (a02 : Int) (a03 : Int) (a04 : Int) (a1 : Int) (a2 : Int) (a3 : Int) : ML encTFind l ++ [.agg [.lit (.int .i64 a00), .lit (.int .i64 a01), .lit (.int .i64 a02), .lit (.int .i64 a03), .lit (.int .i64 a04), .lit (.int .i64 a1), .lit (.int .i64 a2), .lit (.int .i64 a3)]] = ML encTFind (l ++ [⟨⟨a00, a01, a02, a03, a04⟩, a1, a2, a3⟩]) := ML_snoc (enc := encTFind) l ⟨⟨a00, a01, a02, a03, a04⟩, a1, a2, a3⟩
@[simp] theorem ML_cons_TFind (l : List TFind) (a00 : Int) (a01 : Int) (a02 : Int) (a03 : Int) (a04 : Int) (a1 : Int) (a2 : Int) (a3 : Int) : .agg [.lit (.int .i64 a00), .lit (.int .i64 a01), .lit (.int .i64 a02), .lit (.int .i64 a03), .lit (.int .i64 a04), .lit (.int .i64 a1), .lit (.int .i64 a2), .lit (.int .i64 a3)] :: ML encTFind l = ML encTFind (⟨⟨a00, a01, a02, a03, a04⟩, a1, a2, a3⟩ :: l) := rfl
@[simp] theorem ML_set_TFind (l : List TFind) (k : Nat) (a00 : Int) (a01 : Int) (a02 : Int) (a03 : Int) (a04 : Int) (a1 : Int) (a2 : Int) (a3 : Int) : (ML encTFind l).set k (.agg [.lit (.int .i64 a00), .lit (.int .i64 a01), .lit (.int .i64 a02), .lit (.int .i64 a03), .lit (.int .i64 a04), .lit (.int .i64 a1), .lit (.int .i64 a2), .lit (.int .i64 a3)]) = ML encTFind (l.set k ⟨⟨a00, a01, a02, a03, a04⟩, a1, a2, a3⟩) := ML_set (enc := encTFind) l k ⟨⟨a00, a01, a02, a03, a04⟩, a1, a2, a3⟩
@[simp] theorem ML_rep_TFind (n : Nat) (a00 : Int) (a01 : Int) (a02 : Int) (a03 : Int) (a04 : Int) (a1 : Int) (a2 : Int) (a3 : Int) : List.replicate n (.agg [.lit (.int .i64 a00), .lit (.int .i64 a01), .lit (.int .i64 a02), .lit (.int .i64 a03), .lit (.int .i64 a04), .lit (.int .i64 a1), .lit (.int .i64 a2), .lit (.int .i64 a3)] : D) = ML encTFind (List.replicate n ⟨⟨a00, a01, a02, a03, a04⟩, a1, a2, a3⟩) := ML_rep (enc := encTFind) n ⟨⟨a00, a01, a02, a03, a04⟩, a1, a2, a3⟩
@[simp] theorem ML_pure_TFind (l : List TFind) : puresD (ML encTFind l) = true := ML_pure (fun x => by simp [pureD, puresD]) l
@[simp] theorem ML_flat_TFind (l : List TFind) : flatDs (ML encTFind l) = true := ML_flat (fun x => by simp [flatD, flatDs]) l
structure TSpan where
  From : Int
  Until : Int
instance : Inhabited TSpan := ⟨⟨default, default⟩⟩
instance : DecidableEq TSpan := fun a b => decidable_of_iff (a.From = b.From ∧ a.Until = b.Until) (by cases a; cases b; simp)
@[simp] theorem TSpan_eta (x : TSpan) : (⟨x.From, x.Until⟩ : TSpan) = x := rfl
@[simp] def encTSpan (x : TSpan) : D := .agg [.lit (.int .i64 x.From), .lit (.int .i64 x.Until)]
def yTSpan : D := encTSpan default
def wfTSpan (x : TSpan) : Prop := inR .i64 x.From ∧ inR .i64 x.Until
structure TMark where
  Question : Int
  Answer : Int
instance : Inhabited TMark := ⟨⟨default, default⟩⟩
instance : DecidableEq TMark := fun a b => decidable_of_iff (a.Question = b.Question ∧ a.Answer = b.Answer) (by cases a; cases b; simp)
@[simp] theorem TMark_eta (x : TMark) : (⟨x.Question, x.Answer⟩ : TMark) = x := rfl
@[simp] def encTMark (x : TMark) : D := .agg [.lit (.int .i64 x.Question), .lit (.int .i64 x.Answer)]
def yTMark : D := encTMark default
def wfTMark (x : TMark) : Prop := inR .i64 x.Question ∧ inR .i64 x.Answer
@[simp] def encLTMark (x : List TMark) : D := .sl false 2 yTMark (ML encTMark x)
def yLTMark : D := encLTMark []
def wfLTMark (x : List TMark) : Prop := x.length ≤ maxLen ∧ ∀ y ∈ x, wfTMark y
theorem inj_TMark : ∀ x y : TMark, encTMark x = encTMark y → x = y := by
  intro x y h
  obtain ⟨x0, x1⟩ := x
  obtain ⟨y0, y1⟩ := y
  simp [encTMark] at h
  first | exact h | simp [h] | (cases h; rfl)
@[simp] theorem ML_inj_TMark (l l' : List TMark) : ML encTMark l = ML encTMark l' ↔ l = l' := ML_inj inj_TMark
@[simp] theorem ML_getD_TMark (l : List TMark) (k : Nat) : (ML encTMark l).getD k yTMark = encTMark (l.getD k default) := ML_getD l k default
@[simp] theorem ML_get2_TMark (l : List TMark) (k : Nat) : (ML encTMark l)[k]?.getD yTMark = encTMark (l.getD k default) := by rw [← List.getD_eq_getElem?_getD]; exact ML_getD l k default
@[simp] theorem ML_snoc_TMark (l : List TMark) (a0 : Int) (a1 : Int) : ML encTMark l ++ [.agg [.lit (.int .i64 a0), .lit (.int .i64 a1)]] = ML encTMark (l ++ [⟨a0, a1⟩]) := ML_snoc (enc := encTMark) l ⟨a0, a1⟩
@[simp] theorem ML_cons_TMark (l : List TMark) (a0 : Int) (a1 : Int) : .agg [.lit (.int .i64 a0), .lit (.int .i64 a1)] :: ML encTMark l = ML encTMark (⟨a0, a1⟩ :: l) := rfl
@[simp] theorem ML_set_TMark (l : List TMark) (k : Nat) (a0 : Int) (a1 : Int) : (ML encTMark l).set k (.agg [.lit (.int .i64 a0), .lit (.int .i64 a1)]) = ML encTMark (l.set k ⟨a0, a1⟩) := ML_set (enc := encTMark) l k ⟨a0, a1⟩
@[simp] theorem ML_rep_TMark (n : Nat) (a0 : Int) (a1 : Int) : List.replicate n (.agg [.lit (.int .i64 a0), .lit (.int .i64 a1)] : D) = ML encTMark (List.replicate n ⟨a0, a1⟩) := ML_rep (enc := encTMark) n ⟨a0, a1⟩
@[simp] theorem ML_pure_TMark (l : List TMark) : puresD (ML encTMark l) = true := ML_pure (fun x => by simp [pureD, puresD]) l
@[simp] theorem ML_flat_TMark (l : List TMark) : flatDs (ML encTMark l) = true := ML_flat (fun x => by simp [flatD, flatDs]) l
structure TSlot where
  Id : Int
  Size : Int
  Thing : Int
instance : Inhabited TSlot := ⟨⟨default, default, default⟩⟩
instance : DecidableEq TSlot := fun a b => decidable_of_iff (a.Id = b.Id ∧ a.Size = b.Size ∧ a.Thing = b.Thing) (by cases a; cases b; simp)
@[simp] theorem TSlot_eta (x : TSlot) : (⟨x.Id, x.Size, x.Thing⟩ : TSlot) = x := rfl
@[simp] def encTSlot (x : TSlot) : D := .agg [.lit (.int .i64 x.Id), .lit (.int .i64 x.Size), .lit (.int .i64 x.Thing)]
def yTSlot : D := encTSlot default
def wfTSlot (x : TSlot) : Prop := inR .i64 x.Id ∧ inR .i64 x.Size ∧ inR .i64 x.Thing
@[simp] def encLTSlot (x : List TSlot) : D := .sl false 3 yTSlot (ML encTSlot x)
def yLTSlot : D := encLTSlot []
def wfLTSlot (x : List TSlot) : Prop := x.length ≤ maxLen ∧ ∀ y ∈ x, wfTSlot y
theorem inj_TSlot : ∀ x y : TSlot, encTSlot x = encTSlot y → x = y := by
  intro x y h
  obtain ⟨x0, x1, x2⟩ := x
  obtain ⟨y0, y1, y2⟩ := y
  simp [encTSlot] at h
  first | exact h | simp [h] | (cases h; rfl)
@[simp] theorem ML_inj_TSlot (l l' : List TSlot) : ML encTSlot l = ML encTSlot l' ↔ l = l' := ML_inj inj_TSlot
@[simp] theorem ML_getD_TSlot (l : List TSlot) (k : Nat) : (ML encTSlot l).getD k yTSlot = encTSlot (l.getD k default) := ML_getD l k default
@[simp] theorem ML_get2_TSlot (l : List TSlot) (k : Nat) : (ML encTSlot l)[k]?.getD yTSlot = encTSlot (l.getD k default) := by rw [← List.getD_eq_getElem?_getD]; exact ML_getD l k default
@[simp] theorem ML_snoc_TSlot (l : List TSlot) (a0 : Int) (a1 : Int) (a2 : Int) : ML encTSlot l ++ [.agg [.lit (.int .i64 a0), .lit (.int .i64 a1), .lit (.int .i64 a2)]] = ML encTSlot (l ++ [⟨a0, a1, a2⟩]) := ML_snoc (enc := encTSlot) l ⟨a0, a1, a2⟩
@[simp] theorem ML_cons_TSlot (l : List TSlot) (a0 : Int) (a1 : Int) (a2 : Int) : .agg [.lit (.int .i64 a0), .lit (.int .i64 a1), .lit (.int .i64 a2)] :: ML encTSlot l = ML encTSlot (⟨a0, a1, a2⟩ :: l) := rfl
@[simp] theorem ML_set_TSlot (l : List TSlot) (k : Nat) (a0 : Int) (a1 : Int) (a2 : Int) : (ML encTSlot l).set k (.agg [.lit (.int .i64 a0), .lit (.int .i64 a1), .lit (.int .i64 a2)]) = ML encTSlot (l.set k ⟨a0, a1, a2⟩) := ML_set (enc := encTSlot) l k ⟨a0, a1, a2⟩
@[simp] theorem ML_rep_TSlot (n : Nat) (a0 : Int) (a1 : Int) (a2 : Int) : List.replicate n (.agg [.lit (.int .i64 a0), .lit (.int .i64 a1), .lit (.int .i64 a2)] : D) = ML encTSlot (List.replicate n ⟨a0, a1, a2⟩) := ML_rep (enc := encTSlot) n ⟨a0, a1, a2⟩
@[simp] theorem ML_pure_TSlot (l : List TSlot) : puresD (ML encTSlot l) = true := ML_pure (fun x => by simp [pureD, puresD]) l
@[simp] theorem ML_flat_TSlot (l : List TSlot) : flatDs (ML encTSlot l) = true := ML_flat (fun x => by simp [flatD, flatDs]) l
structure TBid where
  Who : Int
  Cents : Int
  Seal : Int
instance : Inhabited TBid := ⟨⟨default, default, default⟩⟩
instance : DecidableEq TBid := fun a b => decidable_of_iff (a.Who = b.Who ∧ a.Cents = b.Cents ∧ a.Seal = b.Seal) (by cases a; cases b; simp)
@[simp] theorem TBid_eta (x : TBid) : (⟨x.Who, x.Cents, x.Seal⟩ : TBid) = x := rfl
@[simp] def encTBid (x : TBid) : D := .agg [.lit (.int .i64 x.Who), .lit (.int .i64 x.Cents), .lit (.int .i64 x.Seal)]
def yTBid : D := encTBid default
def wfTBid (x : TBid) : Prop := inR .i64 x.Who ∧ inR .i64 x.Cents ∧ inR .i64 x.Seal
@[simp] def encLTBid (x : List TBid) : D := .sl false 3 yTBid (ML encTBid x)
def yLTBid : D := encLTBid []
def wfLTBid (x : List TBid) : Prop := x.length ≤ maxLen ∧ ∀ y ∈ x, wfTBid y
theorem inj_TBid : ∀ x y : TBid, encTBid x = encTBid y → x = y := by
  intro x y h
  obtain ⟨x0, x1, x2⟩ := x
  obtain ⟨y0, y1, y2⟩ := y
  simp [encTBid] at h
  first | exact h | simp [h] | (cases h; rfl)
@[simp] theorem ML_inj_TBid (l l' : List TBid) : ML encTBid l = ML encTBid l' ↔ l = l' := ML_inj inj_TBid
@[simp] theorem ML_getD_TBid (l : List TBid) (k : Nat) : (ML encTBid l).getD k yTBid = encTBid (l.getD k default) := ML_getD l k default
@[simp] theorem ML_get2_TBid (l : List TBid) (k : Nat) : (ML encTBid l)[k]?.getD yTBid = encTBid (l.getD k default) := by rw [← List.getD_eq_getElem?_getD]; exact ML_getD l k default
@[simp] theorem ML_snoc_TBid (l : List TBid) (a0 : Int) (a1 : Int) (a2 : Int) : ML encTBid l ++ [.agg [.lit (.int .i64 a0), .lit (.int .i64 a1), .lit (.int .i64 a2)]] = ML encTBid (l ++ [⟨a0, a1, a2⟩]) := ML_snoc (enc := encTBid) l ⟨a0, a1, a2⟩
@[simp] theorem ML_cons_TBid (l : List TBid) (a0 : Int) (a1 : Int) (a2 : Int) : .agg [.lit (.int .i64 a0), .lit (.int .i64 a1), .lit (.int .i64 a2)] :: ML encTBid l = ML encTBid (⟨a0, a1, a2⟩ :: l) := rfl
@[simp] theorem ML_set_TBid (l : List TBid) (k : Nat) (a0 : Int) (a1 : Int) (a2 : Int) : (ML encTBid l).set k (.agg [.lit (.int .i64 a0), .lit (.int .i64 a1), .lit (.int .i64 a2)]) = ML encTBid (l.set k ⟨a0, a1, a2⟩) := ML_set (enc := encTBid) l k ⟨a0, a1, a2⟩
@[simp] theorem ML_rep_TBid (n : Nat) (a0 : Int) (a1 : Int) (a2 : Int) : List.replicate n (.agg [.lit (.int .i64 a0), .lit (.int .i64 a1), .lit (.int .i64 a2)] : D) = ML encTBid (List.replicate n ⟨a0, a1, a2⟩) := ML_rep (enc := encTBid) n ⟨a0, a1, a2⟩
@[simp] theorem ML_pure_TBid (l : List TBid) : puresD (ML encTBid l) = true := ML_pure (fun x => by simp [pureD, puresD]) l
@[simp] theorem ML_flat_TBid (l : List TBid) : flatDs (ML encTBid l) = true := ML_flat (fun x => by simp [flatD, flatDs]) l
structure TShare where
  Who : Int
  Cents : Int
instance : Inhabited TShare := ⟨⟨default, default⟩⟩
instance : DecidableEq TShare := fun a b => decidable_of_iff (a.Who = b.Who ∧ a.Cents = b.Cents) (by cases a; cases b; simp)
@[simp] theorem TShare_eta (x : TShare) : (⟨x.Who, x.Cents⟩ : TShare) = x := rfl
@[simp] def encTShare (x : TShare) : D := .agg [.lit (.int .i64 x.Who), .lit (.int .i64 x.Cents)]
def yTShare : D := encTShare default
def wfTShare (x : TShare) : Prop := inR .i64 x.Who ∧ inR .i64 x.Cents
@[simp] def encLTShare (x : List TShare) : D := .sl false 2 yTShare (ML encTShare x)
def yLTShare : D := encLTShare []
def wfLTShare (x : List TShare) : Prop := x.length ≤ maxLen ∧ ∀ y ∈ x, wfTShare y
theorem inj_TShare : ∀ x y : TShare, encTShare x = encTShare y → x = y := by
  intro x y h
  obtain ⟨x0, x1⟩ := x
  obtain ⟨y0, y1⟩ := y
  simp [encTShare] at h
  first | exact h | simp [h] | (cases h; rfl)
@[simp] theorem ML_inj_TShare (l l' : List TShare) : ML encTShare l = ML encTShare l' ↔ l = l' := ML_inj inj_TShare
@[simp] theorem ML_getD_TShare (l : List TShare) (k : Nat) : (ML encTShare l).getD k yTShare = encTShare (l.getD k default) := ML_getD l k default
@[simp] theorem ML_get2_TShare (l : List TShare) (k : Nat) : (ML encTShare l)[k]?.getD yTShare = encTShare (l.getD k default) := by rw [← List.getD_eq_getElem?_getD]; exact ML_getD l k default
@[simp] theorem ML_snoc_TShare (l : List TShare) (a0 : Int) (a1 : Int) : ML encTShare l ++ [.agg [.lit (.int .i64 a0), .lit (.int .i64 a1)]] = ML encTShare (l ++ [⟨a0, a1⟩]) := ML_snoc (enc := encTShare) l ⟨a0, a1⟩
@[simp] theorem ML_cons_TShare (l : List TShare) (a0 : Int) (a1 : Int) : .agg [.lit (.int .i64 a0), .lit (.int .i64 a1)] :: ML encTShare l = ML encTShare (⟨a0, a1⟩ :: l) := rfl
@[simp] theorem ML_set_TShare (l : List TShare) (k : Nat) (a0 : Int) (a1 : Int) : (ML encTShare l).set k (.agg [.lit (.int .i64 a0), .lit (.int .i64 a1)]) = ML encTShare (l.set k ⟨a0, a1⟩) := ML_set (enc := encTShare) l k ⟨a0, a1⟩
@[simp] theorem ML_rep_TShare (n : Nat) (a0 : Int) (a1 : Int) : List.replicate n (.agg [.lit (.int .i64 a0), .lit (.int .i64 a1)] : D) = ML encTShare (List.replicate n ⟨a0, a1⟩) := ML_rep (enc := encTShare) n ⟨a0, a1⟩
@[simp] theorem ML_pure_TShare (l : List TShare) : puresD (ML encTShare l) = true := ML_pure (fun x => by simp [pureD, puresD]) l
@[simp] theorem ML_flat_TShare (l : List TShare) : flatDs (ML encTShare l) = true := ML_flat (fun x => by simp [flatD, flatDs]) l
structure TEntry where
  From : Int
  To : Int
  Cents : Int
  At : Int
instance : Inhabited TEntry := ⟨⟨default, default, default, default⟩⟩
instance : DecidableEq TEntry := fun a b => decidable_of_iff (a.From = b.From ∧ a.To = b.To ∧ a.Cents = b.Cents ∧ a.At = b.At) (by cases a; cases b; simp)
@[simp] theorem TEntry_eta (x : TEntry) : (⟨x.From, x.To, x.Cents, x.At⟩ : TEntry) = x := rfl
@[simp] def encTEntry (x : TEntry) : D := .agg [.lit (.int .i64 x.From), .lit (.int .i64 x.To), .lit (.int .i64 x.Cents), .lit (.int .i64 x.At)]
def yTEntry : D := encTEntry default
def wfTEntry (x : TEntry) : Prop := inR .i64 x.From ∧ inR .i64 x.To ∧ inR .i64 x.Cents ∧ inR .i64 x.At
@[simp] def encLTEntry (x : List TEntry) : D := .sl false 4 yTEntry (ML encTEntry x)
def yLTEntry : D := encLTEntry []
def wfLTEntry (x : List TEntry) : Prop := x.length ≤ maxLen ∧ ∀ y ∈ x, wfTEntry y
theorem inj_TEntry : ∀ x y : TEntry, encTEntry x = encTEntry y → x = y := by
  intro x y h
  obtain ⟨x0, x1, x2, x3⟩ := x
  obtain ⟨y0, y1, y2, y3⟩ := y
  simp [encTEntry] at h
  first | exact h | simp [h] | (cases h; rfl)
@[simp] theorem ML_inj_TEntry (l l' : List TEntry) : ML encTEntry l = ML encTEntry l' ↔ l = l' := ML_inj inj_TEntry
@[simp] theorem ML_getD_TEntry (l : List TEntry) (k : Nat) : (ML encTEntry l).getD k yTEntry = encTEntry (l.getD k default) := ML_getD l k default
@[simp] theorem ML_get2_TEntry (l : List TEntry) (k : Nat) : (ML encTEntry l)[k]?.getD yTEntry = encTEntry (l.getD k default) := by rw [← List.getD_eq_getElem?_getD]; exact ML_getD l k default
@[simp] theorem ML_snoc_TEntry (l : List TEntry) (a0 : Int) (a1 : Int) (a2 : Int) (a3 : Int) : ML encTEntry l ++ [.agg [.lit (.int .i64 a0), .lit (.int .i64 a1), .lit (.int .i64 a2), .lit (.int .i64 a3)]] = ML encTEntry (l ++ [⟨a0, a1, a2, a3⟩]) := ML_snoc (enc := encTEntry) l ⟨a0, a1, a2, a3⟩
@[simp] theorem ML_cons_TEntry (l : List TEntry) (a0 : Int) (a1 : Int) (a2 : Int) (a3 : Int) : .agg [.lit (.int .i64 a0), .lit (.int .i64 a1), .lit (.int .i64 a2), .lit (.int .i64 a3)] :: ML encTEntry l = ML encTEntry (⟨a0, a1, a2, a3⟩ :: l) := rfl
@[simp] theorem ML_set_TEntry (l : List TEntry) (k : Nat) (a0 : Int) (a1 : Int) (a2 : Int) (a3 : Int) : (ML encTEntry l).set k (.agg [.lit (.int .i64 a0), .lit (.int .i64 a1), .lit (.int .i64 a2), .lit (.int .i64 a3)]) = ML encTEntry (l.set k ⟨a0, a1, a2, a3⟩) := ML_set (enc := encTEntry) l k ⟨a0, a1, a2, a3⟩
@[simp] theorem ML_rep_TEntry (n : Nat) (a0 : Int) (a1 : Int) (a2 : Int) (a3 : Int) : List.replicate n (.agg [.lit (.int .i64 a0), .lit (.int .i64 a1), .lit (.int .i64 a2), .lit (.int .i64 a3)] : D) = ML encTEntry (List.replicate n ⟨a0, a1, a2, a3⟩) := ML_rep (enc := encTEntry) n ⟨a0, a1, a2, a3⟩
@[simp] theorem ML_pure_TEntry (l : List TEntry) : puresD (ML encTEntry l) = true := ML_pure (fun x => by simp [pureD, puresD]) l
@[simp] theorem ML_flat_TEntry (l : List TEntry) : flatDs (ML encTEntry l) = true := ML_flat (fun x => by simp [flatD, flatDs]) l
structure TTask where
  Thing : Int
  Fate : Int
  Day : Int
instance : Inhabited TTask := ⟨⟨default, default, default⟩⟩
instance : DecidableEq TTask := fun a b => decidable_of_iff (a.Thing = b.Thing ∧ a.Fate = b.Fate ∧ a.Day = b.Day) (by cases a; cases b; simp)
@[simp] theorem TTask_eta (x : TTask) : (⟨x.Thing, x.Fate, x.Day⟩ : TTask) = x := rfl
@[simp] def encTTask (x : TTask) : D := .agg [.lit (.int .i64 x.Thing), .lit (.int .i64 x.Fate), .lit (.int .i64 x.Day)]
def yTTask : D := encTTask default
def wfTTask (x : TTask) : Prop := inR .i64 x.Thing ∧ inR .i64 x.Fate ∧ inR .i64 x.Day
@[simp] def encLTTask (x : List TTask) : D := .sl false 3 yTTask (ML encTTask x)
def yLTTask : D := encLTTask []
def wfLTTask (x : List TTask) : Prop := x.length ≤ maxLen ∧ ∀ y ∈ x, wfTTask y
theorem inj_TTask : ∀ x y : TTask, encTTask x = encTTask y → x = y := by
  intro x y h
  obtain ⟨x0, x1, x2⟩ := x
  obtain ⟨y0, y1, y2⟩ := y
  simp [encTTask] at h
  first | exact h | simp [h] | (cases h; rfl)
@[simp] theorem ML_inj_TTask (l l' : List TTask) : ML encTTask l = ML encTTask l' ↔ l = l' := ML_inj inj_TTask
@[simp] theorem ML_getD_TTask (l : List TTask) (k : Nat) : (ML encTTask l).getD k yTTask = encTTask (l.getD k default) := ML_getD l k default
@[simp] theorem ML_get2_TTask (l : List TTask) (k : Nat) : (ML encTTask l)[k]?.getD yTTask = encTTask (l.getD k default) := by rw [← List.getD_eq_getElem?_getD]; exact ML_getD l k default
@[simp] theorem ML_snoc_TTask (l : List TTask) (a0 : Int) (a1 : Int) (a2 : Int) : ML encTTask l ++ [.agg [.lit (.int .i64 a0), .lit (.int .i64 a1), .lit (.int .i64 a2)]] = ML encTTask (l ++ [⟨a0, a1, a2⟩]) := ML_snoc (enc := encTTask) l ⟨a0, a1, a2⟩
@[simp] theorem ML_cons_TTask (l : List TTask) (a0 : Int) (a1 : Int) (a2 : Int) : .agg [.lit (.int .i64 a0), .lit (.int .i64 a1), .lit (.int .i64 a2)] :: ML encTTask l = ML encTTask (⟨a0, a1, a2⟩ :: l) := rfl
@[simp] theorem ML_set_TTask (l : List TTask) (k : Nat) (a0 : Int) (a1 : Int) (a2 : Int) : (ML encTTask l).set k (.agg [.lit (.int .i64 a0), .lit (.int .i64 a1), .lit (.int .i64 a2)]) = ML encTTask (l.set k ⟨a0, a1, a2⟩) := ML_set (enc := encTTask) l k ⟨a0, a1, a2⟩
@[simp] theorem ML_rep_TTask (n : Nat) (a0 : Int) (a1 : Int) (a2 : Int) : List.replicate n (.agg [.lit (.int .i64 a0), .lit (.int .i64 a1), .lit (.int .i64 a2)] : D) = ML encTTask (List.replicate n ⟨a0, a1, a2⟩) := ML_rep (enc := encTTask) n ⟨a0, a1, a2⟩
@[simp] theorem ML_pure_TTask (l : List TTask) : puresD (ML encTTask l) = true := ML_pure (fun x => by simp [pureD, puresD]) l
@[simp] theorem ML_flat_TTask (l : List TTask) : flatDs (ML encTTask l) = true := ML_flat (fun x => by simp [flatD, flatDs]) l
structure TPortion where
  Share : TShare
  part_ : Int
  remainder_ : Int
instance : Inhabited TPortion := ⟨⟨default, default, default⟩⟩
instance : DecidableEq TPortion := fun a b => decidable_of_iff (a.Share = b.Share ∧ a.part_ = b.part_ ∧ a.remainder_ = b.remainder_) (by cases a; cases b; simp)
@[simp] theorem TPortion_eta (x : TPortion) : (⟨x.Share, x.part_, x.remainder_⟩ : TPortion) = x := rfl
@[simp] def encTPortion (x : TPortion) : D := .agg [.lit (.int .i64 x.Share.Who), .lit (.int .i64 x.Share.Cents), .lit (.int .i64 x.part_), .lit (.int .i64 x.remainder_)]
def yTPortion : D := encTPortion default
def wfTPortion (x : TPortion) : Prop := wfTShare x.Share ∧ inR .i64 x.part_ ∧ inR .i64 x.remainder_
@[simp] def encLTPortion (x : List TPortion) : D := .sl false 4 yTPortion (ML encTPortion x)
def yLTPortion : D := encLTPortion []
def wfLTPortion (x : List TPortion) : Prop := x.length ≤ maxLen ∧ ∀ y ∈ x, wfTPortion y
theorem inj_TPortion : ∀ x y : TPortion, encTPortion x = encTPortion y → x = y := by
  intro x y h
  obtain ⟨⟨x00, x01⟩, x1, x2⟩ := x
  obtain ⟨⟨y00, y01⟩, y1, y2⟩ := y
  simp [encTPortion] at h
  first | exact h | simp [h] | (cases h; rfl)
@[simp] theorem ML_inj_TPortion (l l' : List TPortion) : ML encTPortion l = ML encTPortion l' ↔ l = l' := ML_inj inj_TPortion
@[simp] theorem ML_getD_TPortion (l : List TPortion) (k : Nat) : (ML encTPortion l).getD k yTPortion = encTPortion (l.getD k default) := ML_getD l k default
@[simp] theorem ML_get2_TPortion (l : List TPortion) (k : Nat) : (ML encTPortion l)[k]?.getD yTPortion = encTPortion (l.getD k default) := by rw [← List.getD_eq_getElem?_getD]; exact ML_getD l k default
@[simp] theorem ML_snoc_TPortion (l : List TPortion) (a00 : Int) (a01 : Int) (a1 : Int) (a2 : Int) : ML encTPortion l ++ [.agg [.lit (.int .i64 a00), .lit (.int .i64 a01), .lit (.int .i64 a1), .lit (.int .i64 a2)]] = ML encTPortion (l ++ [⟨⟨a00, a01⟩, a1, a2⟩]) := ML_snoc (enc := encTPortion) l ⟨⟨a00, a01⟩, a1, a2⟩
@[simp] theorem ML_cons_TPortion (l : List TPortion) (a00 : Int) (a01 : Int) (a1 : Int) (a2 : Int) : .agg [.lit (.int .i64 a00), .lit (.int .i64 a01), .lit (.int .i64 a1), .lit (.int .i64 a2)] :: ML encTPortion l = ML encTPortion (⟨⟨a00, a01⟩, a1, a2⟩ :: l) := rfl
@[simp] theorem ML_set_TPortion (l : List TPortion) (k : Nat) (a00 : Int) (a01 : Int) (a1 : Int) (a2 : Int) : (ML encTPortion l).set k (.agg [.lit (.int .i64 a00), .lit (.int .i64 a01), .lit (.int .i64 a1), .lit (.int .i64 a2)]) = ML encTPortion (l.set k ⟨⟨a00, a01⟩, a1, a2⟩) := ML_set (enc := encTPortion) l k ⟨⟨a00, a01⟩, a1, a2⟩
@[simp] theorem ML_rep_TPortion (n : Nat) (a00 : Int) (a01 : Int) (a1 : Int) (a2 : Int) : List.replicate n (.agg [.lit (.int .i64 a00), .lit (.int .i64 a01), .lit (.int .i64 a1), .lit (.int .i64 a2)] : D) = ML encTPortion (List.replicate n ⟨⟨a00, a01⟩, a1, a2⟩) := ML_rep (enc := encTPortion) n ⟨⟨a00, a01⟩, a1, a2⟩
@[simp] theorem ML_pure_TPortion (l : List TPortion) : puresD (ML encTPortion l) = true := ML_pure (fun x => by simp [pureD, puresD]) l
@[simp] theorem ML_flat_TPortion (l : List TPortion) : flatDs (ML encTPortion l) = true := ML_flat (fun x => by simp [flatD, flatDs]) l
end Go.Proofs.Ytkccphdoolpmaaa
