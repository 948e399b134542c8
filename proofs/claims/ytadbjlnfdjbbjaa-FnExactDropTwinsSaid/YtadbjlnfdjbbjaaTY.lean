/- The data of this program as Lean types, and how they are held. -/
import Derived.Test.YtadbjlnfdjbbjaaEngB
namespace Go.Proofs.Ytadbjlnfdjbbjaa
open Go Go.Eng
set_option linter.unusedSimpArgs false
set_option linter.unusedVariables false
structure TClaim where
  Id : Int
  Who : Int
  Thing : Int
  At : Int
  State : Int
instance : Inhabited TClaim := ⟨⟨default, default, default, default, default⟩⟩
instance : DecidableEq TClaim := fun a b => decidable_of_iff (a.Id = b.Id ∧ a.Who = b.Who ∧ a.Thing = b.Thing ∧ a.At = b.At ∧ a.State = b.State) (by cases a; cases b; simp)
@[simp] theorem TClaim_eta (x : TClaim) : (⟨x.Id, x.Who, x.Thing, x.At, x.State⟩ : TClaim) = x := rfl
@[simp] def encTClaim (x : TClaim) : D := .agg [.lit (.int .i64 x.Id), .lit (.int .i64 x.Who), .lit (.int .i64 x.Thing), .lit (.int .i64 x.At), .lit (.int .i64 x.State)]
def yTClaim : D := encTClaim default
def wfTClaim (x : TClaim) : Prop := inR .i64 x.Id ∧ inR .i64 x.Who ∧ inR .i64 x.Thing ∧ inR .i64 x.At ∧ inR .i64 x.State
@[simp] def encLTClaim (x : List TClaim) : D := .sl false 5 yTClaim (ML encTClaim x)
def yLTClaim : D := encLTClaim []
def wfLTClaim (x : List TClaim) : Prop := x.length ≤ maxLen ∧ ∀ y ∈ x, wfTClaim y
theorem inj_TClaim : ∀ x y : TClaim, encTClaim x = encTClaim y → x = y := by
  intro x y h
  obtain ⟨x0, x1, x2, x3, x4⟩ := x
  obtain ⟨y0, y1, y2, y3, y4⟩ := y
  simp [encTClaim] at h
  first | exact h | simp [h] | (cases h; rfl)
@[simp] theorem ML_inj_TClaim (l l' : List TClaim) : ML encTClaim l = ML encTClaim l' ↔ l = l' := ML_inj inj_TClaim
@[simp] theorem ML_getD_TClaim (l : List TClaim) (k : Nat) : (ML encTClaim l).getD k yTClaim = encTClaim (l.getD k default) := ML_getD l k default
@[simp] theorem ML_get2_TClaim (l : List TClaim) (k : Nat) : (ML encTClaim l)[k]?.getD yTClaim = encTClaim (l.getD k default) := by rw [← List.getD_eq_getElem?_getD]; exact ML_getD l k default
@[simp] theorem ML_snoc_TClaim (l : List TClaim) (a0 : Int) (a1 : Int) (a2 : Int) (a3 : Int) (a4 : Int) : ML encTClaim l ++ [.agg [.lit (.int .i64 a0), .lit (.int .i64 a1), .lit (.int .i64 a2), .lit (.int .i64 a3), .lit (.int .i64 a4)]] = ML encTClaim (l ++ [⟨a0, a1, a2, a3, a4⟩]) := ML_snoc (enc := encTClaim) l ⟨a0, a1, a2, a3, a4⟩
@[simp] theorem ML_cons_TClaim (l : List TClaim) (a0 : Int) (a1 : Int) (a2 : Int) (a3 : Int) (a4 : Int) : .agg [.lit (.int .i64 a0), .lit (.int .i64 a1), .lit (.int .i64 a2), .lit (.int .i64 a3), .lit (.int .i64 a4)] :: ML encTClaim l = ML encTClaim (⟨a0, a1, a2, a3, a4⟩ :: l) := rfl
@[simp] theorem ML_set_TClaim (l : List TClaim) (k : Nat) (a0 : Int) (a1 : Int) (a2 : Int) (a3 : Int) (a4 : Int) : (ML encTClaim l).set k (.agg [.lit (.int .i64 a0), .lit (.int .i64 a1), .lit (.int .i64 a2), .lit (.int .i64 a3), .lit (.int .i64 a4)]) = ML encTClaim (l.set k ⟨a0, a1, a2, a3, a4⟩) := ML_set (enc := encTClaim) l k ⟨a0, a1, a2, a3, a4⟩
@[simp] theorem ML_rep_TClaim (n : Nat) (a0 : Int) (a1 : Int) (a2 : Int) (a3 : Int) (a4 : Int) : List.replicate n (.agg [.lit (.int .i64 a0), .lit (.int .i64 a1), .lit (.int .i64 a2), .lit (.int .i64 a3), .lit (.int .i64 a4)] : D) = ML encTClaim (List.replicate n ⟨a0, a1, a2, a3, a4⟩) := ML_rep (enc := encTClaim) n ⟨a0, a1, a2, a3, a4⟩
@[simp] theorem ML_pure_TClaim (l : List TClaim) : puresD (ML encTClaim l) = true := ML_pure (fun x => by simp [pureD, puresD]) l
@[simp] theorem ML_flat_TClaim (l : List TClaim) : flatDs (ML encTClaim l) = true := ML_flat (fun x => by simp [flatD, flatDs]) l
@[simp] def encLI (x : List Int) : D := .sl false 1 (.lit (.int .i64 0)) (ML dI x)
def yLI : D := encLI []
def wfLI (x : List Int) : Prop := x.length ≤ maxLen ∧ ∀ y ∈ x, inR .i64 y
theorem inj_I : ∀ x y : Int, dI x = dI y → x = y := by
  intro x y h
  simp [dI] at h
  first | exact h | simp [h] | (cases h; rfl)
@[simp] theorem ML_inj_I (l l' : List Int) : ML dI l = ML dI l' ↔ l = l' := ML_inj inj_I
@[simp] theorem ML_getD_I (l : List Int) (k : Nat) : (ML dI l).getD k (.lit (.int .i64 0)) = dI (l.getD k 0) := ML_getD l k 0
@[simp] theorem ML_get2_I (l : List Int) (k : Nat) : (ML dI l)[k]?.getD (.lit (.int .i64 0)) = dI (l.getD k 0) := by rw [← List.getD_eq_getElem?_getD]; exact ML_getD l k 0
@[simp] theorem ML_snoc_I (l : List Int) (a : Int) : ML dI l ++ [.lit (.int .i64 a)] = ML dI (l ++ [a]) := ML_snoc (enc := dI) l a
@[simp] theorem ML_cons_I (l : List Int) (a : Int) : .lit (.int .i64 a) :: ML dI l = ML dI (a :: l) := rfl
@[simp] theorem ML_set_I (l : List Int) (k : Nat) (a : Int) : (ML dI l).set k (.lit (.int .i64 a)) = ML dI (l.set k a) := ML_set (enc := dI) l k a
@[simp] theorem ML_rep_I (n : Nat) (a : Int) : List.replicate n (.lit (.int .i64 a) : D) = ML dI (List.replicate n a) := ML_rep (enc := dI) n a
@[simp] theorem ML_pure_I (l : List Int) : puresD (ML dI l) = true := ML_pure (fun x => by simp [pureD, puresD]) l
@[simp] theorem ML_flat_I (l : List Int) : flatDs (ML dI l) = true := ML_flat (fun x => by simp [flatD, flatDs]) l
structure THand where
  Thing : Int
  Holder : Int
  Who : Int
  At : Int
  Seal : Int
instance : Inhabited THand := ⟨⟨default, default, default, default, default⟩⟩
instance : DecidableEq THand := fun a b => decidable_of_iff (a.Thing = b.Thing ∧ a.Holder = b.Holder ∧ a.Who = b.Who ∧ a.At = b.At ∧ a.Seal = b.Seal) (by cases a; cases b; simp)
@[simp] theorem THand_eta (x : THand) : (⟨x.Thing, x.Holder, x.Who, x.At, x.Seal⟩ : THand) = x := rfl
@[simp] def encTHand (x : THand) : D := .agg [.lit (.int .i64 x.Thing), .lit (.int .i64 x.Holder), .lit (.int .i64 x.Who), .lit (.int .i64 x.At), .lit (.int .i64 x.Seal)]
def yTHand : D := encTHand default
def wfTHand (x : THand) : Prop := inR .i64 x.Thing ∧ inR .i64 x.Holder ∧ inR .i64 x.Who ∧ inR .i64 x.At ∧ inR .i64 x.Seal
@[simp] def encLTHand (x : List THand) : D := .sl false 5 yTHand (ML encTHand x)
def yLTHand : D := encLTHand []
def wfLTHand (x : List THand) : Prop := x.length ≤ maxLen ∧ ∀ y ∈ x, wfTHand y
theorem inj_THand : ∀ x y : THand, encTHand x = encTHand y → x = y := by
  intro x y h
  obtain ⟨x0, x1, x2, x3, x4⟩ := x
  obtain ⟨y0, y1, y2, y3, y4⟩ := y
  simp [encTHand] at h
  first | exact h | simp [h] | (cases h; rfl)
@[simp] theorem ML_inj_THand (l l' : List THand) : ML encTHand l = ML encTHand l' ↔ l = l' := ML_inj inj_THand
@[simp] theorem ML_getD_THand (l : List THand) (k : Nat) : (ML encTHand l).getD k yTHand = encTHand (l.getD k default) := ML_getD l k default
@[simp] theorem ML_get2_THand (l : List THand) (k : Nat) : (ML encTHand l)[k]?.getD yTHand = encTHand (l.getD k default) := by rw [← List.getD_eq_getElem?_getD]; exact ML_getD l k default
@[simp] theorem ML_snoc_THand (l : List THand) (a0 : Int) (a1 : Int) (a2 : Int) (a3 : Int) (a4 : Int) : ML encTHand l ++ [.agg [.lit (.int .i64 a0), .lit (.int .i64 a1), .lit (.int .i64 a2), .lit (.int .i64 a3), .lit (.int .i64 a4)]] = ML encTHand (l ++ [⟨a0, a1, a2, a3, a4⟩]) := ML_snoc (enc := encTHand) l ⟨a0, a1, a2, a3, a4⟩
@[simp] theorem ML_cons_THand (l : List THand) (a0 : Int) (a1 : Int) (a2 : Int) (a3 : Int) (a4 : Int) : .agg [.lit (.int .i64 a0), .lit (.int .i64 a1), .lit (.int .i64 a2), .lit (.int .i64 a3), .lit (.int .i64 a4)] :: ML encTHand l = ML encTHand (⟨a0, a1, a2, a3, a4⟩ :: l) := rfl
@[simp] theorem ML_set_THand (l : List THand) (k : Nat) (a0 : Int) (a1 : Int) (a2 : Int) (a3 : Int) (a4 : Int) : (ML encTHand l).set k (.agg [.lit (.int .i64 a0), .lit (.int .i64 a1), .lit (.int .i64 a2), .lit (.int .i64 a3), .lit (.int .i64 a4)]) = ML encTHand (l.set k ⟨a0, a1, a2, a3, a4⟩) := ML_set (enc := encTHand) l k ⟨a0, a1, a2, a3, a4⟩
@[simp] theorem ML_rep_THand (n : Nat) (a0 : Int) (a1 : Int) (a2 : Int) (a3 : Int) (a4 : Int) : List.replicate n (.agg [.lit (.int .i64 a0), .lit (.int .i64 a1), .lit (.int .i64 a2), .lit (.int .i64 a3), .lit (.int .i64 a4)] : D) = ML encTHand (List.replicate n ⟨a0, a1, a2, a3, a4⟩) := ML_rep (enc := encTHand) n ⟨a0, a1, a2, a3, a4⟩
@[simp] theorem ML_pure_THand (l : List THand) : puresD (ML encTHand l) = true := ML_pure (fun x => by simp [pureD, puresD]) l
@[simp] theorem ML_flat_THand (l : List THand) : flatDs (ML encTHand l) = true := ML_flat (fun x => by simp [flatD, flatDs]) l
structure TLetter where
  Report : Int
  Thing : Int
  At : Int
instance : Inhabited TLetter := ⟨⟨default, default, default⟩⟩
instance : DecidableEq TLetter := fun a b => decidable_of_iff (a.Report = b.Report ∧ a.Thing = b.Thing ∧ a.At = b.At) (by cases a; cases b; simp)
@[simp] theorem TLetter_eta (x : TLetter) : (⟨x.Report, x.Thing, x.At⟩ : TLetter) = x := rfl
@[simp] def encTLetter (x : TLetter) : D := .agg [.lit (.int .i64 x.Report), .lit (.int .i64 x.Thing), .lit (.int .i64 x.At)]
def yTLetter : D := encTLetter default
def wfTLetter (x : TLetter) : Prop := inR .i64 x.Report ∧ inR .i64 x.Thing ∧ inR .i64 x.At
@[simp] def encLTLetter (x : List TLetter) : D := .sl false 3 yTLetter (ML encTLetter x)
def yLTLetter : D := encLTLetter []
def wfLTLetter (x : List TLetter) : Prop := x.length ≤ maxLen ∧ ∀ y ∈ x, wfTLetter y
theorem inj_TLetter : ∀ x y : TLetter, encTLetter x = encTLetter y → x = y := by
  intro x y h
  obtain ⟨x0, x1, x2⟩ := x
  obtain ⟨y0, y1, y2⟩ := y
  simp [encTLetter] at h
  first | exact h | simp [h] | (cases h; rfl)
@[simp] theorem ML_inj_TLetter (l l' : List TLetter) : ML encTLetter l = ML encTLetter l' ↔ l = l' := ML_inj inj_TLetter
@[simp] theorem ML_getD_TLetter (l : List TLetter) (k : Nat) : (ML encTLetter l).getD k yTLetter = encTLetter (l.getD k default) := ML_getD l k default
@[simp] theorem ML_get2_TLetter (l : List TLetter) (k : Nat) : (ML encTLetter l)[k]?.getD yTLetter = encTLetter (l.getD k default) := by rw [← List.getD_eq_getElem?_getD]; exact ML_getD l k default
@[simp] theorem ML_snoc_TLetter (l : List TLetter) (a0 : Int) (a1 : Int) (a2 : Int) : ML encTLetter l ++ [.agg [.lit (.int .i64 a0), .lit (.int .i64 a1), .lit (.int .i64 a2)]] = ML encTLetter (l ++ [⟨a0, a1, a2⟩]) := ML_snoc (enc := encTLetter) l ⟨a0, a1, a2⟩
@[simp] theorem ML_cons_TLetter (l : List TLetter) (a0 : Int) (a1 : Int) (a2 : Int) : .agg [.lit (.int .i64 a0), .lit (.int .i64 a1), .lit (.int .i64 a2)] :: ML encTLetter l = ML encTLetter (⟨a0, a1, a2⟩ :: l) := rfl
@[simp] theorem ML_set_TLetter (l : List TLetter) (k : Nat) (a0 : Int) (a1 : Int) (a2 : Int) : (ML encTLetter l).set k (.agg [.lit (.int .i64 a0), .lit (.int .i64 a1), .lit (.int .i64 a2)]) = ML encTLetter (l.set k ⟨a0, a1, a2⟩) := ML_set (enc := encTLetter) l k ⟨a0, a1, a2⟩
@[simp] theorem ML_rep_TLetter (n : Nat) (a0 : Int) (a1 : Int) (a2 : Int) : List.replicate n (.agg [.lit (.int .i64 a0), .lit (.int .i64 a1), .lit (.int .i64 a2)] : D) = ML encTLetter (List.replicate n ⟨a0, a1, a2⟩) := ML_rep (enc := encTLetter) n ⟨a0, a1, a2⟩
@[simp] theorem ML_pure_TLetter (l : List TLetter) : puresD (ML encTLetter l) = true := ML_pure (fun x => by simp [pureD, puresD]) l
@[simp] theorem ML_flat_TLetter (l : List TLetter) : flatDs (ML encTLetter l) = true := ML_flat (fun x => by simp [flatD, flatDs]) l
structure TThing where
  Id : Int
  Kind : Int
  Colour : Int
  Size : Int
  Worth : Int
instance : Inhabited TThing := ⟨⟨default, default, default, default, default⟩⟩
instance : DecidableEq TThing := fun a b => decidable_of_iff (a.Id = b.Id ∧ a.Kind = b.Kind ∧ a.Colour = b.Colour ∧ a.Size = b.Size ∧ a.Worth = b.Worth) (by cases a; cases b; simp)
@[simp] theorem TThing_eta (x : TThing) : (⟨x.Id, x.Kind, x.Colour, x.Size, x.Worth⟩ : TThing) = x := rfl
@[simp] def encTThing (x : TThing) : D := .agg [.lit (.int .i64 x.Id), .lit (.int .i64 x.Kind), .lit (.int .i64 x.Colour), .lit (.int .i64 x.Size), .lit (.int .i64 x.Worth)]
def yTThing : D := encTThing default
def wfTThing (x : TThing) : Prop := inR .i64 x.Id ∧ inR .i64 x.Kind ∧ inR .i64 x.Colour ∧ inR .i64 x.Size ∧ inR .i64 x.Worth
structure TFind where
  Thing : TThing
  Place : Int
  At : Int
  Finder : Int
instance : Inhabited TFind := ⟨⟨default, default, default, default⟩⟩
instance : DecidableEq TFind := fun a b => decidable_of_iff (a.Thing = b.Thing ∧ a.Place = b.Place ∧ a.At = b.At ∧ a.Finder = b.Finder) (by cases a; cases b; simp)
@[simp] theorem TFind_eta (x : TFind) : (⟨x.Thing, x.Place, x.At, x.Finder⟩ : TFind) = x := rfl
@[simp] def encTFind (x : TFind) : D := .agg [.lit (.int .i64 x.Thing.Id), .lit (.int .i64 x.Thing.Kind), .lit (.int .i64 x.Thing.Colour), .lit (.int .i64 x.Thing.Size), .lit (.int .i64 x.Thing.Worth), .lit (.int .i64 x.Place), .lit (.int .i64 x.At), .lit (.int .i64 x.Finder)]
def yTFind : D := encTFind default
def wfTFind (x : TFind) : Prop := wfTThing x.Thing ∧ inR .i64 x.Place ∧ inR .i64 x.At ∧ inR .i64 x.Finder
@[simp] def encLTFind (x : List TFind) : D := .sl false 8 yTFind (ML encTFind x)
def yLTFind : D := encLTFind []
def wfLTFind (x : List TFind) : Prop := x.length ≤ maxLen ∧ ∀ y ∈ x, wfTFind y
theorem inj_TFind : ∀ x y : TFind, encTFind x = encTFind y → x = y := by
  intro x y h
  obtain ⟨⟨x00, x01, x02, x03, x04⟩, x1, x2, x3⟩ := x
  obtain ⟨⟨y00, y01, y02, y03, y04⟩, y1, y2, y3⟩ := y
  simp [encTFind] at h
  first | exact h | simp [h] | (cases h; rfl)
@[simp] theorem ML_inj_TFind (l l' : List TFind) : ML encTFind l = ML encTFind l' ↔ l = l' := ML_inj inj_TFind
@[simp] theorem ML_getD_TFind (l : List TFind) (k : Nat) : (ML encTFind l).getD k yTFind = encTFind (l.getD k default) := ML_getD l k default
@[simp] theorem ML_get2_TFind (l : List TFind) (k : Nat) : (ML encTFind l)[k]?.getD yTFind = encTFind (l.getD k default) := by rw [← List.getD_eq_getElem?_getD]; exact ML_getD l k default
@[simp] theorem ML_snoc_TFind (l : List TFind) (a00 : Int) (a01 : Int) (a02 : Int) (a03 : Int) (a04 : Int) (a1 : Int) (a2 : Int) (a3 : Int) : ML encTFind l ++ [.agg [.lit (.int .i64 a00), .lit (.int .i64 a01), .lit (.int .i64 a02), .lit (.int .i64 a03), .lit (.int .i64 a04), .lit (.int .i64 a1), .lit (.int .i64 a2), .lit (.int .i64 a3)]] = ML encTFind (l ++ [⟨⟨a00, a01, a02, a03, a04⟩, a1, a2, a3⟩]) := ML_snoc (enc := encTFind) l ⟨⟨a00, a01, a02, a03, a04⟩, a1, a2, a3⟩
@[simp] theorem ML_cons_TFind (l : List TFind) (a00 : Int) (a01 : Int) (a02 : Int) (a03 : Int) (a04 : Int) (a1 : Int) (a2 : Int) (a3 : Int) : .agg [.lit (.int .i64 a00), .lit (.int .i64 a01), .lit (.int .i64 a02), .lit (.int .i64 a03), .lit (.int .i64 a04), .lit (.int .i64 a1), .lit (.int .i64 a2), .lit (.int .i64 a3)] :: ML encTFind l = ML encTFind (⟨⟨a00, a01, a02, a03, a04⟩, a1, a2, a3⟩ :: l) := rfl
@[simp] theorem ML_set_TFind (l : List TFind) (k : Nat) (a00 : Int) (a01 : Int) (a02 : Int) (a03 : Int) (a04 : Int) (a1 : Int) (a2 : Int) (a3 : Int) : (ML encTFind l).set k (.agg [.lit (.int .i64 a00), .lit (.int .i64 a01), .lit (.int .i64 a02), .lit (.int .i64 a03), .lit (.int .i64 a04), .lit (.int .i64 a1), .lit (.int .i64 a2), .lit (.int .i64 a3)]) = ML encTFind (l.set k ⟨⟨a00, a01, a02, a03, a04⟩, a1, a2, a3⟩) := ML_set (enc := encTFind) l k ⟨⟨a00, a01, a02, a03, a04⟩, a1, a2, a3⟩
@[simp] theorem ML_rep_TFind (n : Nat) (a00 : Int) (a01 : Int) (a02 : Int) (a03 : Int) (a04 : Int) (a1 : Int) (a2 : Int) (a3 : Int) : List.replicate n (.agg [.lit (.int .i64 a00), .lit (.int .i64 a01), .lit (.int .i64 a02), .lit (.int .i64 a03), .lit (.int .i64 a04), .lit (.int .i64 a1), .lit (.int .i64 a2), .lit (.int .i64 a3)] : D) = ML encTFind (List.replicate n ⟨⟨a00, a01, a02, a03, a04⟩, a1, a2, a3⟩) := ML_rep (enc := encTFind) n ⟨⟨a00, a01, a02, a03, a04⟩, a1, a2, a3⟩
@[simp] theorem ML_pure_TFind (l : List TFind) : puresD (ML encTFind l) = true := ML_pure (fun x => by simp [pureD, puresD]) l
@[simp] theorem ML_flat_TFind (l : List TFind) : flatDs (ML encTFind l) = true := ML_flat (fun x => by simp [flatD, flatDs]) l
structure TLikeness where
  kind_ : Int
  colour_ : Int
  size_ : Int
  place_ : Int
instance : Inhabited TLikeness := ⟨⟨default, default, default, default⟩⟩
instance : DecidableEq TLikeness := fun a b => decidable_of_iff (a.kind_ = b.kind_ ∧ a.colour_ = b.colour_ ∧ a.size_ = b.size_ ∧ a.place_ = b.place_) (by cases a; cases b; simp)
@[simp] theorem TLikeness_eta (x : TLikeness) : (⟨x.kind_, x.colour_, x.size_, x.place_⟩ : TLikeness) = x := rfl
@[simp] def encTLikeness (x : TLikeness) : D := .agg [.lit (.int .i64 x.kind_), .lit (.int .i64 x.colour_), .lit (.int .i64 x.size_), .lit (.int .i64 x.place_)]
def yTLikeness : D := encTLikeness default
def wfTLikeness (x : TLikeness) : Prop := inR .i64 x.kind_ ∧ inR .i64 x.colour_ ∧ inR .i64 x.size_ ∧ inR .i64 x.place_
structure TTopic where
  report_ : Int
  thing_ : Int
instance : Inhabited TTopic := ⟨⟨default, default⟩⟩
instance : DecidableEq TTopic := fun a b => decidable_of_iff (a.report_ = b.report_ ∧ a.thing_ = b.thing_) (by cases a; cases b; simp)
@[simp] theorem TTopic_eta (x : TTopic) : (⟨x.report_, x.thing_⟩ : TTopic) = x := rfl
@[simp] def encTTopic (x : TTopic) : D := .agg [.lit (.int .i64 x.report_), .lit (.int .i64 x.thing_)]
def yTTopic : D := encTTopic default
def wfTTopic (x : TTopic) : Prop := inR .i64 x.report_ ∧ inR .i64 x.thing_
@[simp] def encLS (x : List ByteArray) : D := .sl false 1 (.lit (.string ⟨#[]⟩)) (ML dS x)
def yLS : D := encLS []
def wfLS (x : List ByteArray) : Prop := x.length ≤ maxLen ∧ ∀ y ∈ x, y.size ≤ maxLen
theorem inj_S : ∀ x y : ByteArray, dS x = dS y → x = y := by
  intro x y h
  simp [dI] at h
  first | exact h | simp [h] | (cases h; rfl)
@[simp] theorem ML_inj_S (l l' : List ByteArray) : ML dS l = ML dS l' ↔ l = l' := ML_inj inj_S
@[simp] theorem ML_getD_S (l : List ByteArray) (k : Nat) : (ML dS l).getD k (.lit (.string ⟨#[]⟩)) = dS (l.getD k ⟨#[]⟩) := ML_getD l k ⟨#[]⟩
@[simp] theorem ML_get2_S (l : List ByteArray) (k : Nat) : (ML dS l)[k]?.getD (.lit (.string ⟨#[]⟩)) = dS (l.getD k ⟨#[]⟩) := by rw [← List.getD_eq_getElem?_getD]; exact ML_getD l k ⟨#[]⟩
@[simp] theorem ML_snoc_S (l : List ByteArray) (a : ByteArray) : ML dS l ++ [.lit (.string a)] = ML dS (l ++ [a]) := ML_snoc (enc := dS) l a
@[simp] theorem ML_cons_S (l : List ByteArray) (a : ByteArray) : .lit (.string a) :: ML dS l = ML dS (a :: l) := rfl
@[simp] theorem ML_set_S (l : List ByteArray) (k : Nat) (a : ByteArray) : (ML dS l).set k (.lit (.string a)) = ML dS (l.set k a) := ML_set (enc := dS) l k a
@[simp] theorem ML_rep_S (n : Nat) (a : ByteArray) : List.replicate n (.lit (.string a) : D) = ML dS (List.replicate n a) := ML_rep (enc := dS) n a
@[simp] theorem ML_pure_S (l : List ByteArray) : puresD (ML dS l) = true := ML_pure (fun x => by simp [pureD, puresD]) l
@[simp] theorem ML_flat_S (l : List ByteArray) : flatDs (ML dS l) = true := ML_flat (fun x => by simp [flatD, flatDs]) l
end Go.Proofs.Ytadbjlnfdjbbjaa
