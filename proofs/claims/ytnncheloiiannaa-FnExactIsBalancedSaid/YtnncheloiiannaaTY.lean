/- The data of this program as Lean types, and how they are held. -/
import Derived.Test.YtnncheloiiannaaEngB
namespace Go.Proofs.Ytnncheloiiannaa
open Go Go.Eng
set_option linter.unusedSimpArgs false
set_option linter.unusedVariables false
/-- what the package variables hold -/
def glD : Nat → D
  | _ => .any
instance : HasG := ⟨glD⟩
@[simp] theorem gl_0 : HasG.gl 0 = .any := rfl
@[simp] theorem gl_1 : HasG.gl 1 = .any := rfl
@[simp] theorem gl_2 : HasG.gl 2 = .any := rfl
@[simp] theorem gl_3 : HasG.gl 3 = .any := rfl
@[simp] theorem gl_4 : HasG.gl 4 = .any := rfl
@[simp] theorem gl_5 : HasG.gl 5 = .any := rfl
@[simp] theorem gl_6 : HasG.gl 6 = .any := rfl
@[simp] theorem gl_7 : HasG.gl 7 = .any := rfl
structure TThing where
  Id : Int
  Kind : Int
  Colour : Int
  Size : Int
  Worth : Int
instance : Inhabited TThing := ⟨⟨default, default, default, default, default⟩⟩
instance : DecidableEq TThing := fun a b => decidable_of_iff (a.Id = b.Id ∧ a.Kind = b.Kind ∧ a.Colour = b.Colour ∧ a.Size = b.Size ∧ a.Worth = b.Worth) (by cases a; cases b; simp)
@[simp] theorem TThing_eta (x : TThing) : (⟨x.Id, x.Kind, x.Colour, x.Size, x.Worth⟩ : TThing) = x := rfl
@[simp] def encTThing (x : TThing) : D := .agg [.lit (.int .i64 x.Id), .lit (.int .i64 x.Kind), .lit (.int .i64 x.Colour), .lit (.int .i64 x.Size), .lit (.int .i64 x.Worth)]
def yTThing : D := encTThing default
def wfTThing (x : TThing) : Prop := inR .i64 x.Id ∧ inR .i64 x.Kind ∧ inR .i64 x.Colour ∧ inR .i64 x.Size ∧ inR .i64 x.Worth
structure TFind where
  Thing : TThing
  Place : Int
  At : Int
  Finder : Int
instance : Inhabited TFind := ⟨⟨default, default, default, default⟩⟩
instance : DecidableEq TFind := fun a b => decidable_of_iff (a.Thing = b.Thing ∧ a.Place = b.Place ∧ a.At = b.At ∧ a.Finder = b.Finder) (by cases a; cases b; simp)
@[simp] theorem TFind_eta (x : TFind) : (⟨x.Thing, x.Place, x.At, x.Finder⟩ : TFind) = x := rfl
@[simp] def encTFind (x : TFind) : D := .agg [.lit (.int .i64 x.Thing.Id), .lit (.int .i64 x.Thing.Kind), .lit (.int .i64 x.Thing.Colour), .lit (.int .i64 x.Thing.Size), .lit (.int .i64 x.Thing.Worth), .lit (.int .i64 x.Place), .lit (.int .i64 x.At), .lit (.int .i64 x.Finder)]
def yTFind : D := encTFind default
def wfTFind (x : TFind) : Prop := wfTThing x.Thing ∧ inR .i64 x.Place ∧ inR .i64 x.At ∧ inR .i64 x.Finder
@[simp] def encLTFind (x : List TFind) : D := .sl false 8 yTFind (ML encTFind x)
def yLTFind : D := encLTFind []
def wfLTFind (x : List TFind) : Prop := x.length ≤ maxLen ∧ ∀ y ∈ x, wfTFind y
theorem inj_TFind : ∀ x y : TFind, encTFind x = encTFind y → x = y := by
  intro x y h
  obtain ⟨⟨x00, x01, x02, x03, x04⟩, x1, x2, x3⟩ := x
  obtain ⟨⟨y00, y01, y02, y03, y04⟩, y1, y2, y3⟩ := y
  simp [encTFind] at h
  first | exact h | simp [h] | (cases h; rfl)
@[simp] theorem ML_inj_TFind (l l' : List TFind) : ML encTFind l = ML encTFind l' ↔ l = l' := ML_inj inj_TFind
@[simp] theorem ML_getD_TFind (l : List TFind) (k : Nat) : (ML encTFind l).getD k yTFind = encTFind (l.getD k default) := ML_getD l k default
@[simp] theorem ML_get2_TFind (l : List TFind) (k : Nat) : (ML encTFind l)[k]?.getD yTFind = encTFind (l.getD k default) := by rw [← List.getD_eq_getElem?_getD]; exact ML_getD l k default
@[simp] theorem ML_snoc_TFind (l : List TFind) (a00 : Int) (a01 : Int) (a02 : Int) (a03 : Int) (a04 : Int) (a1 : Int) (a2 : Int) (a3 : Int) : ML encTFind l ++ [.agg [.lit (.int .i64 a00), .lit (.int .i64 a01), .lit (.int .i64 a02), .lit (.int .i64 a03), .lit (.int .i64 a04), .lit (.int .i64 a1), .lit (.int .i64 a2), .lit (.int .i64 a3)]] = ML encTFind (l ++ [⟨⟨a00, a01, a02, a03, a04⟩, a1, a2, a3⟩]) := ML_snoc (enc := encTFind) l ⟨⟨a00, a01, a02, a03, a04⟩, a1, a2, a3⟩
@[simp] theorem ML_cons_TFind (l : List TFind) (a00 : Int) (a01 : Int) (a02 : Int) (a03 : Int) (a04 : Int) (a1 : Int) (a2 : Int) (a3 : Int) : .agg [.lit (.int .i64 a00), .lit (.int .i64 a01), .lit (.int .i64 a02), .lit (.int .i64 a03), .lit (.int .i64 a04), .lit (.int .i64 a1), .lit (.int .i64 a2), .lit (.int .i64 a3)] :: ML encTFind l = ML encTFind (⟨⟨a00, a01, a02, a03, a04⟩, a1, a2, a3⟩ :: l) := rfl
@[simp] theorem ML_set_TFind (l : List TFind) (k : Nat) (a00 : Int) (a01 : Int) (a02 : Int) (a03 : Int) (a04 : Int) (a1 : Int) (a2 : Int) (a3 : Int) : (ML encTFind l).set k (.agg [.lit (.int .i64 a00), .lit (.int .i64 a01), .lit (.int .i64 a02), .lit (.int .i64 a03), .lit (.int .i64 a04), .lit (.int .i64 a1), .lit (.int .i64 a2), .lit (.int .i64 a3)]) = ML encTFind (l.set k ⟨⟨a00, a01, a02, a03, a04⟩, a1, a2, a3⟩) := ML_set (enc := encTFind) l k ⟨⟨a00, a01, a02, a03, a04⟩, a1, a2, a3⟩
@[simp] theorem ML_rep_TFind (n : Nat) (a00 : Int) (a01 : Int) (a02 : Int) (a03 : Int) (a04 : Int) (a1 : Int) (a2 : Int) (a3 : Int) : List.replicate n (.agg [.lit (.int .i64 a00), .lit (.int .i64 a01), .lit (.int .i64 a02), .lit (.int .i64 a03), .lit (.int .i64 a04), .lit (.int .i64 a1), .lit (.int .i64 a2), .lit (.int .i64 a3)] : D) = ML encTFind (List.replicate n ⟨⟨a00, a01, a02, a03, a04⟩, a1, a2, a3⟩) := ML_rep (enc := encTFind) n ⟨⟨a00, a01, a02, a03, a04⟩, a1, a2, a3⟩
@[simp] theorem ML_pure_TFind (l : List TFind) : puresD (ML encTFind l) = true := ML_pure (fun x => by simp [pureD, puresD]) l
@[simp] theorem ML_okS_TFind (l : List TFind) : (ML encTFind l).all okS = true := ML_all (fun x => by simp [okS, cellsD, oneD, softD, Value.oneCell']) l
@[simp] theorem ML_flat_TFind (l : List TFind) : flatDs (ML encTFind l) = true := ML_flat (fun x => by simp [flatD, flatDs]) l
structure TMark where
  Question : Int
  Answer : Int
instance : Inhabited TMark := ⟨⟨default, default⟩⟩
instance : DecidableEq TMark := fun a b => decidable_of_iff (a.Question = b.Question ∧ a.Answer = b.Answer) (by cases a; cases b; simp)
@[simp] theorem TMark_eta (x : TMark) : (⟨x.Question, x.Answer⟩ : TMark) = x := rfl
@[simp] def encTMark (x : TMark) : D := .agg [.lit (.int .i64 x.Question), .lit (.int .i64 x.Answer)]
def yTMark : D := encTMark default
def wfTMark (x : TMark) : Prop := inR .i64 x.Question ∧ inR .i64 x.Answer
@[simp] def encLTMark (x : List TMark) : D := .sl false 2 yTMark (ML encTMark x)
def yLTMark : D := encLTMark []
def wfLTMark (x : List TMark) : Prop := x.length ≤ maxLen ∧ ∀ y ∈ x, wfTMark y
theorem inj_TMark : ∀ x y : TMark, encTMark x = encTMark y → x = y := by
  intro x y h
  obtain ⟨x0, x1⟩ := x
  obtain ⟨y0, y1⟩ := y
  simp [encTMark] at h
  first | exact h | simp [h] | (cases h; rfl)
@[simp] theorem ML_inj_TMark (l l' : List TMark) : ML encTMark l = ML encTMark l' ↔ l = l' := ML_inj inj_TMark
@[simp] theorem ML_getD_TMark (l : List TMark) (k : Nat) : (ML encTMark l).getD k yTMark = encTMark (l.getD k default) := ML_getD l k default
@[simp] theorem ML_get2_TMark (l : List TMark) (k : Nat) : (ML encTMark l)[k]?.getD yTMark = encTMark (l.getD k default) := by rw [← List.getD_eq_getElem?_getD]; exact ML_getD l k default
@[simp] theorem ML_snoc_TMark (l : List TMark) (a0 : Int) (a1 : Int) : ML encTMark l ++ [.agg [.lit (.int .i64 a0), .lit (.int .i64 a1)]] = ML encTMark (l ++ [⟨a0, a1⟩]) := ML_snoc (enc := encTMark) l ⟨a0, a1⟩
@[simp] theorem ML_cons_TMark (l : List TMark) (a0 : Int) (a1 : Int) : .agg [.lit (.int .i64 a0), .lit (.int .i64 a1)] :: ML encTMark l = ML encTMark (⟨a0, a1⟩ :: l) := rfl
@[simp] theorem ML_set_TMark (l : List TMark) (k : Nat) (a0 : Int) (a1 : Int) : (ML encTMark l).set k (.agg [.lit (.int .i64 a0), .lit (.int .i64 a1)]) = ML encTMark (l.set k ⟨a0, a1⟩) := ML_set (enc := encTMark) l k ⟨a0, a1⟩
@[simp] theorem ML_rep_TMark (n : Nat) (a0 : Int) (a1 : Int) : List.replicate n (.agg [.lit (.int .i64 a0), .lit (.int .i64 a1)] : D) = ML encTMark (List.replicate n ⟨a0, a1⟩) := ML_rep (enc := encTMark) n ⟨a0, a1⟩
@[simp] theorem ML_pure_TMark (l : List TMark) : puresD (ML encTMark l) = true := ML_pure (fun x => by simp [pureD, puresD]) l
@[simp] theorem ML_okS_TMark (l : List TMark) : (ML encTMark l).all okS = true := ML_all (fun x => by simp [okS, cellsD, oneD, softD, Value.oneCell']) l
@[simp] theorem ML_flat_TMark (l : List TMark) : flatDs (ML encTMark l) = true := ML_flat (fun x => by simp [flatD, flatDs]) l
structure TSecret where
  Thing : Int
  Marks : List TMark
  Salt : Int
instance : Inhabited TSecret := ⟨⟨default, default, default⟩⟩
instance : DecidableEq TSecret := fun a b => decidable_of_iff (a.Thing = b.Thing ∧ a.Marks = b.Marks ∧ a.Salt = b.Salt) (by cases a; cases b; simp)
@[simp] theorem TSecret_eta (x : TSecret) : (⟨x.Thing, x.Marks, x.Salt⟩ : TSecret) = x := rfl
@[simp] def encTSecret (x : TSecret) : D := .agg [.lit (.int .i64 x.Thing), .sl false 2 yTMark (ML encTMark x.Marks), .lit (.int .i64 x.Salt)]
def yTSecret : D := encTSecret default
def wfTSecret (x : TSecret) : Prop := inR .i64 x.Thing ∧ wfLTMark x.Marks ∧ inR .i64 x.Salt
@[simp] def encLTSecret (x : List TSecret) : D := .sl false 3 yTSecret (ML encTSecret x)
def yLTSecret : D := encLTSecret []
def wfLTSecret (x : List TSecret) : Prop := x.length ≤ maxLen ∧ ∀ y ∈ x, wfTSecret y
theorem inj_TSecret : ∀ x y : TSecret, encTSecret x = encTSecret y → x = y := by
  intro x y h
  obtain ⟨x0, x1, x2⟩ := x
  obtain ⟨y0, y1, y2⟩ := y
  simp [encTSecret] at h
  first | exact h | simp [h] | (cases h; rfl)
@[simp] theorem ML_inj_TSecret (l l' : List TSecret) : ML encTSecret l = ML encTSecret l' ↔ l = l' := ML_inj inj_TSecret
@[simp] theorem ML_getD_TSecret (l : List TSecret) (k : Nat) : (ML encTSecret l).getD k yTSecret = encTSecret (l.getD k default) := ML_getD l k default
@[simp] theorem ML_get2_TSecret (l : List TSecret) (k : Nat) : (ML encTSecret l)[k]?.getD yTSecret = encTSecret (l.getD k default) := by rw [← List.getD_eq_getElem?_getD]; exact ML_getD l k default
@[simp] theorem ML_snoc_TSecret (l : List TSecret) (a0 : Int) (a1 : List TMark) (a2 : Int) : ML encTSecret l ++ [.agg [.lit (.int .i64 a0), .sl false 2 yTMark (ML encTMark a1), .lit (.int .i64 a2)]] = ML encTSecret (l ++ [⟨a0, a1, a2⟩]) := ML_snoc (enc := encTSecret) l ⟨a0, a1, a2⟩
@[simp] theorem ML_cons_TSecret (l : List TSecret) (a0 : Int) (a1 : List TMark) (a2 : Int) : .agg [.lit (.int .i64 a0), .sl false 2 yTMark (ML encTMark a1), .lit (.int .i64 a2)] :: ML encTSecret l = ML encTSecret (⟨a0, a1, a2⟩ :: l) := rfl
@[simp] theorem ML_set_TSecret (l : List TSecret) (k : Nat) (a0 : Int) (a1 : List TMark) (a2 : Int) : (ML encTSecret l).set k (.agg [.lit (.int .i64 a0), .sl false 2 yTMark (ML encTMark a1), .lit (.int .i64 a2)]) = ML encTSecret (l.set k ⟨a0, a1, a2⟩) := ML_set (enc := encTSecret) l k ⟨a0, a1, a2⟩
@[simp] theorem ML_rep_TSecret (n : Nat) (a0 : Int) (a1 : List TMark) (a2 : Int) : List.replicate n (.agg [.lit (.int .i64 a0), .sl false 2 yTMark (ML encTMark a1), .lit (.int .i64 a2)] : D) = ML encTSecret (List.replicate n ⟨a0, a1, a2⟩) := ML_rep (enc := encTSecret) n ⟨a0, a1, a2⟩
@[simp] theorem ML_pure_TSecret (l : List TSecret) : puresD (ML encTSecret l) = true := ML_pure (fun x => by simp [pureD, puresD]) l
@[simp] theorem ML_okS_TSecret (l : List TSecret) : (ML encTSecret l).all okS = true := ML_all (fun x => by simp [okS, cellsD, oneD, softD, Value.oneCell']) l
structure TSlot where
  Id : Int
  Size : Int
  Thing : Int
instance : Inhabited TSlot := ⟨⟨default, default, default⟩⟩
instance : DecidableEq TSlot := fun a b => decidable_of_iff (a.Id = b.Id ∧ a.Size = b.Size ∧ a.Thing = b.Thing) (by cases a; cases b; simp)
@[simp] theorem TSlot_eta (x : TSlot) : (⟨x.Id, x.Size, x.Thing⟩ : TSlot) = x := rfl
@[simp] def encTSlot (x : TSlot) : D := .agg [.lit (.int .i64 x.Id), .lit (.int .i64 x.Size), .lit (.int .i64 x.Thing)]
def yTSlot : D := encTSlot default
def wfTSlot (x : TSlot) : Prop := inR .i64 x.Id ∧ inR .i64 x.Size ∧ inR .i64 x.Thing
@[simp] def encLTSlot (x : List TSlot) : D := .sl false 3 yTSlot (ML encTSlot x)
def yLTSlot : D := encLTSlot []
def wfLTSlot (x : List TSlot) : Prop := x.length ≤ maxLen ∧ ∀ y ∈ x, wfTSlot y
theorem inj_TSlot : ∀ x y : TSlot, encTSlot x = encTSlot y → x = y := by
  intro x y h
  obtain ⟨x0, x1, x2⟩ := x
  obtain ⟨y0, y1, y2⟩ := y
  simp [encTSlot] at h
  first | exact h | simp [h] | (cases h; rfl)
@[simp] theorem ML_inj_TSlot (l l' : List TSlot) : ML encTSlot l = ML encTSlot l' ↔ l = l' := ML_inj inj_TSlot
@[simp] theorem ML_getD_TSlot (l : List TSlot) (k : Nat) : (ML encTSlot l).getD k yTSlot = encTSlot (l.getD k default) := ML_getD l k default
@[simp] theorem ML_get2_TSlot (l : List TSlot) (k : Nat) : (ML encTSlot l)[k]?.getD yTSlot = encTSlot (l.getD k default) := by rw [← List.getD_eq_getElem?_getD]; exact ML_getD l k default
@[simp] theorem ML_snoc_TSlot (l : List TSlot) (a0 : Int) (a1 : Int) (a2 : Int) : ML encTSlot l ++ [.agg [.lit (.int .i64 a0), .lit (.int .i64 a1), .lit (.int .i64 a2)]] = ML encTSlot (l ++ [⟨a0, a1, a2⟩]) := ML_snoc (enc := encTSlot) l ⟨a0, a1, a2⟩
@[simp] theorem ML_cons_TSlot (l : List TSlot) (a0 : Int) (a1 : Int) (a2 : Int) : .agg [.lit (.int .i64 a0), .lit (.int .i64 a1), .lit (.int .i64 a2)] :: ML encTSlot l = ML encTSlot (⟨a0, a1, a2⟩ :: l) := rfl
@[simp] theorem ML_set_TSlot (l : List TSlot) (k : Nat) (a0 : Int) (a1 : Int) (a2 : Int) : (ML encTSlot l).set k (.agg [.lit (.int .i64 a0), .lit (.int .i64 a1), .lit (.int .i64 a2)]) = ML encTSlot (l.set k ⟨a0, a1, a2⟩) := ML_set (enc := encTSlot) l k ⟨a0, a1, a2⟩
@[simp] theorem ML_rep_TSlot (n : Nat) (a0 : Int) (a1 : Int) (a2 : Int) : List.replicate n (.agg [.lit (.int .i64 a0), .lit (.int .i64 a1), .lit (.int .i64 a2)] : D) = ML encTSlot (List.replicate n ⟨a0, a1, a2⟩) := ML_rep (enc := encTSlot) n ⟨a0, a1, a2⟩
@[simp] theorem ML_pure_TSlot (l : List TSlot) : puresD (ML encTSlot l) = true := ML_pure (fun x => by simp [pureD, puresD]) l
@[simp] theorem ML_okS_TSlot (l : List TSlot) : (ML encTSlot l).all okS = true := ML_all (fun x => by simp [okS, cellsD, oneD, softD, Value.oneCell']) l
@[simp] theorem ML_flat_TSlot (l : List TSlot) : flatDs (ML encTSlot l) = true := ML_flat (fun x => by simp [flatD, flatDs]) l
structure TClaim where
  Id : Int
  Who : Int
  Thing : Int
  At : Int
  State : Int
instance : Inhabited TClaim := ⟨⟨default, default, default, default, default⟩⟩
instance : DecidableEq TClaim := fun a b => decidable_of_iff (a.Id = b.Id ∧ a.Who = b.Who ∧ a.Thing = b.Thing ∧ a.At = b.At ∧ a.State = b.State) (by cases a; cases b; simp)
@[simp] theorem TClaim_eta (x : TClaim) : (⟨x.Id, x.Who, x.Thing, x.At, x.State⟩ : TClaim) = x := rfl
@[simp] def encTClaim (x : TClaim) : D := .agg [.lit (.int .i64 x.Id), .lit (.int .i64 x.Who), .lit (.int .i64 x.Thing), .lit (.int .i64 x.At), .lit (.int .i64 x.State)]
def yTClaim : D := encTClaim default
def wfTClaim (x : TClaim) : Prop := inR .i64 x.Id ∧ inR .i64 x.Who ∧ inR .i64 x.Thing ∧ inR .i64 x.At ∧ inR .i64 x.State
@[simp] def encLTClaim (x : List TClaim) : D := .sl false 5 yTClaim (ML encTClaim x)
def yLTClaim : D := encLTClaim []
def wfLTClaim (x : List TClaim) : Prop := x.length ≤ maxLen ∧ ∀ y ∈ x, wfTClaim y
theorem inj_TClaim : ∀ x y : TClaim, encTClaim x = encTClaim y → x = y := by
  intro x y h
  obtain ⟨x0, x1, x2, x3, x4⟩ := x
  obtain ⟨y0, y1, y2, y3, y4⟩ := y
  simp [encTClaim] at h
  first | exact h | simp [h] | (cases h; rfl)
@[simp] theorem ML_inj_TClaim (l l' : List TClaim) : ML encTClaim l = ML encTClaim l' ↔ l = l' := ML_inj inj_TClaim
@[simp] theorem ML_getD_TClaim (l : List TClaim) (k : Nat) : (ML encTClaim l).getD k yTClaim = encTClaim (l.getD k default) := ML_getD l k default
@[simp] theorem ML_get2_TClaim (l : List TClaim) (k : Nat) : (ML encTClaim l)[k]?.getD yTClaim = encTClaim (l.getD k default) := by rw [← List.getD_eq_getElem?_getD]; exact ML_getD l k default
@[simp] theorem ML_snoc_TClaim (l : List TClaim) (a0 : Int) (a1 : Int) (a2 : Int) (a3 : Int) (a4 : Int) : ML encTClaim l ++ [.agg [.lit (.int .i64 a0), .lit (.int .i64 a1), .lit (.int .i64 a2), .lit (.int .i64 a3), .lit (.int .i64 a4)]] = ML encTClaim (l ++ [⟨a0, a1, a2, a3, a4⟩]) := ML_snoc (enc := encTClaim) l ⟨a0, a1, a2, a3, a4⟩
@[simp] theorem ML_cons_TClaim (l : List TClaim) (a0 : Int) (a1 : Int) (a2 : Int) (a3 : Int) (a4 : Int) : .agg [.lit (.int .i64 a0), .lit (.int .i64 a1), .lit (.int .i64 a2), .lit (.int .i64 a3), .lit (.int .i64 a4)] :: ML encTClaim l = ML encTClaim (⟨a0, a1, a2, a3, a4⟩ :: l) := rfl
@[simp] theorem ML_set_TClaim (l : List TClaim) (k : Nat) (a0 : Int) (a1 : Int) (a2 : Int) (a3 : Int) (a4 : Int) : (ML encTClaim l).set k (.agg [.lit (.int .i64 a0), .lit (.int .i64 a1), .lit (.int .i64 a2), .lit (.int .i64 a3), .lit (.int .i64 a4)]) = ML encTClaim (l.set k ⟨a0, a1, a2, a3, a4⟩) := ML_set (enc := encTClaim) l k ⟨a0, a1, a2, a3, a4⟩
@[simp] theorem ML_rep_TClaim (n : Nat) (a0 : Int) (a1 : Int) (a2 : Int) (a3 : Int) (a4 : Int) : List.replicate n (.agg [.lit (.int .i64 a0), .lit (.int .i64 a1), .lit (.int .i64 a2), .lit (.int .i64 a3), .lit (.int .i64 a4)] : D) = ML encTClaim (List.replicate n ⟨a0, a1, a2, a3, a4⟩) := ML_rep (enc := encTClaim) n ⟨a0, a1, a2, a3, a4⟩
@[simp] theorem ML_pure_TClaim (l : List TClaim) : puresD (ML encTClaim l) = true := ML_pure (fun x => by simp [pureD, puresD]) l
@[simp] theorem ML_okS_TClaim (l : List TClaim) : (ML encTClaim l).all okS = true := ML_all (fun x => by simp [okS, cellsD, oneD, softD, Value.oneCell']) l
@[simp] theorem ML_flat_TClaim (l : List TClaim) : flatDs (ML encTClaim l) = true := ML_flat (fun x => by simp [flatD, flatDs]) l
structure TTrial where
  Claim : Int
  Asked : Int
  Right : Int
  Wrong : Int
instance : Inhabited TTrial := ⟨⟨default, default, default, default⟩⟩
instance : DecidableEq TTrial := fun a b => decidable_of_iff (a.Claim = b.Claim ∧ a.Asked = b.Asked ∧ a.Right = b.Right ∧ a.Wrong = b.Wrong) (by cases a; cases b; simp)
@[simp] theorem TTrial_eta (x : TTrial) : (⟨x.Claim, x.Asked, x.Right, x.Wrong⟩ : TTrial) = x := rfl
@[simp] def encTTrial (x : TTrial) : D := .agg [.lit (.int .i64 x.Claim), .lit (.int .i64 x.Asked), .lit (.int .i64 x.Right), .lit (.int .i64 x.Wrong)]
def yTTrial : D := encTTrial default
def wfTTrial (x : TTrial) : Prop := inR .i64 x.Claim ∧ inR .i64 x.Asked ∧ inR .i64 x.Right ∧ inR .i64 x.Wrong
@[simp] def encLTTrial (x : List TTrial) : D := .sl false 4 yTTrial (ML encTTrial x)
def yLTTrial : D := encLTTrial []
def wfLTTrial (x : List TTrial) : Prop := x.length ≤ maxLen ∧ ∀ y ∈ x, wfTTrial y
theorem inj_TTrial : ∀ x y : TTrial, encTTrial x = encTTrial y → x = y := by
  intro x y h
  obtain ⟨x0, x1, x2, x3⟩ := x
  obtain ⟨y0, y1, y2, y3⟩ := y
  simp [encTTrial] at h
  first | exact h | simp [h] | (cases h; rfl)
@[simp] theorem ML_inj_TTrial (l l' : List TTrial) : ML encTTrial l = ML encTTrial l' ↔ l = l' := ML_inj inj_TTrial
@[simp] theorem ML_getD_TTrial (l : List TTrial) (k : Nat) : (ML encTTrial l).getD k yTTrial = encTTrial (l.getD k default) := ML_getD l k default
@[simp] theorem ML_get2_TTrial (l : List TTrial) (k : Nat) : (ML encTTrial l)[k]?.getD yTTrial = encTTrial (l.getD k default) := by rw [← List.getD_eq_getElem?_getD]; exact ML_getD l k default
@[simp] theorem ML_snoc_TTrial (l : List TTrial) (a0 : Int) (a1 : Int) (a2 : Int) (a3 : Int) : ML encTTrial l ++ [.agg [.lit (.int .i64 a0), .lit (.int .i64 a1), .lit (.int .i64 a2), .lit (.int .i64 a3)]] = ML encTTrial (l ++ [⟨a0, a1, a2, a3⟩]) := ML_snoc (enc := encTTrial) l ⟨a0, a1, a2, a3⟩
@[simp] theorem ML_cons_TTrial (l : List TTrial) (a0 : Int) (a1 : Int) (a2 : Int) (a3 : Int) : .agg [.lit (.int .i64 a0), .lit (.int .i64 a1), .lit (.int .i64 a2), .lit (.int .i64 a3)] :: ML encTTrial l = ML encTTrial (⟨a0, a1, a2, a3⟩ :: l) := rfl
@[simp] theorem ML_set_TTrial (l : List TTrial) (k : Nat) (a0 : Int) (a1 : Int) (a2 : Int) (a3 : Int) : (ML encTTrial l).set k (.agg [.lit (.int .i64 a0), .lit (.int .i64 a1), .lit (.int .i64 a2), .lit (.int .i64 a3)]) = ML encTTrial (l.set k ⟨a0, a1, a2, a3⟩) := ML_set (enc := encTTrial) l k ⟨a0, a1, a2, a3⟩
@[simp] theorem ML_rep_TTrial (n : Nat) (a0 : Int) (a1 : Int) (a2 : Int) (a3 : Int) : List.replicate n (.agg [.lit (.int .i64 a0), .lit (.int .i64 a1), .lit (.int .i64 a2), .lit (.int .i64 a3)] : D) = ML encTTrial (List.replicate n ⟨a0, a1, a2, a3⟩) := ML_rep (enc := encTTrial) n ⟨a0, a1, a2, a3⟩
@[simp] theorem ML_pure_TTrial (l : List TTrial) : puresD (ML encTTrial l) = true := ML_pure (fun x => by simp [pureD, puresD]) l
@[simp] theorem ML_okS_TTrial (l : List TTrial) : (ML encTTrial l).all okS = true := ML_all (fun x => by simp [okS, cellsD, oneD, softD, Value.oneCell']) l
@[simp] theorem ML_flat_TTrial (l : List TTrial) : flatDs (ML encTTrial l) = true := ML_flat (fun x => by simp [flatD, flatDs]) l
structure THand where
  Thing : Int
  Holder : Int
  Who : Int
  At : Int
  Seal : Int
instance : Inhabited THand := ⟨⟨default, default, default, default, default⟩⟩
instance : DecidableEq THand := fun a b => decidable_of_iff (a.Thing = b.Thing ∧ a.Holder = b.Holder ∧ a.Who = b.Who ∧ a.At = b.At ∧ a.Seal = b.Seal) (by cases a; cases b; simp)
@[simp] theorem THand_eta (x : THand) : (⟨x.Thing, x.Holder, x.Who, x.At, x.Seal⟩ : THand) = x := rfl
@[simp] def encTHand (x : THand) : D := .agg [.lit (.int .i64 x.Thing), .lit (.int .i64 x.Holder), .lit (.int .i64 x.Who), .lit (.int .i64 x.At), .lit (.int .i64 x.Seal)]
def yTHand : D := encTHand default
def wfTHand (x : THand) : Prop := inR .i64 x.Thing ∧ inR .i64 x.Holder ∧ inR .i64 x.Who ∧ inR .i64 x.At ∧ inR .i64 x.Seal
@[simp] def encLTHand (x : List THand) : D := .sl false 5 yTHand (ML encTHand x)
def yLTHand : D := encLTHand []
def wfLTHand (x : List THand) : Prop := x.length ≤ maxLen ∧ ∀ y ∈ x, wfTHand y
theorem inj_THand : ∀ x y : THand, encTHand x = encTHand y → x = y := by
  intro x y h
  obtain ⟨x0, x1, x2, x3, x4⟩ := x
  obtain ⟨y0, y1, y2, y3, y4⟩ := y
  simp [encTHand] at h
  first | exact h | simp [h] | (cases h; rfl)
@[simp] theorem ML_inj_THand (l l' : List THand) : ML encTHand l = ML encTHand l' ↔ l = l' := ML_inj inj_THand
@[simp] theorem ML_getD_THand (l : List THand) (k : Nat) : (ML encTHand l).getD k yTHand = encTHand (l.getD k default) := ML_getD l k default
@[simp] theorem ML_get2_THand (l : List THand) (k : Nat) : (ML encTHand l)[k]?.getD yTHand = encTHand (l.getD k default) := by rw [← List.getD_eq_getElem?_getD]; exact ML_getD l k default
@[simp] theorem ML_snoc_THand (l : List THand) (a0 : Int) (a1 : Int) (a2 : Int) (a3 : Int) (a4 : Int) : ML encTHand l ++ [.agg [.lit (.int .i64 a0), .lit (.int .i64 a1), .lit (.int .i64 a2), .lit (.int .i64 a3), .lit (.int .i64 a4)]] = ML encTHand (l ++ [⟨a0, a1, a2, a3, a4⟩]) := ML_snoc (enc := encTHand) l ⟨a0, a1, a2, a3, a4⟩
@[simp] theorem ML_cons_THand (l : List THand) (a0 : Int) (a1 : Int) (a2 : Int) (a3 : Int) (a4 : Int) : .agg [.lit (.int .i64 a0), .lit (.int .i64 a1), .lit (.int .i64 a2), .lit (.int .i64 a3), .lit (.int .i64 a4)] :: ML encTHand l = ML encTHand (⟨a0, a1, a2, a3, a4⟩ :: l) := rfl
@[simp] theorem ML_set_THand (l : List THand) (k : Nat) (a0 : Int) (a1 : Int) (a2 : Int) (a3 : Int) (a4 : Int) : (ML encTHand l).set k (.agg [.lit (.int .i64 a0), .lit (.int .i64 a1), .lit (.int .i64 a2), .lit (.int .i64 a3), .lit (.int .i64 a4)]) = ML encTHand (l.set k ⟨a0, a1, a2, a3, a4⟩) := ML_set (enc := encTHand) l k ⟨a0, a1, a2, a3, a4⟩
@[simp] theorem ML_rep_THand (n : Nat) (a0 : Int) (a1 : Int) (a2 : Int) (a3 : Int) (a4 : Int) : List.replicate n (.agg [.lit (.int .i64 a0), .lit (.int .i64 a1), .lit (.int .i64 a2), .lit (.int .i64 a3), .lit (.int .i64 a4)] : D) = ML encTHand (List.replicate n ⟨a0, a1, a2, a3, a4⟩) := ML_rep (enc := encTHand) n ⟨a0, a1, a2, a3, a4⟩
@[simp] theorem ML_pure_THand (l : List THand) : puresD (ML encTHand l) = true := ML_pure (fun x => by simp [pureD, puresD]) l
@[simp] theorem ML_okS_THand (l : List THand) : (ML encTHand l).all okS = true := ML_all (fun x => by simp [okS, cellsD, oneD, softD, Value.oneCell']) l
@[simp] theorem ML_flat_THand (l : List THand) : flatDs (ML encTHand l) = true := ML_flat (fun x => by simp [flatD, flatDs]) l
structure TEntry where
  From : Int
  To : Int
  Cents : Int
  At : Int
instance : Inhabited TEntry := ⟨⟨default, default, default, default⟩⟩
instance : DecidableEq TEntry := fun a b => decidable_of_iff (a.From = b.From ∧ a.To = b.To ∧ a.Cents = b.Cents ∧ a.At = b.At) (by cases a; cases b; simp)
@[simp] theorem TEntry_eta (x : TEntry) : (⟨x.From, x.To, x.Cents, x.At⟩ : TEntry) = x := rfl
@[simp] def encTEntry (x : TEntry) : D := .agg [.lit (.int .i64 x.From), .lit (.int .i64 x.To), .lit (.int .i64 x.Cents), .lit (.int .i64 x.At)]
def yTEntry : D := encTEntry default
def wfTEntry (x : TEntry) : Prop := inR .i64 x.From ∧ inR .i64 x.To ∧ inR .i64 x.Cents ∧ inR .i64 x.At
@[simp] def encLTEntry (x : List TEntry) : D := .sl false 4 yTEntry (ML encTEntry x)
def yLTEntry : D := encLTEntry []
def wfLTEntry (x : List TEntry) : Prop := x.length ≤ maxLen ∧ ∀ y ∈ x, wfTEntry y
theorem inj_TEntry : ∀ x y : TEntry, encTEntry x = encTEntry y → x = y := by
  intro x y h
  obtain ⟨x0, x1, x2, x3⟩ := x
  obtain ⟨y0, y1, y2, y3⟩ := y
  simp [encTEntry] at h
  first | exact h | simp [h] | (cases h; rfl)
@[simp] theorem ML_inj_TEntry (l l' : List TEntry) : ML encTEntry l = ML encTEntry l' ↔ l = l' := ML_inj inj_TEntry
@[simp] theorem ML_getD_TEntry (l : List TEntry) (k : Nat) : (ML encTEntry l).getD k yTEntry = encTEntry (l.getD k default) := ML_getD l k default
@[simp] theorem ML_get2_TEntry (l : List TEntry) (k : Nat) : (ML encTEntry l)[k]?.getD yTEntry = encTEntry (l.getD k default) := by rw [← List.getD_eq_getElem?_getD]; exact ML_getD l k default
@[simp] theorem ML_snoc_TEntry (l : List TEntry) (a0 : Int) (a1 : Int) (a2 : Int) (a3 : Int) : ML encTEntry l ++ [.agg [.lit (.int .i64 a0), .lit (.int .i64 a1), .lit (.int .i64 a2), .lit (.int .i64 a3)]] = ML encTEntry (l ++ [⟨a0, a1, a2, a3⟩]) := ML_snoc (enc := encTEntry) l ⟨a0, a1, a2, a3⟩
@[simp] theorem ML_cons_TEntry (l : List TEntry) (a0 : Int) (a1 : Int) (a2 : Int) (a3 : Int) : .agg [.lit (.int .i64 a0), .lit (.int .i64 a1), .lit (.int .i64 a2), .lit (.int .i64 a3)] :: ML encTEntry l = ML encTEntry (⟨a0, a1, a2, a3⟩ :: l) := rfl
@[simp] theorem ML_set_TEntry (l : List TEntry) (k : Nat) (a0 : Int) (a1 : Int) (a2 : Int) (a3 : Int) : (ML encTEntry l).set k (.agg [.lit (.int .i64 a0), .lit (.int .i64 a1), .lit (.int .i64 a2), .lit (.int .i64 a3)]) = ML encTEntry (l.set k ⟨a0, a1, a2, a3⟩) := ML_set (enc := encTEntry) l k ⟨a0, a1, a2, a3⟩
@[simp] theorem ML_rep_TEntry (n : Nat) (a0 : Int) (a1 : Int) (a2 : Int) (a3 : Int) : List.replicate n (.agg [.lit (.int .i64 a0), .lit (.int .i64 a1), .lit (.int .i64 a2), .lit (.int .i64 a3)] : D) = ML encTEntry (List.replicate n ⟨a0, a1, a2, a3⟩) := ML_rep (enc := encTEntry) n ⟨a0, a1, a2, a3⟩
@[simp] theorem ML_pure_TEntry (l : List TEntry) : puresD (ML encTEntry l) = true := ML_pure (fun x => by simp [pureD, puresD]) l
@[simp] theorem ML_okS_TEntry (l : List TEntry) : (ML encTEntry l).all okS = true := ML_all (fun x => by simp [okS, cellsD, oneD, softD, Value.oneCell']) l
@[simp] theorem ML_flat_TEntry (l : List TEntry) : flatDs (ML encTEntry l) = true := ML_flat (fun x => by simp [flatD, flatDs]) l
structure THouse where
  No : Int
  Finds : List TFind
  Secrets : List TSecret
  Slots : List TSlot
  Claims : List TClaim
  Trials : List TTrial
  Chain : List THand
  Book : List TEntry
  Now : Int
instance : Inhabited THouse := ⟨⟨default, default, default, default, default, default, default, default, default⟩⟩
instance : DecidableEq THouse := fun a b => decidable_of_iff (a.No = b.No ∧ a.Finds = b.Finds ∧ a.Secrets = b.Secrets ∧ a.Slots = b.Slots ∧ a.Claims = b.Claims ∧ a.Trials = b.Trials ∧ a.Chain = b.Chain ∧ a.Book = b.Book ∧ a.Now = b.Now) (by cases a; cases b; simp)
@[simp] theorem THouse_eta (x : THouse) : (⟨x.No, x.Finds, x.Secrets, x.Slots, x.Claims, x.Trials, x.Chain, x.Book, x.Now⟩ : THouse) = x := rfl
@[simp] def encTHouse (x : THouse) : D := .agg [.lit (.int .i64 x.No), .sl false 8 yTFind (ML encTFind x.Finds), .sl false 3 yTSecret (ML encTSecret x.Secrets), .sl false 3 yTSlot (ML encTSlot x.Slots), .sl false 5 yTClaim (ML encTClaim x.Claims), .sl false 4 yTTrial (ML encTTrial x.Trials), .sl false 5 yTHand (ML encTHand x.Chain), .sl false 4 yTEntry (ML encTEntry x.Book), .lit (.int .i64 x.Now)]
def yTHouse : D := encTHouse default
def wfTHouse (x : THouse) : Prop := inR .i64 x.No ∧ wfLTFind x.Finds ∧ wfLTSecret x.Secrets ∧ wfLTSlot x.Slots ∧ wfLTClaim x.Claims ∧ wfLTTrial x.Trials ∧ wfLTHand x.Chain ∧ wfLTEntry x.Book ∧ inR .i64 x.Now
@[simp] def encLI (x : List Int) : D := .sl false 1 (.lit (.int .i64 0)) (ML dI x)
def yLI : D := encLI []
def wfLI (x : List Int) : Prop := x.length ≤ maxLen ∧ ∀ y ∈ x, inR .i64 y
theorem inj_I : ∀ x y : Int, dI x = dI y → x = y := by
  intro x y h
  simp [dI] at h
  first | exact h | simp [h] | (cases h; rfl)
@[simp] theorem ML_inj_I (l l' : List Int) : ML dI l = ML dI l' ↔ l = l' := ML_inj inj_I
@[simp] theorem ML_getD_I (l : List Int) (k : Nat) : (ML dI l).getD k (.lit (.int .i64 0)) = dI (l.getD k 0) := ML_getD l k 0
@[simp] theorem ML_get2_I (l : List Int) (k : Nat) : (ML dI l)[k]?.getD (.lit (.int .i64 0)) = dI (l.getD k 0) := by rw [← List.getD_eq_getElem?_getD]; exact ML_getD l k 0
@[simp] theorem ML_snoc_I (l : List Int) (a : Int) : ML dI l ++ [.lit (.int .i64 a)] = ML dI (l ++ [a]) := ML_snoc (enc := dI) l a
@[simp] theorem ML_cons_I (l : List Int) (a : Int) : .lit (.int .i64 a) :: ML dI l = ML dI (a :: l) := rfl
@[simp] theorem ML_set_I (l : List Int) (k : Nat) (a : Int) : (ML dI l).set k (.lit (.int .i64 a)) = ML dI (l.set k a) := ML_set (enc := dI) l k a
@[simp] theorem ML_rep_I (n : Nat) (a : Int) : List.replicate n (.lit (.int .i64 a) : D) = ML dI (List.replicate n a) := ML_rep (enc := dI) n a
@[simp] theorem ML_pure_I (l : List Int) : puresD (ML dI l) = true := ML_pure (fun x => by simp [pureD, puresD]) l
@[simp] theorem ML_okS_I (l : List Int) : (ML dI l).all okS = true := ML_all (fun x => by simp [okS, cellsD, oneD, softD, Value.oneCell']) l
@[simp] theorem ML_flat_I (l : List Int) : flatDs (ML dI l) = true := ML_flat (fun x => by simp [flatD, flatDs]) l
@[simp] def encLLI (x : List (List Int)) : D := .sl false 1 yLI (ML encLI x)
def yLLI : D := encLLI []
def wfLLI (x : List (List Int)) : Prop := x.length ≤ maxLen ∧ ∀ y ∈ x, wfLI y
theorem inj_LI : ∀ x y : List Int, encLI x = encLI y → x = y := by
  intro x y h
  simp [encLI] at h
  first | exact h | simp [h] | (cases h; rfl)
@[simp] theorem ML_inj_LI (l l' : List (List Int)) : ML encLI l = ML encLI l' ↔ l = l' := ML_inj inj_LI
@[simp] theorem ML_getD_LI (l : List (List Int)) (k : Nat) : (ML encLI l).getD k yLI = encLI (l.getD k []) := ML_getD l k []
@[simp] theorem ML_get2_LI (l : List (List Int)) (k : Nat) : (ML encLI l)[k]?.getD yLI = encLI (l.getD k []) := by rw [← List.getD_eq_getElem?_getD]; exact ML_getD l k []
@[simp] theorem ML_snoc_LI (l : List (List Int)) (a : List Int) : ML encLI l ++ [.sl false 1 (.lit (.int .i64 0)) (ML dI a)] = ML encLI (l ++ [a]) := ML_snoc (enc := encLI) l a
@[simp] theorem ML_cons_LI (l : List (List Int)) (a : List Int) : .sl false 1 (.lit (.int .i64 0)) (ML dI a) :: ML encLI l = ML encLI (a :: l) := rfl
@[simp] theorem ML_set_LI (l : List (List Int)) (k : Nat) (a : List Int) : (ML encLI l).set k (.sl false 1 (.lit (.int .i64 0)) (ML dI a)) = ML encLI (l.set k a) := ML_set (enc := encLI) l k a
@[simp] theorem ML_rep_LI (n : Nat) (a : List Int) : List.replicate n (.sl false 1 (.lit (.int .i64 0)) (ML dI a) : D) = ML encLI (List.replicate n a) := ML_rep (enc := encLI) n a
@[simp] theorem ML_pure_LI (l : List (List Int)) : puresD (ML encLI l) = true := ML_pure (fun x => by simp [pureD, puresD, ML_pure_I]) l
@[simp] theorem ML_okS_LI (l : List (List Int)) : (ML encLI l).all okS = true := ML_all (fun x => by simp [okS, cellsD, oneD, softD, Value.oneCell']) l
end Go.Proofs.Ytnncheloiiannaa
