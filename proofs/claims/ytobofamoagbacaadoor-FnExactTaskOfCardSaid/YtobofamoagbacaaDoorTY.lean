/- The data of this program as Lean types, and how they are held. -/
import Derived.Test.YtobofamoagbacaaDoorEngB
namespace Go.Proofs.YtobofamoagbacaaDoor
open Go Go.Eng
set_option linter.unusedSimpArgs false
set_option linter.unusedVariables false
/-- what the package variables hold -/
def glD : Nat → D
  | 0 => .el (.agg [.lit (.int .i64 0), .lit (.int .i64 90), .lit (.int .i64 90), .lit (.int .i64 90), .lit (.int .i64 180), .lit (.int .i64 180), .lit (.int .i64 90), .lit (.int .i64 1), .lit (.int .i64 90)])
  | _ => .any
instance : HasG := ⟨glD⟩
@[simp] theorem gl_0 : HasG.gl 0 = .el (.agg [.lit (.int .i64 0), .lit (.int .i64 90), .lit (.int .i64 90), .lit (.int .i64 90), .lit (.int .i64 180), .lit (.int .i64 180), .lit (.int .i64 90), .lit (.int .i64 1), .lit (.int .i64 90)]) := rfl
@[simp] theorem gl_1 : HasG.gl 1 = .any := rfl
@[simp] theorem gl_2 : HasG.gl 2 = .any := rfl
@[simp] theorem gl_3 : HasG.gl 3 = .any := rfl
@[simp] theorem gl_4 : HasG.gl 4 = .any := rfl
@[simp] theorem gl_5 : HasG.gl 5 = .any := rfl
@[simp] theorem gl_6 : HasG.gl 6 = .any := rfl
@[simp] theorem gl_7 : HasG.gl 7 = .any := rfl
@[simp] theorem gl_8 : HasG.gl 8 = .any := rfl
structure TThing where
  Id : Int
  Kind : Int
  Colour : Int
  Size : Int
  Worth : Int
instance : Inhabited TThing := ⟨⟨default, default, default, default, default⟩⟩
instance : DecidableEq TThing := fun a b => decidable_of_iff (a.Id = b.Id ∧ a.Kind = b.Kind ∧ a.Colour = b.Colour ∧ a.Size = b.Size ∧ a.Worth = b.Worth) (by cases a; cases b; simp)
@[simp] theorem TThing_eta (x : TThing) : (⟨x.Id, x.Kind, x.Colour, x.Size, x.Worth⟩ : TThing) = x := rfl
@[simp] def encTThing (x : TThing) : D := .agg [.lit (.int .i64 x.Id), .lit (.int .i64 x.Kind), .lit (.int .i64 x.Colour), .lit (.int .i64 x.Size), .lit (.int .i64 x.Worth)]
def yTThing : D := encTThing default
def wfTThing (x : TThing) : Prop := inR .i64 x.Id ∧ inR .i64 x.Kind ∧ inR .i64 x.Colour ∧ inR .i64 x.Size ∧ inR .i64 x.Worth
structure TFind where
  Thing : TThing
  Place : Int
  At : Int
  Finder : Int
instance : Inhabited TFind := ⟨⟨default, default, default, default⟩⟩
instance : DecidableEq TFind := fun a b => decidable_of_iff (a.Thing = b.Thing ∧ a.Place = b.Place ∧ a.At = b.At ∧ a.Finder = b.Finder) (by cases a; cases b; simp)
@[simp] theorem TFind_eta (x : TFind) : (⟨x.Thing, x.Place, x.At, x.Finder⟩ : TFind) = x := rfl
@[simp] def encTFind (x : TFind) : D := .agg [.lit (.int .i64 x.Thing.Id), .lit (.int .i64 x.Thing.Kind), .lit (.int .i64 x.Thing.Colour), .lit (.int .i64 x.Thing.Size), .lit (.int .i64 x.Thing.Worth), .lit (.int .i64 x.Place), .lit (.int .i64 x.At), .lit (.int .i64 x.Finder)]
def yTFind : D := encTFind default
def wfTFind (x : TFind) : Prop := wfTThing x.Thing ∧ inR .i64 x.Place ∧ inR .i64 x.At ∧ inR .i64 x.Finder
@[simp] def encLTFind (x : List TFind) : D := .sl false 8 yTFind (ML encTFind x)
def yLTFind : D := encLTFind []
def wfLTFind (x : List TFind) : Prop := x.length ≤ maxLen ∧ ∀ y ∈ x, wfTFind y
theorem inj_TFind : ∀ x y : TFind, encTFind x = encTFind y → x = y := by
  intro x y h
  obtain ⟨⟨x00, x01, x02, x03, x04⟩, x1, x2, x3⟩ := x
  obtain ⟨⟨y00, y01, y02, y03, y04⟩, y1, y2, y3⟩ := y
  simp [encTFind] at h
  first | exact h | simp [h] | (cases h; rfl)
@[simp] theorem ML_inj_TFind (l l' : List TFind) : ML encTFind l = ML encTFind l' ↔ l = l' := ML_inj inj_TFind
@[simp] theorem ML_getD_TFind (l : List TFind) (k : Nat) : (ML encTFind l).getD k yTFind = encTFind (l.getD k default) := ML_getD l k default
@[simp] theorem ML_get2_TFind (l : List TFind) (k : Nat) : (ML encTFind l)[k]?.getD yTFind = encTFind (l.getD k default) := by rw [← List.getD_eq_getElem?_getD]; exact ML_getD l k default
@[simp] theorem ML_snoc_TFind (l : List TFind) (a00 : Int) (a01 : Int) (a02 : Int) (a03 : Int) (a04 : Int) (a1 : Int) (a2 : Int) (a3 : Int) : ML encTFind l ++ [.agg [.lit (.int .i64 a00), .lit (.int .i64 a01), .lit (.int .i64 a02), .lit (.int .i64 a03), .lit (.int .i64 a04), .lit (.int .i64 a1), .lit (.int .i64 a2), .lit (.int .i64 a3)]] = ML encTFind (l ++ [⟨⟨a00, a01, a02, a03, a04⟩, a1, a2, a3⟩]) := ML_snoc (enc := encTFind) l ⟨⟨a00, a01, a02, a03, a04⟩, a1, a2, a3⟩
@[simp] theorem ML_cons_TFind (l : List TFind) (a00 : Int) (a01 : Int) (a02 : Int) (a03 : Int) (a04 : Int) (a1 : Int) (a2 : Int) (a3 : Int) : .agg [.lit (.int .i64 a00), .lit (.int .i64 a01), .lit (.int .i64 a02), .lit (.int .i64 a03), .lit (.int .i64 a04), .lit (.int .i64 a1), .lit (.int .i64 a2), .lit (.int .i64 a3)] :: ML encTFind l = ML encTFind (⟨⟨a00, a01, a02, a03, a04⟩, a1, a2, a3⟩ :: l) := rfl
@[simp] theorem ML_set_TFind (l : List TFind) (k : Nat) (a00 : Int) (a01 : Int) (a02 : Int) (a03 : Int) (a04 : Int) (a1 : Int) (a2 : Int) (a3 : Int) : (ML encTFind l).set k (.agg [.lit (.int .i64 a00), .lit (.int .i64 a01), .lit (.int .i64 a02), .lit (.int .i64 a03), .lit (.int .i64 a04), .lit (.int .i64 a1), .lit (.int .i64 a2), .lit (.int .i64 a3)]) = ML encTFind (l.set k ⟨⟨a00, a01, a02, a03, a04⟩, a1, a2, a3⟩) := ML_set (enc := encTFind) l k ⟨⟨a00, a01, a02, a03, a04⟩, a1, a2, a3⟩
@[simp] theorem ML_rep_TFind (n : Nat) (a00 : Int) (a01 : Int) (a02 : Int) (a03 : Int) (a04 : Int) (a1 : Int) (a2 : Int) (a3 : Int) : List.replicate n (.agg [.lit (.int .i64 a00), .lit (.int .i64 a01), .lit (.int .i64 a02), .lit (.int .i64 a03), .lit (.int .i64 a04), .lit (.int .i64 a1), .lit (.int .i64 a2), .lit (.int .i64 a3)] : D) = ML encTFind (List.replicate n ⟨⟨a00, a01, a02, a03, a04⟩, a1, a2, a3⟩) := ML_rep (enc := encTFind) n ⟨⟨a00, a01, a02, a03, a04⟩, a1, a2, a3⟩
@[simp] theorem ML_pure_TFind (l : List TFind) : puresD (ML encTFind l) = true := ML_pure (fun x => by simp [pureD, puresD]) l
@[simp] theorem ML_flat_TFind (l : List TFind) : flatDs (ML encTFind l) = true := ML_flat (fun x => by simp [flatD, flatDs]) l
@[simp] def encLI (x : List Int) : D := .sl false 1 (.lit (.int .i64 0)) (ML dI x)
def yLI : D := encLI []
def wfLI (x : List Int) : Prop := x.length ≤ maxLen ∧ ∀ y ∈ x, inR .i64 y
theorem inj_I : ∀ x y : Int, dI x = dI y → x = y := by
  intro x y h
  simp [dI] at h
  first | exact h | simp [h] | (cases h; rfl)
@[simp] theorem ML_inj_I (l l' : List Int) : ML dI l = ML dI l' ↔ l = l' := ML_inj inj_I
@[simp] theorem ML_getD_I (l : List Int) (k : Nat) : (ML dI l).getD k (.lit (.int .i64 0)) = dI (l.getD k 0) := ML_getD l k 0
@[simp] theorem ML_get2_I (l : List Int) (k : Nat) : (ML dI l)[k]?.getD (.lit (.int .i64 0)) = dI (l.getD k 0) := by rw [← List.getD_eq_getElem?_getD]; exact ML_getD l k 0
@[simp] theorem ML_snoc_I (l : List Int) (a : Int) : ML dI l ++ [.lit (.int .i64 a)] = ML dI (l ++ [a]) := ML_snoc (enc := dI) l a
@[simp] theorem ML_cons_I (l : List Int) (a : Int) : .lit (.int .i64 a) :: ML dI l = ML dI (a :: l) := rfl
@[simp] theorem ML_set_I (l : List Int) (k : Nat) (a : Int) : (ML dI l).set k (.lit (.int .i64 a)) = ML dI (l.set k a) := ML_set (enc := dI) l k a
@[simp] theorem ML_rep_I (n : Nat) (a : Int) : List.replicate n (.lit (.int .i64 a) : D) = ML dI (List.replicate n a) := ML_rep (enc := dI) n a
@[simp] theorem ML_pure_I (l : List Int) : puresD (ML dI l) = true := ML_pure (fun x => by simp [pureD, puresD]) l
@[simp] theorem ML_flat_I (l : List Int) : flatDs (ML dI l) = true := ML_flat (fun x => by simp [flatD, flatDs]) l
structure TClaim where
  Id : Int
  Who : Int
  Thing : Int
  At : Int
  State : Int
instance : Inhabited TClaim := ⟨⟨default, default, default, default, default⟩⟩
instance : DecidableEq TClaim := fun a b => decidable_of_iff (a.Id = b.Id ∧ a.Who = b.Who ∧ a.Thing = b.Thing ∧ a.At = b.At ∧ a.State = b.State) (by cases a; cases b; simp)
@[simp] theorem TClaim_eta (x : TClaim) : (⟨x.Id, x.Who, x.Thing, x.At, x.State⟩ : TClaim) = x := rfl
@[simp] def encTClaim (x : TClaim) : D := .agg [.lit (.int .i64 x.Id), .lit (.int .i64 x.Who), .lit (.int .i64 x.Thing), .lit (.int .i64 x.At), .lit (.int .i64 x.State)]
def yTClaim : D := encTClaim default
def wfTClaim (x : TClaim) : Prop := inR .i64 x.Id ∧ inR .i64 x.Who ∧ inR .i64 x.Thing ∧ inR .i64 x.At ∧ inR .i64 x.State
@[simp] def encLTClaim (x : List TClaim) : D := .sl false 5 yTClaim (ML encTClaim x)
def yLTClaim : D := encLTClaim []
def wfLTClaim (x : List TClaim) : Prop := x.length ≤ maxLen ∧ ∀ y ∈ x, wfTClaim y
theorem inj_TClaim : ∀ x y : TClaim, encTClaim x = encTClaim y → x = y := by
  intro x y h
  obtain ⟨x0, x1, x2, x3, x4⟩ := x
  obtain ⟨y0, y1, y2, y3, y4⟩ := y
  simp [encTClaim] at h
  first | exact h | simp [h] | (cases h; rfl)
@[simp] theorem ML_inj_TClaim (l l' : List TClaim) : ML encTClaim l = ML encTClaim l' ↔ l = l' := ML_inj inj_TClaim
@[simp] theorem ML_getD_TClaim (l : List TClaim) (k : Nat) : (ML encTClaim l).getD k yTClaim = encTClaim (l.getD k default) := ML_getD l k default
@[simp] theorem ML_get2_TClaim (l : List TClaim) (k : Nat) : (ML encTClaim l)[k]?.getD yTClaim = encTClaim (l.getD k default) := by rw [← List.getD_eq_getElem?_getD]; exact ML_getD l k default
@[simp] theorem ML_snoc_TClaim (l : List TClaim) (a0 : Int) (a1 : Int) (a2 : Int) (a3 : Int) (a4 : Int) : ML encTClaim l ++ [.agg [.lit (.int .i64 a0), .lit (.int .i64 a1), .lit (.int .i64 a2), .lit (.int .i64 a3), .lit (.int .i64 a4)]] = ML encTClaim (l ++ [⟨a0, a1, a2, a3, a4⟩]) := ML_snoc (enc := encTClaim) l ⟨a0, a1, a2, a3, a4⟩
@[simp] theorem ML_cons_TClaim (l : List TClaim) (a0 : Int) (a1 : Int) (a2 : Int) (a3 : Int) (a4 : Int) : .agg [.lit (.int .i64 a0), .lit (.int .i64 a1), .lit (.int .i64 a2), .lit (.int .i64 a3), .lit (.int .i64 a4)] :: ML encTClaim l = ML encTClaim (⟨a0, a1, a2, a3, a4⟩ :: l) := rfl
@[simp] theorem ML_set_TClaim (l : List TClaim) (k : Nat) (a0 : Int) (a1 : Int) (a2 : Int) (a3 : Int) (a4 : Int) : (ML encTClaim l).set k (.agg [.lit (.int .i64 a0), .lit (.int .i64 a1), .lit (.int .i64 a2), .lit (.int .i64 a3), .lit (.int .i64 a4)]) = ML encTClaim (l.set k ⟨a0, a1, a2, a3, a4⟩) := ML_set (enc := encTClaim) l k ⟨a0, a1, a2, a3, a4⟩
@[simp] theorem ML_rep_TClaim (n : Nat) (a0 : Int) (a1 : Int) (a2 : Int) (a3 : Int) (a4 : Int) : List.replicate n (.agg [.lit (.int .i64 a0), .lit (.int .i64 a1), .lit (.int .i64 a2), .lit (.int .i64 a3), .lit (.int .i64 a4)] : D) = ML encTClaim (List.replicate n ⟨a0, a1, a2, a3, a4⟩) := ML_rep (enc := encTClaim) n ⟨a0, a1, a2, a3, a4⟩
@[simp] theorem ML_pure_TClaim (l : List TClaim) : puresD (ML encTClaim l) = true := ML_pure (fun x => by simp [pureD, puresD]) l
@[simp] theorem ML_flat_TClaim (l : List TClaim) : flatDs (ML encTClaim l) = true := ML_flat (fun x => by simp [flatD, flatDs]) l
@[simp] def encLB (x : List Bool) : D := .sl false 1 (.lit (.bool false)) (ML dB x)
def yLB : D := encLB []
def wfLB (x : List Bool) : Prop := x.length ≤ maxLen ∧ True
theorem inj_B : ∀ x y : Bool, dB x = dB y → x = y := by
  intro x y h
  simp [dI] at h
  first | exact h | simp [h] | (cases h; rfl)
@[simp] theorem ML_inj_B (l l' : List Bool) : ML dB l = ML dB l' ↔ l = l' := ML_inj inj_B
@[simp] theorem ML_getD_B (l : List Bool) (k : Nat) : (ML dB l).getD k (.lit (.bool false)) = dB (l.getD k false) := ML_getD l k false
@[simp] theorem ML_get2_B (l : List Bool) (k : Nat) : (ML dB l)[k]?.getD (.lit (.bool false)) = dB (l.getD k false) := by rw [← List.getD_eq_getElem?_getD]; exact ML_getD l k false
@[simp] theorem ML_snoc_B (l : List Bool) (a : Bool) : ML dB l ++ [.lit (.bool a)] = ML dB (l ++ [a]) := ML_snoc (enc := dB) l a
@[simp] theorem ML_cons_B (l : List Bool) (a : Bool) : .lit (.bool a) :: ML dB l = ML dB (a :: l) := rfl
@[simp] theorem ML_set_B (l : List Bool) (k : Nat) (a : Bool) : (ML dB l).set k (.lit (.bool a)) = ML dB (l.set k a) := ML_set (enc := dB) l k a
@[simp] theorem ML_rep_B (n : Nat) (a : Bool) : List.replicate n (.lit (.bool a) : D) = ML dB (List.replicate n a) := ML_rep (enc := dB) n a
@[simp] theorem ML_pure_B (l : List Bool) : puresD (ML dB l) = true := ML_pure (fun x => by simp [pureD, puresD]) l
@[simp] theorem ML_flat_B (l : List Bool) : flatDs (ML dB l) = true := ML_flat (fun x => by simp [flatD, flatDs]) l
structure TTask where
  Thing : Int
  Fate : Int
  Day : Int
instance : Inhabited TTask := ⟨⟨default, default, default⟩⟩
instance : DecidableEq TTask := fun a b => decidable_of_iff (a.Thing = b.Thing ∧ a.Fate = b.Fate ∧ a.Day = b.Day) (by cases a; cases b; simp)
@[simp] theorem TTask_eta (x : TTask) : (⟨x.Thing, x.Fate, x.Day⟩ : TTask) = x := rfl
@[simp] def encTTask (x : TTask) : D := .agg [.lit (.int .i64 x.Thing), .lit (.int .i64 x.Fate), .lit (.int .i64 x.Day)]
def yTTask : D := encTTask default
def wfTTask (x : TTask) : Prop := inR .i64 x.Thing ∧ inR .i64 x.Fate ∧ inR .i64 x.Day
structure TMark where
  Question : Int
  Answer : Int
instance : Inhabited TMark := ⟨⟨default, default⟩⟩
instance : DecidableEq TMark := fun a b => decidable_of_iff (a.Question = b.Question ∧ a.Answer = b.Answer) (by cases a; cases b; simp)
@[simp] theorem TMark_eta (x : TMark) : (⟨x.Question, x.Answer⟩ : TMark) = x := rfl
@[simp] def encTMark (x : TMark) : D := .agg [.lit (.int .i64 x.Question), .lit (.int .i64 x.Answer)]
def yTMark : D := encTMark default
def wfTMark (x : TMark) : Prop := inR .i64 x.Question ∧ inR .i64 x.Answer
@[simp] def encLTMark (x : List TMark) : D := .sl false 2 yTMark (ML encTMark x)
def yLTMark : D := encLTMark []
def wfLTMark (x : List TMark) : Prop := x.length ≤ maxLen ∧ ∀ y ∈ x, wfTMark y
theorem inj_TMark : ∀ x y : TMark, encTMark x = encTMark y → x = y := by
  intro x y h
  obtain ⟨x0, x1⟩ := x
  obtain ⟨y0, y1⟩ := y
  simp [encTMark] at h
  first | exact h | simp [h] | (cases h; rfl)
@[simp] theorem ML_inj_TMark (l l' : List TMark) : ML encTMark l = ML encTMark l' ↔ l = l' := ML_inj inj_TMark
@[simp] theorem ML_getD_TMark (l : List TMark) (k : Nat) : (ML encTMark l).getD k yTMark = encTMark (l.getD k default) := ML_getD l k default
@[simp] theorem ML_get2_TMark (l : List TMark) (k : Nat) : (ML encTMark l)[k]?.getD yTMark = encTMark (l.getD k default) := by rw [← List.getD_eq_getElem?_getD]; exact ML_getD l k default
@[simp] theorem ML_snoc_TMark (l : List TMark) (a0 : Int) (a1 : Int) : ML encTMark l ++ [.agg [.lit (.int .i64 a0), .lit (.int .i64 a1)]] = ML encTMark (l ++ [⟨a0, a1⟩]) := ML_snoc (enc := encTMark) l ⟨a0, a1⟩
@[simp] theorem ML_cons_TMark (l : List TMark) (a0 : Int) (a1 : Int) : .agg [.lit (.int .i64 a0), .lit (.int .i64 a1)] :: ML encTMark l = ML encTMark (⟨a0, a1⟩ :: l) := rfl
@[simp] theorem ML_set_TMark (l : List TMark) (k : Nat) (a0 : Int) (a1 : Int) : (ML encTMark l).set k (.agg [.lit (.int .i64 a0), .lit (.int .i64 a1)]) = ML encTMark (l.set k ⟨a0, a1⟩) := ML_set (enc := encTMark) l k ⟨a0, a1⟩
@[simp] theorem ML_rep_TMark (n : Nat) (a0 : Int) (a1 : Int) : List.replicate n (.agg [.lit (.int .i64 a0), .lit (.int .i64 a1)] : D) = ML encTMark (List.replicate n ⟨a0, a1⟩) := ML_rep (enc := encTMark) n ⟨a0, a1⟩
@[simp] theorem ML_pure_TMark (l : List TMark) : puresD (ML encTMark l) = true := ML_pure (fun x => by simp [pureD, puresD]) l
@[simp] theorem ML_flat_TMark (l : List TMark) : flatDs (ML encTMark l) = true := ML_flat (fun x => by simp [flatD, flatDs]) l
structure TSecret where
  Thing : Int
  Marks : List TMark
  Salt : Int
instance : Inhabited TSecret := ⟨⟨default, default, default⟩⟩
instance : DecidableEq TSecret := fun a b => decidable_of_iff (a.Thing = b.Thing ∧ a.Marks = b.Marks ∧ a.Salt = b.Salt) (by cases a; cases b; simp)
@[simp] theorem TSecret_eta (x : TSecret) : (⟨x.Thing, x.Marks, x.Salt⟩ : TSecret) = x := rfl
@[simp] def encTSecret (x : TSecret) : D := .agg [.lit (.int .i64 x.Thing), .sl false 2 yTMark (ML encTMark x.Marks), .lit (.int .i64 x.Salt)]
def yTSecret : D := encTSecret default
def wfTSecret (x : TSecret) : Prop := inR .i64 x.Thing ∧ wfLTMark x.Marks ∧ inR .i64 x.Salt
@[simp] def encLTSecret (x : List TSecret) : D := .sl false 3 yTSecret (ML encTSecret x)
def yLTSecret : D := encLTSecret []
def wfLTSecret (x : List TSecret) : Prop := x.length ≤ maxLen ∧ ∀ y ∈ x, wfTSecret y
theorem inj_TSecret : ∀ x y : TSecret, encTSecret x = encTSecret y → x = y := by
  intro x y h
  obtain ⟨x0, x1, x2⟩ := x
  obtain ⟨y0, y1, y2⟩ := y
  simp [encTSecret] at h
  first | exact h | simp [h] | (cases h; rfl)
@[simp] theorem ML_inj_TSecret (l l' : List TSecret) : ML encTSecret l = ML encTSecret l' ↔ l = l' := ML_inj inj_TSecret
@[simp] theorem ML_getD_TSecret (l : List TSecret) (k : Nat) : (ML encTSecret l).getD k yTSecret = encTSecret (l.getD k default) := ML_getD l k default
@[simp] theorem ML_get2_TSecret (l : List TSecret) (k : Nat) : (ML encTSecret l)[k]?.getD yTSecret = encTSecret (l.getD k default) := by rw [← List.getD_eq_getElem?_getD]; exact ML_getD l k default
@[simp] theorem ML_snoc_TSecret (l : List TSecret) (a0 : Int) (a1 : List TMark) (a2 : Int) : ML encTSecret l ++ [.agg [.lit (.int .i64 a0), .sl false 2 yTMark (ML encTMark a1), .lit (.int .i64 a2)]] = ML encTSecret (l ++ [⟨a0, a1, a2⟩]) := ML_snoc (enc := encTSecret) l ⟨a0, a1, a2⟩
@[simp] theorem ML_cons_TSecret (l : List TSecret) (a0 : Int) (a1 : List TMark) (a2 : Int) : .agg [.lit (.int .i64 a0), .sl false 2 yTMark (ML encTMark a1), .lit (.int .i64 a2)] :: ML encTSecret l = ML encTSecret (⟨a0, a1, a2⟩ :: l) := rfl
@[simp] theorem ML_set_TSecret (l : List TSecret) (k : Nat) (a0 : Int) (a1 : List TMark) (a2 : Int) : (ML encTSecret l).set k (.agg [.lit (.int .i64 a0), .sl false 2 yTMark (ML encTMark a1), .lit (.int .i64 a2)]) = ML encTSecret (l.set k ⟨a0, a1, a2⟩) := ML_set (enc := encTSecret) l k ⟨a0, a1, a2⟩
@[simp] theorem ML_rep_TSecret (n : Nat) (a0 : Int) (a1 : List TMark) (a2 : Int) : List.replicate n (.agg [.lit (.int .i64 a0), .sl false 2 yTMark (ML encTMark a1), .lit (.int .i64 a2)] : D) = ML encTSecret (List.replicate n ⟨a0, a1, a2⟩) := ML_rep (enc := encTSecret) n ⟨a0, a1, a2⟩
@[simp] theorem ML_pure_TSecret (l : List TSecret) : puresD (ML encTSecret l) = true := ML_pure (fun x => by simp [pureD, puresD]) l
structure TSealedSecret where
  Secret : TSecret
instance : Inhabited TSealedSecret := ⟨⟨default⟩⟩
instance : DecidableEq TSealedSecret := fun a b => decidable_of_iff (a.Secret = b.Secret) (by cases a; cases b; simp)
@[simp] theorem TSealedSecret_eta (x : TSealedSecret) : (⟨x.Secret⟩ : TSealedSecret) = x := rfl
@[simp] def encTSealedSecret (x : TSealedSecret) : D := .agg [.lit (.int .i64 x.Secret.Thing), .sl false 2 yTMark (ML encTMark x.Secret.Marks), .lit (.int .i64 x.Secret.Salt)]
def yTSealedSecret : D := encTSealedSecret default
def wfTSealedSecret (x : TSealedSecret) : Prop := wfTSecret x.Secret
structure TValueError where
  Method : ByteArray
  Kind : Int
instance : Inhabited TValueError := ⟨⟨default, default⟩⟩
instance : DecidableEq TValueError := fun a b => decidable_of_iff (a.Method = b.Method ∧ a.Kind = b.Kind) (by cases a; cases b; simp)
@[simp] theorem TValueError_eta (x : TValueError) : (⟨x.Method, x.Kind⟩ : TValueError) = x := rfl
@[simp] def encTValueError (x : TValueError) : D := .agg [.lit (.string x.Method), .lit (.int .u8 x.Kind)]
def yTValueError : D := encTValueError default
def wfTValueError (x : TValueError) : Prop := x.Method.size ≤ maxLen ∧ inR .u8 x.Kind
structure TErrorString where
  s_ : ByteArray
instance : Inhabited TErrorString := ⟨⟨default⟩⟩
instance : DecidableEq TErrorString := fun a b => decidable_of_iff (a.s_ = b.s_) (by cases a; cases b; simp)
@[simp] theorem TErrorString_eta (x : TErrorString) : (⟨x.s_⟩ : TErrorString) = x := rfl
@[simp] def encTErrorString (x : TErrorString) : D := .agg [.lit (.string x.s_)]
def yTErrorString : D := encTErrorString default
def wfTErrorString (x : TErrorString) : Prop := x.s_.size ≤ maxLen
structure TLikeness where
  kind_ : Int
  colour_ : Int
  size_ : Int
  place_ : Int
instance : Inhabited TLikeness := ⟨⟨default, default, default, default⟩⟩
instance : DecidableEq TLikeness := fun a b => decidable_of_iff (a.kind_ = b.kind_ ∧ a.colour_ = b.colour_ ∧ a.size_ = b.size_ ∧ a.place_ = b.place_) (by cases a; cases b; simp)
@[simp] theorem TLikeness_eta (x : TLikeness) : (⟨x.kind_, x.colour_, x.size_, x.place_⟩ : TLikeness) = x := rfl
@[simp] def encTLikeness (x : TLikeness) : D := .agg [.lit (.int .i64 x.kind_), .lit (.int .i64 x.colour_), .lit (.int .i64 x.size_), .lit (.int .i64 x.place_)]
def yTLikeness : D := encTLikeness default
def wfTLikeness (x : TLikeness) : Prop := inR .i64 x.kind_ ∧ inR .i64 x.colour_ ∧ inR .i64 x.size_ ∧ inR .i64 x.place_
structure TUncommonType where
  PkgPath : Int
  Mcount : Int
  Xcount : Int
  Moff : Int
  __ : Int
instance : Inhabited TUncommonType := ⟨⟨default, default, default, default, default⟩⟩
instance : DecidableEq TUncommonType := fun a b => decidable_of_iff (a.PkgPath = b.PkgPath ∧ a.Mcount = b.Mcount ∧ a.Xcount = b.Xcount ∧ a.Moff = b.Moff ∧ a.__ = b.__) (by cases a; cases b; simp)
@[simp] theorem TUncommonType_eta (x : TUncommonType) : (⟨x.PkgPath, x.Mcount, x.Xcount, x.Moff, x.__⟩ : TUncommonType) = x := rfl
@[simp] def encTUncommonType (x : TUncommonType) : D := .agg [.lit (.int .i32 x.PkgPath), .lit (.int .u16 x.Mcount), .lit (.int .u16 x.Xcount), .lit (.int .u32 x.Moff), .lit (.int .u32 x.__)]
def yTUncommonType : D := encTUncommonType default
def wfTUncommonType (x : TUncommonType) : Prop := inR .i32 x.PkgPath ∧ inR .u16 x.Mcount ∧ inR .u16 x.Xcount ∧ inR .u32 x.Moff ∧ inR .u32 x.__
structure TMethod where
  Name : Int
  Mtyp : Int
  Ifn : Int
  Tfn : Int
instance : Inhabited TMethod := ⟨⟨default, default, default, default⟩⟩
instance : DecidableEq TMethod := fun a b => decidable_of_iff (a.Name = b.Name ∧ a.Mtyp = b.Mtyp ∧ a.Ifn = b.Ifn ∧ a.Tfn = b.Tfn) (by cases a; cases b; simp)
@[simp] theorem TMethod_eta (x : TMethod) : (⟨x.Name, x.Mtyp, x.Ifn, x.Tfn⟩ : TMethod) = x := rfl
@[simp] def encTMethod (x : TMethod) : D := .agg [.lit (.int .i32 x.Name), .lit (.int .i32 x.Mtyp), .lit (.int .i32 x.Ifn), .lit (.int .i32 x.Tfn)]
def yTMethod : D := encTMethod default
def wfTMethod (x : TMethod) : Prop := inR .i32 x.Name ∧ inR .i32 x.Mtyp ∧ inR .i32 x.Ifn ∧ inR .i32 x.Tfn
@[simp] def encLTMethod (x : List TMethod) : D := .sl false 4 yTMethod (ML encTMethod x)
def yLTMethod : D := encLTMethod []
def wfLTMethod (x : List TMethod) : Prop := x.length ≤ maxLen ∧ ∀ y ∈ x, wfTMethod y
theorem inj_TMethod : ∀ x y : TMethod, encTMethod x = encTMethod y → x = y := by
  intro x y h
  obtain ⟨x0, x1, x2, x3⟩ := x
  obtain ⟨y0, y1, y2, y3⟩ := y
  simp [encTMethod] at h
  first | exact h | simp [h] | (cases h; rfl)
@[simp] theorem ML_inj_TMethod (l l' : List TMethod) : ML encTMethod l = ML encTMethod l' ↔ l = l' := ML_inj inj_TMethod
@[simp] theorem ML_getD_TMethod (l : List TMethod) (k : Nat) : (ML encTMethod l).getD k yTMethod = encTMethod (l.getD k default) := ML_getD l k default
@[simp] theorem ML_get2_TMethod (l : List TMethod) (k : Nat) : (ML encTMethod l)[k]?.getD yTMethod = encTMethod (l.getD k default) := by rw [← List.getD_eq_getElem?_getD]; exact ML_getD l k default
@[simp] theorem ML_snoc_TMethod (l : List TMethod) (a0 : Int) (a1 : Int) (a2 : Int) (a3 : Int) : ML encTMethod l ++ [.agg [.lit (.int .i32 a0), .lit (.int .i32 a1), .lit (.int .i32 a2), .lit (.int .i32 a3)]] = ML encTMethod (l ++ [⟨a0, a1, a2, a3⟩]) := ML_snoc (enc := encTMethod) l ⟨a0, a1, a2, a3⟩
@[simp] theorem ML_cons_TMethod (l : List TMethod) (a0 : Int) (a1 : Int) (a2 : Int) (a3 : Int) : .agg [.lit (.int .i32 a0), .lit (.int .i32 a1), .lit (.int .i32 a2), .lit (.int .i32 a3)] :: ML encTMethod l = ML encTMethod (⟨a0, a1, a2, a3⟩ :: l) := rfl
@[simp] theorem ML_set_TMethod (l : List TMethod) (k : Nat) (a0 : Int) (a1 : Int) (a2 : Int) (a3 : Int) : (ML encTMethod l).set k (.agg [.lit (.int .i32 a0), .lit (.int .i32 a1), .lit (.int .i32 a2), .lit (.int .i32 a3)]) = ML encTMethod (l.set k ⟨a0, a1, a2, a3⟩) := ML_set (enc := encTMethod) l k ⟨a0, a1, a2, a3⟩
@[simp] theorem ML_rep_TMethod (n : Nat) (a0 : Int) (a1 : Int) (a2 : Int) (a3 : Int) : List.replicate n (.agg [.lit (.int .i32 a0), .lit (.int .i32 a1), .lit (.int .i32 a2), .lit (.int .i32 a3)] : D) = ML encTMethod (List.replicate n ⟨a0, a1, a2, a3⟩) := ML_rep (enc := encTMethod) n ⟨a0, a1, a2, a3⟩
@[simp] theorem ML_pure_TMethod (l : List TMethod) : puresD (ML encTMethod l) = true := ML_pure (fun x => by simp [pureD, puresD]) l
@[simp] theorem ML_flat_TMethod (l : List TMethod) : flatDs (ML encTMethod l) = true := ML_flat (fun x => by simp [flatD, flatDs]) l
end Go.Proofs.YtobofamoagbacaaDoor
