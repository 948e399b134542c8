/- The data of this program as Lean types, and how they are held. -/
import Derived.Test.YtadipfpojlceeaaEngB
namespace Go.Proofs.Ytadipfpojlceeaa
open Go Go.Eng
set_option linter.unusedSimpArgs false
set_option linter.unusedVariables false
structure TThing where
  Id : Int
  Kind : Int
  Colour : Int
  Size : Int
  Worth : Int
instance : Inhabited TThing := ⟨⟨default, default, default, default, default⟩⟩
instance : DecidableEq TThing := fun a b => decidable_of_iff (a.Id = b.Id ∧ a.Kind = b.Kind ∧ a.Colour = b.Colour ∧ a.Size = b.Size ∧ a.Worth = b.Worth) (by cases a; cases b; simp)
@[simp] theorem TThing_eta (x : TThing) : (⟨x.Id, x.Kind, x.Colour, x.Size, x.Worth⟩ : TThing) = x := rfl
@[simp] def encTThing (x : TThing) : D := .agg [.lit (.int .i64 x.Id), .lit (.int .i64 x.Kind), .lit (.int .i64 x.Colour), .lit (.int .i64 x.Size), .lit (.int .i64 x.Worth)]
def yTThing : D := encTThing default
def wfTThing (x : TThing) : Prop := inR .i64 x.Id ∧ inR .i64 x.Kind ∧ inR .i64 x.Colour ∧ inR .i64 x.Size ∧ inR .i64 x.Worth
@[simp] def encLI (x : List Int) : D := .sl false 1 (.lit (.int .i64 0)) (ML dI x)
def yLI : D := encLI []
def wfLI (x : List Int) : Prop := x.length ≤ maxLen ∧ ∀ y ∈ x, inR .i64 y
theorem inj_I : ∀ x y : Int, dI x = dI y → x = y := by
  intro x y h
  simp [dI] at h
  first | exact h | simp [h] | (cases h; rfl)
@[simp] theorem ML_inj_I (l l' : List Int) : ML dI l = ML dI l' ↔ l = l' := ML_inj inj_I
@[simp] theorem ML_getD_I (l : List Int) (k : Nat) : (ML dI l).getD k (.lit (.int .i64 0)) = dI (l.getD k 0) := ML_getD l k 0
@[simp] theorem ML_get2_I (l : List Int) (k : Nat) : (ML dI l)[k]?.getD (.lit (.int .i64 0)) = dI (l.getD k 0) := by rw [← List.getD_eq_getElem?_getD]; exact ML_getD l k 0
@[simp] theorem ML_snoc_I (l : List Int) (a : Int) : ML dI l ++ [.lit (.int .i64 a)] = ML dI (l ++ [a]) := ML_snoc (enc := dI) l a
@[simp] theorem ML_cons_I (l : List Int) (a : Int) : .lit (.int .i64 a) :: ML dI l = ML dI (a :: l) := rfl
@[simp] theorem ML_set_I (l : List Int) (k : Nat) (a : Int) : (ML dI l).set k (.lit (.int .i64 a)) = ML dI (l.set k a) := ML_set (enc := dI) l k a
@[simp] theorem ML_rep_I (n : Nat) (a : Int) : List.replicate n (.lit (.int .i64 a) : D) = ML dI (List.replicate n a) := ML_rep (enc := dI) n a
@[simp] theorem ML_pure_I (l : List Int) : puresD (ML dI l) = true := ML_pure (fun x => by simp [pureD, puresD]) l
@[simp] theorem ML_flat_I (l : List Int) : flatDs (ML dI l) = true := ML_flat (fun x => by simp [flatD, flatDs]) l
structure TParcel where
  From : Int
  To : Int
  Things : List Int
  At : Int
instance : Inhabited TParcel := ⟨⟨default, default, default, default⟩⟩
instance : DecidableEq TParcel := fun a b => decidable_of_iff (a.From = b.From ∧ a.To = b.To ∧ a.Things = b.Things ∧ a.At = b.At) (by cases a; cases b; simp)
@[simp] theorem TParcel_eta (x : TParcel) : (⟨x.From, x.To, x.Things, x.At⟩ : TParcel) = x := rfl
@[simp] def encTParcel (x : TParcel) : D := .agg [.lit (.int .i64 x.From), .lit (.int .i64 x.To), .sl false 1 (.lit (.int .i64 0)) (ML dI x.Things), .lit (.int .i64 x.At)]
def yTParcel : D := encTParcel default
def wfTParcel (x : TParcel) : Prop := inR .i64 x.From ∧ inR .i64 x.To ∧ wfLI x.Things ∧ inR .i64 x.At
structure TFind where
  Thing : TThing
  Place : Int
  At : Int
  Finder : Int
instance : Inhabited TFind := ⟨⟨default, default, default, default⟩⟩
instance : DecidableEq TFind := fun a b => decidable_of_iff (a.Thing = b.Thing ∧ a.Place = b.Place ∧ a.At = b.At ∧ a.Finder = b.Finder) (by cases a; cases b; simp)
@[simp] theorem TFind_eta (x : TFind) : (⟨x.Thing, x.Place, x.At, x.Finder⟩ : TFind) = x := rfl
@[simp] def encTFind (x : TFind) : D := .agg [.lit (.int .i64 x.Thing.Id), .lit (.int .i64 x.Thing.Kind), .lit (.int .i64 x.Thing.Colour), .lit (.int .i64 x.Thing.Size), .lit (.int .i64 x.Thing.Worth), .lit (.int .i64 x.Place), .lit (.int .i64 x.At), .lit (.int .i64 x.Finder)]
def yTFind : D := encTFind default
def wfTFind (x : TFind) : Prop := wfTThing x.Thing ∧ inR .i64 x.Place ∧ inR .i64 x.At ∧ inR .i64 x.Finder
structure TInner where
  Outer : Int
  Thing : Int
instance : Inhabited TInner := ⟨⟨default, default⟩⟩
instance : DecidableEq TInner := fun a b => decidable_of_iff (a.Outer = b.Outer ∧ a.Thing = b.Thing) (by cases a; cases b; simp)
@[simp] theorem TInner_eta (x : TInner) : (⟨x.Outer, x.Thing⟩ : TInner) = x := rfl
@[simp] def encTInner (x : TInner) : D := .agg [.lit (.int .i64 x.Outer), .lit (.int .i64 x.Thing)]
def yTInner : D := encTInner default
def wfTInner (x : TInner) : Prop := inR .i64 x.Outer ∧ inR .i64 x.Thing
@[simp] def encLTInner (x : List TInner) : D := .sl false 2 yTInner (ML encTInner x)
def yLTInner : D := encLTInner []
def wfLTInner (x : List TInner) : Prop := x.length ≤ maxLen ∧ ∀ y ∈ x, wfTInner y
theorem inj_TInner : ∀ x y : TInner, encTInner x = encTInner y → x = y := by
  intro x y h
  obtain ⟨x0, x1⟩ := x
  obtain ⟨y0, y1⟩ := y
  simp [encTInner] at h
  first | exact h | simp [h] | (cases h; rfl)
@[simp] theorem ML_inj_TInner (l l' : List TInner) : ML encTInner l = ML encTInner l' ↔ l = l' := ML_inj inj_TInner
@[simp] theorem ML_getD_TInner (l : List TInner) (k : Nat) : (ML encTInner l).getD k yTInner = encTInner (l.getD k default) := ML_getD l k default
@[simp] theorem ML_get2_TInner (l : List TInner) (k : Nat) : (ML encTInner l)[k]?.getD yTInner = encTInner (l.getD k default) := by rw [← List.getD_eq_getElem?_getD]; exact ML_getD l k default
@[simp] theorem ML_snoc_TInner (l : List TInner) (a0 : Int) (a1 : Int) : ML encTInner l ++ [.agg [.lit (.int .i64 a0), .lit (.int .i64 a1)]] = ML encTInner (l ++ [⟨a0, a1⟩]) := ML_snoc (enc := encTInner) l ⟨a0, a1⟩
@[simp] theorem ML_cons_TInner (l : List TInner) (a0 : Int) (a1 : Int) : .agg [.lit (.int .i64 a0), .lit (.int .i64 a1)] :: ML encTInner l = ML encTInner (⟨a0, a1⟩ :: l) := rfl
@[simp] theorem ML_set_TInner (l : List TInner) (k : Nat) (a0 : Int) (a1 : Int) : (ML encTInner l).set k (.agg [.lit (.int .i64 a0), .lit (.int .i64 a1)]) = ML encTInner (l.set k ⟨a0, a1⟩) := ML_set (enc := encTInner) l k ⟨a0, a1⟩
@[simp] theorem ML_rep_TInner (n : Nat) (a0 : Int) (a1 : Int) : List.replicate n (.agg [.lit (.int .i64 a0), .lit (.int .i64 a1)] : D) = ML encTInner (List.replicate n ⟨a0, a1⟩) := ML_rep (enc := encTInner) n ⟨a0, a1⟩
@[simp] theorem ML_pure_TInner (l : List TInner) : puresD (ML encTInner l) = true := ML_pure (fun x => by simp [pureD, puresD]) l
@[simp] theorem ML_flat_TInner (l : List TInner) : flatDs (ML encTInner l) = true := ML_flat (fun x => by simp [flatD, flatDs]) l
@[simp] def encLB (x : List Bool) : D := .sl false 1 (.lit (.bool false)) (ML dB x)
def yLB : D := encLB []
def wfLB (x : List Bool) : Prop := x.length ≤ maxLen ∧ True
theorem inj_B : ∀ x y : Bool, dB x = dB y → x = y := by
  intro x y h
  simp [dI] at h
  first | exact h | simp [h] | (cases h; rfl)
@[simp] theorem ML_inj_B (l l' : List Bool) : ML dB l = ML dB l' ↔ l = l' := ML_inj inj_B
@[simp] theorem ML_getD_B (l : List Bool) (k : Nat) : (ML dB l).getD k (.lit (.bool false)) = dB (l.getD k false) := ML_getD l k false
@[simp] theorem ML_get2_B (l : List Bool) (k : Nat) : (ML dB l)[k]?.getD (.lit (.bool false)) = dB (l.getD k false) := by rw [← List.getD_eq_getElem?_getD]; exact ML_getD l k false
@[simp] theorem ML_snoc_B (l : List Bool) (a : Bool) : ML dB l ++ [.lit (.bool a)] = ML dB (l ++ [a]) := ML_snoc (enc := dB) l a
@[simp] theorem ML_cons_B (l : List Bool) (a : Bool) : .lit (.bool a) :: ML dB l = ML dB (a :: l) := rfl
@[simp] theorem ML_set_B (l : List Bool) (k : Nat) (a : Bool) : (ML dB l).set k (.lit (.bool a)) = ML dB (l.set k a) := ML_set (enc := dB) l k a
@[simp] theorem ML_rep_B (n : Nat) (a : Bool) : List.replicate n (.lit (.bool a) : D) = ML dB (List.replicate n a) := ML_rep (enc := dB) n a
@[simp] theorem ML_pure_B (l : List Bool) : puresD (ML dB l) = true := ML_pure (fun x => by simp [pureD, puresD]) l
@[simp] theorem ML_flat_B (l : List Bool) : flatDs (ML dB l) = true := ML_flat (fun x => by simp [flatD, flatDs]) l
structure TTicket where
  Id : Int
  At : Int
  Hour : Int
instance : Inhabited TTicket := ⟨⟨default, default, default⟩⟩
instance : DecidableEq TTicket := fun a b => decidable_of_iff (a.Id = b.Id ∧ a.At = b.At ∧ a.Hour = b.Hour) (by cases a; cases b; simp)
@[simp] theorem TTicket_eta (x : TTicket) : (⟨x.Id, x.At, x.Hour⟩ : TTicket) = x := rfl
@[simp] def encTTicket (x : TTicket) : D := .agg [.lit (.int .i64 x.Id), .lit (.int .i64 x.At), .lit (.int .i64 x.Hour)]
def yTTicket : D := encTTicket default
def wfTTicket (x : TTicket) : Prop := inR .i64 x.Id ∧ inR .i64 x.At ∧ inR .i64 x.Hour
@[simp] def encLTTicket (x : List TTicket) : D := .sl false 3 yTTicket (ML encTTicket x)
def yLTTicket : D := encLTTicket []
def wfLTTicket (x : List TTicket) : Prop := x.length ≤ maxLen ∧ ∀ y ∈ x, wfTTicket y
theorem inj_TTicket : ∀ x y : TTicket, encTTicket x = encTTicket y → x = y := by
  intro x y h
  obtain ⟨x0, x1, x2⟩ := x
  obtain ⟨y0, y1, y2⟩ := y
  simp [encTTicket] at h
  first | exact h | simp [h] | (cases h; rfl)
@[simp] theorem ML_inj_TTicket (l l' : List TTicket) : ML encTTicket l = ML encTTicket l' ↔ l = l' := ML_inj inj_TTicket
@[simp] theorem ML_getD_TTicket (l : List TTicket) (k : Nat) : (ML encTTicket l).getD k yTTicket = encTTicket (l.getD k default) := ML_getD l k default
@[simp] theorem ML_get2_TTicket (l : List TTicket) (k : Nat) : (ML encTTicket l)[k]?.getD yTTicket = encTTicket (l.getD k default) := by rw [← List.getD_eq_getElem?_getD]; exact ML_getD l k default
@[simp] theorem ML_snoc_TTicket (l : List TTicket) (a0 : Int) (a1 : Int) (a2 : Int) : ML encTTicket l ++ [.agg [.lit (.int .i64 a0), .lit (.int .i64 a1), .lit (.int .i64 a2)]] = ML encTTicket (l ++ [⟨a0, a1, a2⟩]) := ML_snoc (enc := encTTicket) l ⟨a0, a1, a2⟩
@[simp] theorem ML_cons_TTicket (l : List TTicket) (a0 : Int) (a1 : Int) (a2 : Int) : .agg [.lit (.int .i64 a0), .lit (.int .i64 a1), .lit (.int .i64 a2)] :: ML encTTicket l = ML encTTicket (⟨a0, a1, a2⟩ :: l) := rfl
@[simp] theorem ML_set_TTicket (l : List TTicket) (k : Nat) (a0 : Int) (a1 : Int) (a2 : Int) : (ML encTTicket l).set k (.agg [.lit (.int .i64 a0), .lit (.int .i64 a1), .lit (.int .i64 a2)]) = ML encTTicket (l.set k ⟨a0, a1, a2⟩) := ML_set (enc := encTTicket) l k ⟨a0, a1, a2⟩
@[simp] theorem ML_rep_TTicket (n : Nat) (a0 : Int) (a1 : Int) (a2 : Int) : List.replicate n (.agg [.lit (.int .i64 a0), .lit (.int .i64 a1), .lit (.int .i64 a2)] : D) = ML encTTicket (List.replicate n ⟨a0, a1, a2⟩) := ML_rep (enc := encTTicket) n ⟨a0, a1, a2⟩
@[simp] theorem ML_pure_TTicket (l : List TTicket) : puresD (ML encTTicket l) = true := ML_pure (fun x => by simp [pureD, puresD]) l
@[simp] theorem ML_flat_TTicket (l : List TTicket) : flatDs (ML encTTicket l) = true := ML_flat (fun x => by simp [flatD, flatDs]) l
structure TEntry where
  From : Int
  To : Int
  Cents : Int
  At : Int
instance : Inhabited TEntry := ⟨⟨default, default, default, default⟩⟩
instance : DecidableEq TEntry := fun a b => decidable_of_iff (a.From = b.From ∧ a.To = b.To ∧ a.Cents = b.Cents ∧ a.At = b.At) (by cases a; cases b; simp)
@[simp] theorem TEntry_eta (x : TEntry) : (⟨x.From, x.To, x.Cents, x.At⟩ : TEntry) = x := rfl
@[simp] def encTEntry (x : TEntry) : D := .agg [.lit (.int .i64 x.From), .lit (.int .i64 x.To), .lit (.int .i64 x.Cents), .lit (.int .i64 x.At)]
def yTEntry : D := encTEntry default
def wfTEntry (x : TEntry) : Prop := inR .i64 x.From ∧ inR .i64 x.To ∧ inR .i64 x.Cents ∧ inR .i64 x.At
@[simp] def encLTEntry (x : List TEntry) : D := .sl false 4 yTEntry (ML encTEntry x)
def yLTEntry : D := encLTEntry []
def wfLTEntry (x : List TEntry) : Prop := x.length ≤ maxLen ∧ ∀ y ∈ x, wfTEntry y
theorem inj_TEntry : ∀ x y : TEntry, encTEntry x = encTEntry y → x = y := by
  intro x y h
  obtain ⟨x0, x1, x2, x3⟩ := x
  obtain ⟨y0, y1, y2, y3⟩ := y
  simp [encTEntry] at h
  first | exact h | simp [h] | (cases h; rfl)
@[simp] theorem ML_inj_TEntry (l l' : List TEntry) : ML encTEntry l = ML encTEntry l' ↔ l = l' := ML_inj inj_TEntry
@[simp] theorem ML_getD_TEntry (l : List TEntry) (k : Nat) : (ML encTEntry l).getD k yTEntry = encTEntry (l.getD k default) := ML_getD l k default
@[simp] theorem ML_get2_TEntry (l : List TEntry) (k : Nat) : (ML encTEntry l)[k]?.getD yTEntry = encTEntry (l.getD k default) := by rw [← List.getD_eq_getElem?_getD]; exact ML_getD l k default
@[simp] theorem ML_snoc_TEntry (l : List TEntry) (a0 : Int) (a1 : Int) (a2 : Int) (a3 : Int) : ML encTEntry l ++ [.agg [.lit (.int .i64 a0), .lit (.int .i64 a1), .lit (.int .i64 a2), .lit (.int .i64 a3)]] = ML encTEntry (l ++ [⟨a0, a1, a2, a3⟩]) := ML_snoc (enc := encTEntry) l ⟨a0, a1, a2, a3⟩
@[simp] theorem ML_cons_TEntry (l : List TEntry) (a0 : Int) (a1 : Int) (a2 : Int) (a3 : Int) : .agg [.lit (.int .i64 a0), .lit (.int .i64 a1), .lit (.int .i64 a2), .lit (.int .i64 a3)] :: ML encTEntry l = ML encTEntry (⟨a0, a1, a2, a3⟩ :: l) := rfl
@[simp] theorem ML_set_TEntry (l : List TEntry) (k : Nat) (a0 : Int) (a1 : Int) (a2 : Int) (a3 : Int) : (ML encTEntry l).set k (.agg [.lit (.int .i64 a0), .lit (.int .i64 a1), .lit (.int .i64 a2), .lit (.int .i64 a3)]) = ML encTEntry (l.set k ⟨a0, a1, a2, a3⟩) := ML_set (enc := encTEntry) l k ⟨a0, a1, a2, a3⟩
@[simp] theorem ML_rep_TEntry (n : Nat) (a0 : Int) (a1 : Int) (a2 : Int) (a3 : Int) : List.replicate n (.agg [.lit (.int .i64 a0), .lit (.int .i64 a1), .lit (.int .i64 a2), .lit (.int .i64 a3)] : D) = ML encTEntry (List.replicate n ⟨a0, a1, a2, a3⟩) := ML_rep (enc := encTEntry) n ⟨a0, a1, a2, a3⟩
@[simp] theorem ML_pure_TEntry (l : List TEntry) : puresD (ML encTEntry l) = true := ML_pure (fun x => by simp [pureD, puresD]) l
@[simp] theorem ML_flat_TEntry (l : List TEntry) : flatDs (ML encTEntry l) = true := ML_flat (fun x => by simp [flatD, flatDs]) l
structure TTask where
  Thing : Int
  Fate : Int
  Day : Int
instance : Inhabited TTask := ⟨⟨default, default, default⟩⟩
instance : DecidableEq TTask := fun a b => decidable_of_iff (a.Thing = b.Thing ∧ a.Fate = b.Fate ∧ a.Day = b.Day) (by cases a; cases b; simp)
@[simp] theorem TTask_eta (x : TTask) : (⟨x.Thing, x.Fate, x.Day⟩ : TTask) = x := rfl
@[simp] def encTTask (x : TTask) : D := .agg [.lit (.int .i64 x.Thing), .lit (.int .i64 x.Fate), .lit (.int .i64 x.Day)]
def yTTask : D := encTTask default
def wfTTask (x : TTask) : Prop := inR .i64 x.Thing ∧ inR .i64 x.Fate ∧ inR .i64 x.Day
@[simp] def encLTTask (x : List TTask) : D := .sl false 3 yTTask (ML encTTask x)
def yLTTask : D := encLTTask []
def wfLTTask (x : List TTask) : Prop := x.length ≤ maxLen ∧ ∀ y ∈ x, wfTTask y
theorem inj_TTask : ∀ x y : TTask, encTTask x = encTTask y → x = y := by
  intro x y h
  obtain ⟨x0, x1, x2⟩ := x
  obtain ⟨y0, y1, y2⟩ := y
  simp [encTTask] at h
  first | exact h | simp [h] | (cases h; rfl)
@[simp] theorem ML_inj_TTask (l l' : List TTask) : ML encTTask l = ML encTTask l' ↔ l = l' := ML_inj inj_TTask
@[simp] theorem ML_getD_TTask (l : List TTask) (k : Nat) : (ML encTTask l).getD k yTTask = encTTask (l.getD k default) := ML_getD l k default
@[simp] theorem ML_get2_TTask (l : List TTask) (k : Nat) : (ML encTTask l)[k]?.getD yTTask = encTTask (l.getD k default) := by rw [← List.getD_eq_getElem?_getD]; exact ML_getD l k default
@[simp] theorem ML_snoc_TTask (l : List TTask) (a0 : Int) (a1 : Int) (a2 : Int) : ML encTTask l ++ [.agg [.lit (.int .i64 a0), .lit (.int .i64 a1), .lit (.int .i64 a2)]] = ML encTTask (l ++ [⟨a0, a1, a2⟩]) := ML_snoc (enc := encTTask) l ⟨a0, a1, a2⟩
@[simp] theorem ML_cons_TTask (l : List TTask) (a0 : Int) (a1 : Int) (a2 : Int) : .agg [.lit (.int .i64 a0), .lit (.int .i64 a1), .lit (.int .i64 a2)] :: ML encTTask l = ML encTTask (⟨a0, a1, a2⟩ :: l) := rfl
@[simp] theorem ML_set_TTask (l : List TTask) (k : Nat) (a0 : Int) (a1 : Int) (a2 : Int) : (ML encTTask l).set k (.agg [.lit (.int .i64 a0), .lit (.int .i64 a1), .lit (.int .i64 a2)]) = ML encTTask (l.set k ⟨a0, a1, a2⟩) := ML_set (enc := encTTask) l k ⟨a0, a1, a2⟩
@[simp] theorem ML_rep_TTask (n : Nat) (a0 : Int) (a1 : Int) (a2 : Int) : List.replicate n (.agg [.lit (.int .i64 a0), .lit (.int .i64 a1), .lit (.int .i64 a2)] : D) = ML encTTask (List.replicate n ⟨a0, a1, a2⟩) := ML_rep (enc := encTTask) n ⟨a0, a1, a2⟩
@[simp] theorem ML_pure_TTask (l : List TTask) : puresD (ML encTTask l) = true := ML_pure (fun x => by simp [pureD, puresD]) l
@[simp] theorem ML_flat_TTask (l : List TTask) : flatDs (ML encTTask l) = true := ML_flat (fun x => by simp [flatD, flatDs]) l
structure TMark where
  Question : Int
  Answer : Int
instance : Inhabited TMark := ⟨⟨default, default⟩⟩
instance : DecidableEq TMark := fun a b => decidable_of_iff (a.Question = b.Question ∧ a.Answer = b.Answer) (by cases a; cases b; simp)
@[simp] theorem TMark_eta (x : TMark) : (⟨x.Question, x.Answer⟩ : TMark) = x := rfl
@[simp] def encTMark (x : TMark) : D := .agg [.lit (.int .i64 x.Question), .lit (.int .i64 x.Answer)]
def yTMark : D := encTMark default
def wfTMark (x : TMark) : Prop := inR .i64 x.Question ∧ inR .i64 x.Answer
@[simp] def encLTMark (x : List TMark) : D := .sl false 2 yTMark (ML encTMark x)
def yLTMark : D := encLTMark []
def wfLTMark (x : List TMark) : Prop := x.length ≤ maxLen ∧ ∀ y ∈ x, wfTMark y
theorem inj_TMark : ∀ x y : TMark, encTMark x = encTMark y → x = y := by
  intro x y h
  obtain ⟨x0, x1⟩ := x
  obtain ⟨y0, y1⟩ := y
  simp [encTMark] at h
  first | exact h | simp [h] | (cases h; rfl)
@[simp] theorem ML_inj_TMark (l l' : List TMark) : ML encTMark l = ML encTMark l' ↔ l = l' := ML_inj inj_TMark
@[simp] theorem ML_getD_TMark (l : List TMark) (k : Nat) : (ML encTMark l).getD k yTMark = encTMark (l.getD k default) := ML_getD l k default
@[simp] theorem ML_get2_TMark (l : List TMark) (k : Nat) : (ML encTMark l)[k]?.getD yTMark = encTMark (l.getD k default) := by rw [← List.getD_eq_getElem?_getD]; exact ML_getD l k default
@[simp] theorem ML_snoc_TMark (l : List TMark) (a0 : Int) (a1 : Int) : ML encTMark l ++ [.agg [.lit (.int .i64 a0), .lit (.int .i64 a1)]] = ML encTMark (l ++ [⟨a0, a1⟩]) := ML_snoc (enc := encTMark) l ⟨a0, a1⟩
@[simp] theorem ML_cons_TMark (l : List TMark) (a0 : Int) (a1 : Int) : .agg [.lit (.int .i64 a0), .lit (.int .i64 a1)] :: ML encTMark l = ML encTMark (⟨a0, a1⟩ :: l) := rfl
@[simp] theorem ML_set_TMark (l : List TMark) (k : Nat) (a0 : Int) (a1 : Int) : (ML encTMark l).set k (.agg [.lit (.int .i64 a0), .lit (.int .i64 a1)]) = ML encTMark (l.set k ⟨a0, a1⟩) := ML_set (enc := encTMark) l k ⟨a0, a1⟩
@[simp] theorem ML_rep_TMark (n : Nat) (a0 : Int) (a1 : Int) : List.replicate n (.agg [.lit (.int .i64 a0), .lit (.int .i64 a1)] : D) = ML encTMark (List.replicate n ⟨a0, a1⟩) := ML_rep (enc := encTMark) n ⟨a0, a1⟩
@[simp] theorem ML_pure_TMark (l : List TMark) : puresD (ML encTMark l) = true := ML_pure (fun x => by simp [pureD, puresD]) l
@[simp] theorem ML_flat_TMark (l : List TMark) : flatDs (ML encTMark l) = true := ML_flat (fun x => by simp [flatD, flatDs]) l
structure TSecret where
  Thing : Int
  Marks : List TMark
  Salt : Int
instance : Inhabited TSecret := ⟨⟨default, default, default⟩⟩
instance : DecidableEq TSecret := fun a b => decidable_of_iff (a.Thing = b.Thing ∧ a.Marks = b.Marks ∧ a.Salt = b.Salt) (by cases a; cases b; simp)
@[simp] theorem TSecret_eta (x : TSecret) : (⟨x.Thing, x.Marks, x.Salt⟩ : TSecret) = x := rfl
@[simp] def encTSecret (x : TSecret) : D := .agg [.lit (.int .i64 x.Thing), .sl false 2 yTMark (ML encTMark x.Marks), .lit (.int .i64 x.Salt)]
def yTSecret : D := encTSecret default
def wfTSecret (x : TSecret) : Prop := inR .i64 x.Thing ∧ wfLTMark x.Marks ∧ inR .i64 x.Salt
@[simp] def encLTFind (x : List TFind) : D := .sl false 8 yTFind (ML encTFind x)
def yLTFind : D := encLTFind []
def wfLTFind (x : List TFind) : Prop := x.length ≤ maxLen ∧ ∀ y ∈ x, wfTFind y
theorem inj_TFind : ∀ x y : TFind, encTFind x = encTFind y → x = y := by
  intro x y h
  obtain ⟨⟨x00, x01, x02, x03, x04⟩, x1, x2, x3⟩ := x
  obtain ⟨⟨y00, y01, y02, y03, y04⟩, y1, y2, y3⟩ := y
  simp [encTFind] at h
  first | exact h | simp [h] | (cases h; rfl)
@[simp] theorem ML_inj_TFind (l l' : List TFind) : ML encTFind l = ML encTFind l' ↔ l = l' := ML_inj inj_TFind
@[simp] theorem ML_getD_TFind (l : List TFind) (k : Nat) : (ML encTFind l).getD k yTFind = encTFind (l.getD k default) := ML_getD l k default
@[simp] theorem ML_get2_TFind (l : List TFind) (k : Nat) : (ML encTFind l)[k]?.getD yTFind = encTFind (l.getD k default) := by rw [← List.getD_eq_getElem?_getD]; exact ML_getD l k default
@[simp] theorem ML_snoc_TFind (l : List TFind) (a00 : Int) (a01 : Int) (a02 : Int) (a03 : Int) (a04 : Int) (a1 : Int) (a2 : Int) (a3 : Int) : ML encTFind l ++ [.agg [.lit (.int .i64 a00), .lit (.int .i64 a01), .lit (.int .i64 a02), .lit (.int .i64 a03), .lit (.int .i64 a04), .lit (.int .i64 a1), .lit (.int .i64 a2), .lit (.int .i64 a3)]] = ML encTFind (l ++ [⟨⟨a00, a01, a02, a03, a04⟩, a1, a2, a3⟩]) := ML_snoc (enc := encTFind) l ⟨⟨a00, a01, a02, a03, a04⟩, a1, a2, a3⟩
@[simp] theorem ML_cons_TFind (l : List TFind) (a00 : Int) (a01 : Int) (a02 : Int) (a03 : Int) (a04 : Int) (a1 : Int) (a2 : Int) (a3 : Int) : .agg [.lit (.int .i64 a00), .lit (.int .i64 a01), .lit (.int .i64 a02), .lit (.int .i64 a03), .lit (.int .i64 a04), .lit (.int .i64 a1), .lit (.int .i64 a2), .lit (.int .i64 a3)] :: ML encTFind l = ML encTFind (⟨⟨a00, a01, a02, a03, a04⟩, a1, a2, a3⟩ :: l) := rfl
@[simp] theorem ML_set_TFind (l : List TFind) (k : Nat) (a00 : Int) (a01 : Int) (a02 : Int) (a03 : Int) (a04 : Int) (a1 : Int) (a2 : Int) (a3 : Int) : (ML encTFind l).set k (.agg [.lit (.int .i64 a00), .lit (.int .i64 a01), .lit (.int .i64 a02), .lit (.int .i64 a03), .lit (.int .i64 a04), .lit (.int .i64 a1), .lit (.int .i64 a2), .lit (.int .i64 a3)]) = ML encTFind (l.set k ⟨⟨a00, a01, a02, a03, a04⟩, a1, a2, a3⟩) := ML_set (enc := encTFind) l k ⟨⟨a00, a01, a02, a03, a04⟩, a1, a2, a3⟩
@[simp] theorem ML_rep_TFind (n : Nat) (a00 : Int) (a01 : Int) (a02 : Int) (a03 : Int) (a04 : Int) (a1 : Int) (a2 : Int) (a3 : Int) : List.replicate n (.agg [.lit (.int .i64 a00), .lit (.int .i64 a01), .lit (.int .i64 a02), .lit (.int .i64 a03), .lit (.int .i64 a04), .lit (.int .i64 a1), .lit (.int .i64 a2), .lit (.int .i64 a3)] : D) = ML encTFind (List.replicate n ⟨⟨a00, a01, a02, a03, a04⟩, a1, a2, a3⟩) := ML_rep (enc := encTFind) n ⟨⟨a00, a01, a02, a03, a04⟩, a1, a2, a3⟩
@[simp] theorem ML_pure_TFind (l : List TFind) : puresD (ML encTFind l) = true := ML_pure (fun x => by simp [pureD, puresD]) l
@[simp] theorem ML_flat_TFind (l : List TFind) : flatDs (ML encTFind l) = true := ML_flat (fun x => by simp [flatD, flatDs]) l
structure TClaim where
  Id : Int
  Who : Int
  Thing : Int
  At : Int
  State : Int
instance : Inhabited TClaim := ⟨⟨default, default, default, default, default⟩⟩
instance : DecidableEq TClaim := fun a b => decidable_of_iff (a.Id = b.Id ∧ a.Who = b.Who ∧ a.Thing = b.Thing ∧ a.At = b.At ∧ a.State = b.State) (by cases a; cases b; simp)
@[simp] theorem TClaim_eta (x : TClaim) : (⟨x.Id, x.Who, x.Thing, x.At, x.State⟩ : TClaim) = x := rfl
@[simp] def encTClaim (x : TClaim) : D := .agg [.lit (.int .i64 x.Id), .lit (.int .i64 x.Who), .lit (.int .i64 x.Thing), .lit (.int .i64 x.At), .lit (.int .i64 x.State)]
def yTClaim : D := encTClaim default
def wfTClaim (x : TClaim) : Prop := inR .i64 x.Id ∧ inR .i64 x.Who ∧ inR .i64 x.Thing ∧ inR .i64 x.At ∧ inR .i64 x.State
@[simp] def encLTClaim (x : List TClaim) : D := .sl false 5 yTClaim (ML encTClaim x)
def yLTClaim : D := encLTClaim []
def wfLTClaim (x : List TClaim) : Prop := x.length ≤ maxLen ∧ ∀ y ∈ x, wfTClaim y
theorem inj_TClaim : ∀ x y : TClaim, encTClaim x = encTClaim y → x = y := by
  intro x y h
  obtain ⟨x0, x1, x2, x3, x4⟩ := x
  obtain ⟨y0, y1, y2, y3, y4⟩ := y
  simp [encTClaim] at h
  first | exact h | simp [h] | (cases h; rfl)
@[simp] theorem ML_inj_TClaim (l l' : List TClaim) : ML encTClaim l = ML encTClaim l' ↔ l = l' := ML_inj inj_TClaim
@[simp] theorem ML_getD_TClaim (l : List TClaim) (k : Nat) : (ML encTClaim l).getD k yTClaim = encTClaim (l.getD k default) := ML_getD l k default
@[simp] theorem ML_get2_TClaim (l : List TClaim) (k : Nat) : (ML encTClaim l)[k]?.getD yTClaim = encTClaim (l.getD k default) := by rw [← List.getD_eq_getElem?_getD]; exact ML_getD l k default
@[simp] theorem ML_snoc_TClaim (l : List TClaim) (a0 : Int) (a1 : Int) (a2 : Int) (a3 : Int) (a4 : Int) : ML encTClaim l ++ [.agg [.lit (.int .i64 a0), .lit (.int .i64 a1), .lit (.int .i64 a2), .lit (.int .i64 a3), .lit (.int .i64 a4)]] = ML encTClaim (l ++ [⟨a0, a1, a2, a3, a4⟩]) := ML_snoc (enc := encTClaim) l ⟨a0, a1, a2, a3, a4⟩
@[simp] theorem ML_cons_TClaim (l : List TClaim) (a0 : Int) (a1 : Int) (a2 : Int) (a3 : Int) (a4 : Int) : .agg [.lit (.int .i64 a0), .lit (.int .i64 a1), .lit (.int .i64 a2), .lit (.int .i64 a3), .lit (.int .i64 a4)] :: ML encTClaim l = ML encTClaim (⟨a0, a1, a2, a3, a4⟩ :: l) := rfl
@[simp] theorem ML_set_TClaim (l : List TClaim) (k : Nat) (a0 : Int) (a1 : Int) (a2 : Int) (a3 : Int) (a4 : Int) : (ML encTClaim l).set k (.agg [.lit (.int .i64 a0), .lit (.int .i64 a1), .lit (.int .i64 a2), .lit (.int .i64 a3), .lit (.int .i64 a4)]) = ML encTClaim (l.set k ⟨a0, a1, a2, a3, a4⟩) := ML_set (enc := encTClaim) l k ⟨a0, a1, a2, a3, a4⟩
@[simp] theorem ML_rep_TClaim (n : Nat) (a0 : Int) (a1 : Int) (a2 : Int) (a3 : Int) (a4 : Int) : List.replicate n (.agg [.lit (.int .i64 a0), .lit (.int .i64 a1), .lit (.int .i64 a2), .lit (.int .i64 a3), .lit (.int .i64 a4)] : D) = ML encTClaim (List.replicate n ⟨a0, a1, a2, a3, a4⟩) := ML_rep (enc := encTClaim) n ⟨a0, a1, a2, a3, a4⟩
@[simp] theorem ML_pure_TClaim (l : List TClaim) : puresD (ML encTClaim l) = true := ML_pure (fun x => by simp [pureD, puresD]) l
@[simp] theorem ML_flat_TClaim (l : List TClaim) : flatDs (ML encTClaim l) = true := ML_flat (fun x => by simp [flatD, flatDs]) l
structure THit where
  House : Int
  Thing : Int
instance : Inhabited THit := ⟨⟨default, default⟩⟩
instance : DecidableEq THit := fun a b => decidable_of_iff (a.House = b.House ∧ a.Thing = b.Thing) (by cases a; cases b; simp)
@[simp] theorem THit_eta (x : THit) : (⟨x.House, x.Thing⟩ : THit) = x := rfl
@[simp] def encTHit (x : THit) : D := .agg [.lit (.int .i64 x.House), .lit (.int .i64 x.Thing)]
def yTHit : D := encTHit default
def wfTHit (x : THit) : Prop := inR .i64 x.House ∧ inR .i64 x.Thing
@[simp] def encLTHit (x : List THit) : D := .sl false 2 yTHit (ML encTHit x)
def yLTHit : D := encLTHit []
def wfLTHit (x : List THit) : Prop := x.length ≤ maxLen ∧ ∀ y ∈ x, wfTHit y
theorem inj_THit : ∀ x y : THit, encTHit x = encTHit y → x = y := by
  intro x y h
  obtain ⟨x0, x1⟩ := x
  obtain ⟨y0, y1⟩ := y
  simp [encTHit] at h
  first | exact h | simp [h] | (cases h; rfl)
@[simp] theorem ML_inj_THit (l l' : List THit) : ML encTHit l = ML encTHit l' ↔ l = l' := ML_inj inj_THit
@[simp] theorem ML_getD_THit (l : List THit) (k : Nat) : (ML encTHit l).getD k yTHit = encTHit (l.getD k default) := ML_getD l k default
@[simp] theorem ML_get2_THit (l : List THit) (k : Nat) : (ML encTHit l)[k]?.getD yTHit = encTHit (l.getD k default) := by rw [← List.getD_eq_getElem?_getD]; exact ML_getD l k default
@[simp] theorem ML_snoc_THit (l : List THit) (a0 : Int) (a1 : Int) : ML encTHit l ++ [.agg [.lit (.int .i64 a0), .lit (.int .i64 a1)]] = ML encTHit (l ++ [⟨a0, a1⟩]) := ML_snoc (enc := encTHit) l ⟨a0, a1⟩
@[simp] theorem ML_cons_THit (l : List THit) (a0 : Int) (a1 : Int) : .agg [.lit (.int .i64 a0), .lit (.int .i64 a1)] :: ML encTHit l = ML encTHit (⟨a0, a1⟩ :: l) := rfl
@[simp] theorem ML_set_THit (l : List THit) (k : Nat) (a0 : Int) (a1 : Int) : (ML encTHit l).set k (.agg [.lit (.int .i64 a0), .lit (.int .i64 a1)]) = ML encTHit (l.set k ⟨a0, a1⟩) := ML_set (enc := encTHit) l k ⟨a0, a1⟩
@[simp] theorem ML_rep_THit (n : Nat) (a0 : Int) (a1 : Int) : List.replicate n (.agg [.lit (.int .i64 a0), .lit (.int .i64 a1)] : D) = ML encTHit (List.replicate n ⟨a0, a1⟩) := ML_rep (enc := encTHit) n ⟨a0, a1⟩
@[simp] theorem ML_pure_THit (l : List THit) : puresD (ML encTHit l) = true := ML_pure (fun x => by simp [pureD, puresD]) l
@[simp] theorem ML_flat_THit (l : List THit) : flatDs (ML encTHit l) = true := ML_flat (fun x => by simp [flatD, flatDs]) l
@[simp] def encLS (x : List ByteArray) : D := .sl false 1 (.lit (.string ⟨#[]⟩)) (ML dS x)
def yLS : D := encLS []
def wfLS (x : List ByteArray) : Prop := x.length ≤ maxLen ∧ ∀ y ∈ x, y.size ≤ maxLen
theorem inj_S : ∀ x y : ByteArray, dS x = dS y → x = y := by
  intro x y h
  simp [dI] at h
  first | exact h | simp [h] | (cases h; rfl)
@[simp] theorem ML_inj_S (l l' : List ByteArray) : ML dS l = ML dS l' ↔ l = l' := ML_inj inj_S
@[simp] theorem ML_getD_S (l : List ByteArray) (k : Nat) : (ML dS l).getD k (.lit (.string ⟨#[]⟩)) = dS (l.getD k ⟨#[]⟩) := ML_getD l k ⟨#[]⟩
@[simp] theorem ML_get2_S (l : List ByteArray) (k : Nat) : (ML dS l)[k]?.getD (.lit (.string ⟨#[]⟩)) = dS (l.getD k ⟨#[]⟩) := by rw [← List.getD_eq_getElem?_getD]; exact ML_getD l k ⟨#[]⟩
@[simp] theorem ML_snoc_S (l : List ByteArray) (a : ByteArray) : ML dS l ++ [.lit (.string a)] = ML dS (l ++ [a]) := ML_snoc (enc := dS) l a
@[simp] theorem ML_cons_S (l : List ByteArray) (a : ByteArray) : .lit (.string a) :: ML dS l = ML dS (a :: l) := rfl
@[simp] theorem ML_set_S (l : List ByteArray) (k : Nat) (a : ByteArray) : (ML dS l).set k (.lit (.string a)) = ML dS (l.set k a) := ML_set (enc := dS) l k a
@[simp] theorem ML_rep_S (n : Nat) (a : ByteArray) : List.replicate n (.lit (.string a) : D) = ML dS (List.replicate n a) := ML_rep (enc := dS) n a
@[simp] theorem ML_pure_S (l : List ByteArray) : puresD (ML dS l) = true := ML_pure (fun x => by simp [pureD, puresD]) l
@[simp] theorem ML_flat_S (l : List ByteArray) : flatDs (ML dS l) = true := ML_flat (fun x => by simp [flatD, flatDs]) l
structure TPeak where
  number_ : Int
  count_ : Int
instance : Inhabited TPeak := ⟨⟨default, default⟩⟩
instance : DecidableEq TPeak := fun a b => decidable_of_iff (a.number_ = b.number_ ∧ a.count_ = b.count_) (by cases a; cases b; simp)
@[simp] theorem TPeak_eta (x : TPeak) : (⟨x.number_, x.count_⟩ : TPeak) = x := rfl
@[simp] def encTPeak (x : TPeak) : D := .agg [.lit (.int .i64 x.number_), .lit (.int .i64 x.count_)]
def yTPeak : D := encTPeak default
def wfTPeak (x : TPeak) : Prop := inR .i64 x.number_ ∧ inR .i64 x.count_
structure TLikeness where
  kind_ : Int
  colour_ : Int
  size_ : Int
  place_ : Int
instance : Inhabited TLikeness := ⟨⟨default, default, default, default⟩⟩
instance : DecidableEq TLikeness := fun a b => decidable_of_iff (a.kind_ = b.kind_ ∧ a.colour_ = b.colour_ ∧ a.size_ = b.size_ ∧ a.place_ = b.place_) (by cases a; cases b; simp)
@[simp] theorem TLikeness_eta (x : TLikeness) : (⟨x.kind_, x.colour_, x.size_, x.place_⟩ : TLikeness) = x := rfl
@[simp] def encTLikeness (x : TLikeness) : D := .agg [.lit (.int .i64 x.kind_), .lit (.int .i64 x.colour_), .lit (.int .i64 x.size_), .lit (.int .i64 x.place_)]
def yTLikeness : D := encTLikeness default
def wfTLikeness (x : TLikeness) : Prop := inR .i64 x.kind_ ∧ inR .i64 x.colour_ ∧ inR .i64 x.size_ ∧ inR .i64 x.place_
end Go.Proofs.Ytadipfpojlceeaa
