/- The data of this program as Lean types, and how they are held. -/
import Derived.Test.YtpngkfpgmpgmdaaEngB
namespace Go.Proofs.Ytpngkfpgmpgmdaa
open Go Go.Eng
set_option linter.unusedSimpArgs false
set_option linter.unusedVariables false
/-- what the package variables hold -/
def glD : Nat → D
  | _ => .any
instance : HasG := ⟨glD⟩
@[simp] theorem gl_0 : HasG.gl 0 = .any := rfl
@[simp] theorem gl_1 : HasG.gl 1 = .any := rfl
@[simp] theorem gl_2 : HasG.gl 2 = .any := rfl
@[simp] theorem gl_3 : HasG.gl 3 = .any := rfl
@[simp] theorem gl_4 : HasG.gl 4 = .any := rfl
@[simp] theorem gl_5 : HasG.gl 5 = .any := rfl
@[simp] theorem gl_6 : HasG.gl 6 = .any := rfl
@[simp] theorem gl_7 : HasG.gl 7 = .any := rfl
structure TThing where
  Id : Int
  Kind : Int
  Colour : Int
  Size : Int
  Worth : Int
instance : Inhabited TThing := ⟨⟨default, default, default, default, default⟩⟩
instance : DecidableEq TThing := fun a b => decidable_of_iff (a.Id = b.Id ∧ a.Kind = b.Kind ∧ a.Colour = b.Colour ∧ a.Size = b.Size ∧ a.Worth = b.Worth) (by cases a; cases b; simp)
@[simp] theorem TThing_eta (x : TThing) : (⟨x.Id, x.Kind, x.Colour, x.Size, x.Worth⟩ : TThing) = x := rfl
@[simp] def encTThing (x : TThing) : D := .agg [.lit (.int .i64 x.Id), .lit (.int .i64 x.Kind), .lit (.int .i64 x.Colour), .lit (.int .i64 x.Size), .lit (.int .i64 x.Worth)]
def yTThing : D := encTThing default
def wfTThing (x : TThing) : Prop := inR .i64 x.Id ∧ inR .i64 x.Kind ∧ inR .i64 x.Colour ∧ inR .i64 x.Size ∧ inR .i64 x.Worth
structure TFind where
  Thing : TThing
  Place : Int
  At : Int
  Finder : Int
instance : Inhabited TFind := ⟨⟨default, default, default, default⟩⟩
instance : DecidableEq TFind := fun a b => decidable_of_iff (a.Thing = b.Thing ∧ a.Place = b.Place ∧ a.At = b.At ∧ a.Finder = b.Finder) (by cases a; cases b; simp)
@[simp] theorem TFind_eta (x : TFind) : (⟨x.Thing, x.Place, x.At, x.Finder⟩ : TFind) = x := rfl
@[simp] def encTFind (x : TFind) : D := .agg [.lit (.int .i64 x.Thing.Id), .lit (.int .i64 x.Thing.Kind), .lit (.int .i64 x.Thing.Colour), .lit (.int .i64 x.Thing.Size), .lit (.int .i64 x.Thing.Worth), .lit (.int .i64 x.Place), .lit (.int .i64 x.At), .lit (.int .i64 x.Finder)]
def yTFind : D := encTFind default
def wfTFind (x : TFind) : Prop := wfTThing x.Thing ∧ inR .i64 x.Place ∧ inR .i64 x.At ∧ inR .i64 x.Finder
@[simp] def encLTFind (x : List TFind) : D := .sl false 8 yTFind (ML encTFind x)
def yLTFind : D := encLTFind []
def wfLTFind (x : List TFind) : Prop := x.length ≤ maxLen ∧ ∀ y ∈ x, wfTFind y
theorem inj_TFind : ∀ x y : TFind, encTFind x = encTFind y → x = y := by
  intro x y h
  obtain ⟨⟨x00, x01, x02, x03, x04⟩, x1, x2, x3⟩ := x
  obtain ⟨⟨y00, y01, y02, y03, y04⟩, y1, y2, y3⟩ := y
  simp [encTFind] at h
  first | exact h | simp [h] | (cases h; rfl)
@[simp] theorem ML_inj_TFind (l l' : List TFind) : ML encTFind l = ML encTFind l' ↔ l = l' := ML_inj inj_TFind
@[simp] theorem ML_getD_TFind (l : List TFind) (k : Nat) : (ML encTFind l).getD k yTFind = encTFind (l.getD k default) := ML_getD l k default
@[simp] theorem ML_get2_TFind (l : List TFind) (k : Nat) : (ML encTFind l)[k]?.getD yTFind = encTFind (l.getD k default) := by rw [← List.getD_eq_getElem?_getD]; exact ML_getD l k default
@[simp] theorem ML_snoc_TFind (l : List TFind) (a00 : Int) (a01 : Int) (a02 : Int) (a03 : Int) (a04 : Int) (a1 : Int) (a2 : Int) (a3 : Int) : ML encTFind l ++ [.agg [.lit (.int .i64 a00), .lit (.int .i64 a01), .lit (.int .i64 a02), .lit (.int .i64 a03), .lit (.int .i64 a04), .lit (.int .i64 a1), .lit (.int .i64 a2), .lit (.int .i64 a3)]] = ML encTFind (l ++ [⟨⟨a00, a01, a02, a03, a04⟩, a1, a2, a3⟩]) := ML_snoc (enc := encTFind) l ⟨⟨a00, a01, a02, a03, a04⟩, a1, a2, a3⟩
@[simp] theorem ML_cons_TFind (l : List TFind) (a00 : Int) (a01 : Int) (a02 : Int) (a03 : Int) (a04 : Int) (a1 : Int) (a2 : Int) (a3 : Int) : .agg [.lit (.int .i64 a00), .lit (.int .i64 a01), .lit (.int .i64 a02), .lit (.int .i64 a03), .lit (.int .i64 a04), .lit (.int .i64 a1), .lit (.int .i64 a2), .lit (.int .i64 a3)] :: ML encTFind l = ML encTFind (⟨⟨a00, a01, a02, a03, a04⟩, a1, a2, a3⟩ :: l) := rfl
@[simp] theorem ML_set_TFind (l : List TFind) (k : Nat) (a00 : Int) (a01 : Int) (a02 : Int) (a03 : Int) (a04 : Int) (a1 : Int) (a2 : Int) (a3 : Int) : (ML encTFind l).set k (.agg [.lit (.int .i64 a00), .lit (.int .i64 a01), .lit (.int .i64 a02), .lit (.int .i64 a03), .lit (.int .i64 a04), .lit (.int .i64 a1), .lit (.int .i64 a2), .lit (.int .i64 a3)]) = ML encTFind (l.set k ⟨⟨a00, a01, a02, a03, a04⟩, a1, a2, a3⟩) := ML_set (enc := encTFind) l k ⟨⟨a00, a01, a02, a03, a04⟩, a1, a2, a3⟩
@[simp] theorem ML_rep_TFind (n : Nat) (a00 : Int) (a01 : Int) (a02 : Int) (a03 : Int) (a04 : Int) (a1 : Int) (a2 : Int) (a3 : Int) : List.replicate n (.agg [.lit (.int .i64 a00), .lit (.int .i64 a01), .lit (.int .i64 a02), .lit (.int .i64 a03), .lit (.int .i64 a04), .lit (.int .i64 a1), .lit (.int .i64 a2), .lit (.int .i64 a3)] : D) = ML encTFind (List.replicate n ⟨⟨a00, a01, a02, a03, a04⟩, a1, a2, a3⟩) := ML_rep (enc := encTFind) n ⟨⟨a00, a01, a02, a03, a04⟩, a1, a2, a3⟩
@[simp] theorem ML_pure_TFind (l : List TFind) : puresD (ML encTFind l) = true := ML_pure (fun x => by simp [pureD, puresD]) l
@[simp] theorem ML_flat_TFind (l : List TFind) : flatDs (ML encTFind l) = true := ML_flat (fun x => by simp [flatD, flatDs]) l
@[simp] def encLI (x : List Int) : D := .sl false 1 (.lit (.int .i64 0)) (ML dI x)
def yLI : D := encLI []
def wfLI (x : List Int) : Prop := x.length ≤ maxLen ∧ ∀ y ∈ x, inR .i64 y
theorem inj_I : ∀ x y : Int, dI x = dI y → x = y := by
  intro x y h
  simp [dI] at h
  first | exact h | simp [h] | (cases h; rfl)
@[simp] theorem ML_inj_I (l l' : List Int) : ML dI l = ML dI l' ↔ l = l' := ML_inj inj_I
@[simp] theorem ML_getD_I (l : List Int) (k : Nat) : (ML dI l).getD k (.lit (.int .i64 0)) = dI (l.getD k 0) := ML_getD l k 0
@[simp] theorem ML_get2_I (l : List Int) (k : Nat) : (ML dI l)[k]?.getD (.lit (.int .i64 0)) = dI (l.getD k 0) := by rw [← List.getD_eq_getElem?_getD]; exact ML_getD l k 0
@[simp] theorem ML_snoc_I (l : List Int) (a : Int) : ML dI l ++ [.lit (.int .i64 a)] = ML dI (l ++ [a]) := ML_snoc (enc := dI) l a
@[simp] theorem ML_cons_I (l : List Int) (a : Int) : .lit (.int .i64 a) :: ML dI l = ML dI (a :: l) := rfl
@[simp] theorem ML_set_I (l : List Int) (k : Nat) (a : Int) : (ML dI l).set k (.lit (.int .i64 a)) = ML dI (l.set k a) := ML_set (enc := dI) l k a
@[simp] theorem ML_rep_I (n : Nat) (a : Int) : List.replicate n (.lit (.int .i64 a) : D) = ML dI (List.replicate n a) := ML_rep (enc := dI) n a
@[simp] theorem ML_pure_I (l : List Int) : puresD (ML dI l) = true := ML_pure (fun x => by simp [pureD, puresD]) l
@[simp] theorem ML_flat_I (l : List Int) : flatDs (ML dI l) = true := ML_flat (fun x => by simp [flatD, flatDs]) l
structure TPeak where
  number_ : Int
  count_ : Int
instance : Inhabited TPeak := ⟨⟨default, default⟩⟩
instance : DecidableEq TPeak := fun a b => decidable_of_iff (a.number_ = b.number_ ∧ a.count_ = b.count_) (by cases a; cases b; simp)
@[simp] theorem TPeak_eta (x : TPeak) : (⟨x.number_, x.count_⟩ : TPeak) = x := rfl
@[simp] def encTPeak (x : TPeak) : D := .agg [.lit (.int .i64 x.number_), .lit (.int .i64 x.count_)]
def yTPeak : D := encTPeak default
def wfTPeak (x : TPeak) : Prop := inR .i64 x.number_ ∧ inR .i64 x.count_
end Go.Proofs.Ytpngkfpgmpgmdaa
