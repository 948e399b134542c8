/- Contracts of the functions that the laws run. -/
import Derived.Test.Ytnghehfdclhfdaaasc21
import Derived.Test.Ytnghehfdclhfdaach21
import Derived.Test.Ytnghehfdclhfdaach06
import Derived.Test.Ytnghehfdclhfdaach07
import Derived.Test.YtnghehfdclhfdaaEngB
namespace Go.Proofs.Ytnghehfdclhfdaa
open Go Go.Eng
set_option linter.unusedSimpArgs false
set_option linter.unusedVariables false
set_option maxRecDepth 10000
set_option maxHeartbeats 1000000
theorem asc_ext {a b : List Int} (ha : a.Pairwise (· < ·)) (hb : b.Pairwise (· < ·)) (h : ∀ w, w ∈ a ↔ w ∈ b) : a = b := by
  have hp : a.Perm b := (List.perm_ext_iff_of_nodup (ha.imp fun h => by omega) (hb.imp fun h => by omega)).2 h
  exact hp.eq_of_pairwise (fun x y _ _ h1 h2 => by omega) ha hb
theorem asc_lt {a : List Int} (h : a.Pairwise (· ≤ ·)) (hn : a.Nodup) : a.Pairwise (· < ·) :=
  (h.and hn).imp fun h => by have := h.1; have := h.2; omega
def mSetP (l : List Int) : List Int := l.foldl putI []
theorem mSort_set (l : List Int) : mSort (setI l) = mSetP l := by
  have h1 := foldP l [] List.Pairwise.nil
  refine asc_ext (asc_lt (mSort_asc _) ((mSort_perm _).nodup_iff.2 (setI_nodup l))) h1.1 fun w => ?_
  rw [(mSort_perm _).mem_iff, setI_mem, mSetP, h1.2.1 w]; simp
theorem mSetP_len (l : List Int) : (mSetP l).length ≤ l.length := by
  have := (foldP l [] List.Pairwise.nil).2.2
  simpa [mSetP] using this
theorem set_len_eq (l : List Int) : (setI l).length = (mSetP l).length := by rw [← mSort_set, mSort_len]
@[simp] theorem mSort_nil : mSort [] = [] := by simp [mSort]
theorem setI_snoc (l : List Int) (x : Int) : setI (l ++ [x]) = insI (setI l) x := by simp [setI]
theorem mSetP_snoc (l : List Int) (x : Int) : mSetP (l ++ [x]) = putI (mSetP l) x := by simp [mSetP]
def bdI (l : List Int) : Prop := ∀ x ∈ l, 0 ≤ x ∧ x < 2147483647
theorem fit_set {l : List Int} (h : bdI l) : fitI (setI l) := fun k hk => by have := h k (setI_mem.1 hk); omega
theorem fit_nil : fitI [] := fun k hk => by cases hk
@[simp] theorem asc_nil_fn : c78.fn [.fm 0 [] (.lit (.bool false)) []] [] = some ((0 ≤ 1073741823 ∧ fitI []), .own (0, 1) 1 0 0, [((0, 1), .arr false 1 (dI 0) (ML dI (mSort [])))]) := c78_fn []
theorem ascBy_all {α : Type} {ok : α → Bool} {num : α → Int} : ∀ {l : List α} {o : Option Int}, ascBy ok num o l = true → ∀ x ∈ l, ok x = true
  | [], _, _, x, hx => by cases hx
  | y :: t, o, h, x, hx => by
    have ih := fun o h => ascBy_all (ok := ok) (num := num) (l := t) (o := o) h
    simp only [ascBy, Bool.and_eq_true] at h
    rcases List.mem_cons.1 hx with e | e
    · subst e; exact h.1.1
    · exact ih _ h.2 x e
def hO (salt : Int) (f : TFind) : Int := mHintOf f.Thing salt
def hsL (l : List TFind) (salt : Int) (p : Nat) : List Int := (l.take p).map (hO salt)
theorem hsL_at {l : List TFind} {salt : Int} {p : Nat} (h : p < l.length) : hsL l salt (p + 1) = hsL l salt p ++ [hO salt (l[p]?.getD default)] := by
  rw [hsL, take_at (d := default) h]; simp [hsL]
theorem hsL_bd (l : List TFind) (salt : Int) (p : Nat) : bdI (hsL l salt p) := fun x hx => by
  obtain ⟨f, _, rfl⟩ := List.mem_map.1 hx
  exact mHash_bd _
theorem hsL_len (l : List TFind) (salt : Int) (p : Nat) : (hsL l salt p).length ≤ l.length := by simp [hsL]; omega
def mHintsOf (l : List TFind) (salt : Int) : List Int := if mAreFinds l then mSetP (hsL l salt l.length) else []
theorem mHintsOf_len (l : List TFind) (salt : Int) : (mHintsOf l salt).length ≤ l.length := by
  rw [mHintsOf]; split
  · exact Nat.le_trans (mSetP_len _) (hsL_len ..)
  · simp
theorem find_size {l : List TFind} {p : Nat} (h : mAreFinds l = true) (hp : p < l.length) : 1 ≤ (l[p]?.getD default).Thing.Size ∧ (l[p]?.getD default).Thing.Size ≤ 50 := by
  simp only [mAreFinds, Bool.and_eq_true] at h
  have hm : l[p]?.getD default ∈ l := by rw [List.getElem?_eq_getElem hp]; exact List.getElem_mem _
  have := ascBy_all h.2 _ hm
  simp only [mIsFind, mIsThing, Bool.and_eq_true] at this
  exact mIn_iff.1 this.1.1.1.1.2
end Go.Proofs.Ytnghehfdclhfdaa
