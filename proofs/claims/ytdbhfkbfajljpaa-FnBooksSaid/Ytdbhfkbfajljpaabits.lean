/- Contracts of the functions that the laws run. -/
import Derived.Test.Ytdbhfkbfajljpaagen
import Derived.Test.YtdbhfkbfajljpaaEngB
namespace Go.Proofs.Ytdbhfkbfajljpaa
open Go Go.Eng
set_option linter.unusedSimpArgs false
set_option linter.unusedVariables false
set_option maxRecDepth 10000
set_option maxHeartbeats 1000000
noncomputable def andK (k : IntKind) (a b : Int) : Int := Classical.choose (⟨_, rfl⟩ : ∃ v : Int, v = k.wrap (BitVec.ofInt k.bits a &&& BitVec.ofInt k.bits b).toNat)
theorem andK_eq (k : IntKind) (a b : Int) : andK k a b = k.wrap (BitVec.ofInt k.bits a &&& BitVec.ofInt k.bits b).toNat := Classical.choose_spec (⟨_, rfl⟩ : ∃ v : Int, v = k.wrap (BitVec.ofInt k.bits a &&& BitVec.ofInt k.bits b).toNat)
theorem bAnd (m : Bool) (k : IntKind) (a b : Int) : binI m .and k a b = some ⟨True, .lit (.int k (andK k a b)), .none⟩ := by rw [andK_eq]; rfl
noncomputable def orK (k : IntKind) (a b : Int) : Int := Classical.choose (⟨_, rfl⟩ : ∃ v : Int, v = k.wrap (BitVec.ofInt k.bits a ||| BitVec.ofInt k.bits b).toNat)
theorem orK_eq (k : IntKind) (a b : Int) : orK k a b = k.wrap (BitVec.ofInt k.bits a ||| BitVec.ofInt k.bits b).toNat := Classical.choose_spec (⟨_, rfl⟩ : ∃ v : Int, v = k.wrap (BitVec.ofInt k.bits a ||| BitVec.ofInt k.bits b).toNat)
theorem bOr (m : Bool) (k : IntKind) (a b : Int) : binI m .or k a b = some ⟨True, .lit (.int k (orK k a b)), .none⟩ := by rw [orK_eq]; rfl
noncomputable def shlK (k : IntKind) (a b : Int) : Int := Classical.choose (⟨_, rfl⟩ : ∃ v : Int, v = k.wrap (a * 2 ^ (min b.toNat k.bits)))
theorem shlK_eq (k : IntKind) (a b : Int) : shlK k a b = k.wrap (a * 2 ^ (min b.toNat k.bits)) := Classical.choose_spec (⟨_, rfl⟩ : ∃ v : Int, v = k.wrap (a * 2 ^ (min b.toNat k.bits)))
theorem bShl (m : Bool) (k : IntKind) (a b : Int) : binI m .shl k a b = some ⟨0 ≤ b, .lit (.int k (shlK k a b)), .none⟩ := by rw [shlK_eq]; rfl
noncomputable def shrK (k : IntKind) (a b : Int) : Int := Classical.choose (⟨_, rfl⟩ : ∃ v : Int, v = a.fdiv (2 ^ (min b.toNat k.bits)))
theorem shrK_eq (k : IntKind) (a b : Int) : shrK k a b = a.fdiv (2 ^ (min b.toNat k.bits)) := Classical.choose_spec (⟨_, rfl⟩ : ∃ v : Int, v = a.fdiv (2 ^ (min b.toNat k.bits)))
theorem bShr (m : Bool) (k : IntKind) (a b : Int) : binI m .shr k a b = some ⟨0 ≤ b, .lit (.int k (shrK k a b)), .none⟩ := by rw [shrK_eq]; rfl
def capS (n s : Nat) : Prop := n * s ≤ 140737488355328
theorem capS1 (n s : Nat) : (n * s ≤ 140737488355328) = capS n s := rfl
theorem bAdd (m : Bool) (k : IntKind) (a b : Int) : binI m .add k a b = intRes m k (a + b) := rfl
theorem bSub (m : Bool) (k : IntKind) (a b : Int) : binI m .sub k a b = intRes m k (a - b) := rfl
theorem bMul (m : Bool) (k : IntKind) (a b : Int) : binI m .mul k a b = intRes m k (a * b) := rfl
theorem bQuo (m : Bool) (k : IntKind) (a b : Int) : binI m .quo k a b = AR.and (b ≠ 0) (intRes m k (a.tdiv b)) := rfl
theorem bRem (m : Bool) (k : IntKind) (a b : Int) : binI m .rem k a b = some ⟨b ≠ 0, .lit (.int k (a.tmod b)), .none⟩ := rfl
theorem bEql (m : Bool) (k : IntKind) (a b : Int) : binI m .eql k a b = valR (.bool (a == b)) := rfl
theorem bNeq (m : Bool) (k : IntKind) (a b : Int) : binI m .neq k a b = valR (.bool (a != b)) := rfl
theorem bLss (m : Bool) (k : IntKind) (a b : Int) : binI m .lss k a b = valR (.bool (decide (a < b))) := rfl
theorem bLeq (m : Bool) (k : IntKind) (a b : Int) : binI m .leq k a b = valR (.bool (decide (a ≤ b))) := rfl
theorem bGtr (m : Bool) (k : IntKind) (a b : Int) : binI m .gtr k a b = valR (.bool (decide (a > b))) := rfl
theorem bGeq (m : Bool) (k : IntKind) (a b : Int) : binI m .geq k a b = valR (.bool (decide (a ≥ b))) := rfl
theorem exAnd : ∃ f : IntKind → Int → Int → Int, (∀ m k a b, binI m .and k a b = some ⟨True, .lit (.int k (f k a b)), .none⟩) ∧ ∀ k a b, f k a b = andK k a b := ⟨andK, fun m k a b => bAnd m k a b, fun _ _ _ => rfl⟩
theorem exOr : ∃ f : IntKind → Int → Int → Int, (∀ m k a b, binI m .or k a b = some ⟨True, .lit (.int k (f k a b)), .none⟩) ∧ ∀ k a b, f k a b = orK k a b := ⟨orK, fun m k a b => bOr m k a b, fun _ _ _ => rfl⟩
theorem exShl : ∃ f : IntKind → Int → Int → Int, (∀ m k a b, binI m .shl k a b = some ⟨0 ≤ b, .lit (.int k (f k a b)), .none⟩) ∧ ∀ k a b, f k a b = shlK k a b := ⟨shlK, fun m k a b => bShl m k a b, fun _ _ _ => rfl⟩
theorem exShr : ∃ f : IntKind → Int → Int → Int, (∀ m k a b, binI m .shr k a b = some ⟨0 ≤ b, .lit (.int k (f k a b)), .none⟩) ∧ ∀ k a b, f k a b = shrK k a b := ⟨shrK, fun m k a b => bShr m k a b, fun _ _ _ => rfl⟩

end Go.Proofs.Ytdbhfkbfajljpaa
