/- Contracts of the functions that the laws run. -/
import Derived.Test.YtdbhfkbfajljpaahelpA
import Derived.Test.YtdbhfkbfajljpaaEngB
namespace Go.Proofs.Ytdbhfkbfajljpaa
open Go Go.Eng
set_option linter.unusedSimpArgs false
set_option linter.unusedVariables false
set_option maxRecDepth 10000
set_option maxHeartbeats 1000000
theorem Repx_pre {F : Nat → Prop} {h : Array Obj} {s : Nat} {c : Array Value} {xs ys : List D} (r : Repx F h Beta.none s c (xs ++ ys) 0) : Repx F h Beta.none s c xs 0 := by
  have := Repx.take_drop r 0 xs.length
  simpa using this
theorem tabOne {nm : Nm} {o : OO} {n : Nm} {o' : OO} (h : (Tab.of [(nm, o)]).get n = some o') : n = nm ∧ o' = o := by
  simp only [Tab.of, Tab.get, Tab.set] at h
  split at h
  · rename_i e; simp only [Option.some.injEq] at h; exact ⟨e.symm, h.symm⟩
  · simp [Tab.nil] at h
/-- the tail of a new row is forgotten -/
theorem pco_cut {P : Program} {f : FuncId} {ds : List D} {tin : Tab} {r z : D} {s : Nat} {xs ys : List D} (h : PCo P f ds tin r (Tab.of [((0, 1), .arr false s z (xs ++ ys))])) : PCo P f ds tin r (Tab.of [((0, 1), .arr false s z xs)]) := by
  refine ⟨h.1, fun w F β γ vs O G hr => (h.2 w F β γ vs O G hr).mono fun e w' => ?_⟩
  rintro ⟨v, F', β', γ', g', he, O', hβ, hv⟩
  refine ⟨v, F', β', γ', g', he, ?_, hβ, hv⟩
  have g1 : (Tab.of [((0, 1), OO.arr false s z (xs ++ ys))]).get (0, 1) = some (.arr false s z (xs ++ ys)) := by simp [Tab.of, Tab.get, Tab.set]
  exact {
    F0F := O'.F0F, Fsrc := O'.Fsrc, Flt := O'.Flt, keep := O'.keep, size := O'.size, os := O'.os, tp := O'.tp, out := O'.out
    gen := fun nm x h => by
      rcases O'.gen nm x h with h1 | ⟨h1, h2⟩
      · exact .inl h1
      · refine .inr ⟨h1, ?_⟩
        obtain ⟨o, ho⟩ := Option.isSome_iff_exists.1 h2
        obtain ⟨rfl, _⟩ := tabOne ho
        simp [Tab.of, Tab.get, Tab.set]
    own := fun nm o h => by
      obtain ⟨rfl, rfl⟩ := tabOne h
      obtain ⟨bo, cap, h1, h2, h3⟩ := O'.own _ _ g1
      refine ⟨bo, cap, h1, fun hb => ⟨(List.append_eq_nil_iff.1 (h2 hb).1).1, (h2 hb).2⟩, fun b hb => ?_⟩
      obtain ⟨k1, c, e, k2, k3, k4, k5⟩ := h3 b hb
      refine ⟨k1, c, e, k2, k3, by simp at k4; omega, ?_⟩
      simp only [RowP_false] at k5 ⊢
      exact Repx_pre k5
    fps := fun nm o h hd x hx => by
      obtain ⟨rfl, rfl⟩ := tabOne h
      exact O'.fps _ _ g1 (by simp) x hx
    dis := fun nm nm' o o' h h' _ _ hne => by
      obtain ⟨rfl, rfl⟩ := tabOne h
      obtain ⟨rfl, rfl⟩ := tabOne h'
      exact absurd rfl hne }

end Go.Proofs.Ytdbhfkbfajljpaa
