/- Contracts of the functions that the laws run. -/
import Derived.Test.Ytnghehfdclhfdaach22a
import Derived.Test.YtnghehfdclhfdaaEngB
namespace Go.Proofs.Ytnghehfdclhfdaa
open Go Go.Eng
set_option linter.unusedSimpArgs false
set_option linter.unusedVariables false
set_option maxRecDepth 10000
set_option maxHeartbeats 1000000
theorem wfPS {l : List TParcel} (h : wfLTParcel l) : l.length ≤ maxLen ∧ ∀ x ∈ l, x.Things.length ≤ maxLen := ⟨h.1, fun x hx => wfP_len (h.2 x hx)⟩
theorem szP_ok (r : TParcel) (q : Int) (h : 0 ≤ szP r q) : szP r q ≤ q ∧ (r.Things.length : Int) ≤ q := ⟨(szP_len h).2, (szP_len h).1⟩
theorem szPS_ok {l : List TParcel} {left : Int} (h : 0 ≤ szDeep szP l left) : l.length ≤ left ∧ szDeep szP l left ≤ left ∧ ∀ x ∈ l, (x.Things.length : Int) ≤ left :=
  szDeep_all (R := fun q x => (x.Things.length : Int) ≤ q) szP_ok (fun a b x h h2 => by omega) h
/-- loop.example/g03007/laws.FnExactSendAll -/
theorem law5 (l : List THand) (wl : wfLTHand l) (x : List TParcel) (wx : wfLTParcel x) : PCo Try.prog 5 [encLTHand l, encLTParcel x] (Tab.of []) (dB true) (Tab.of []) := by
  refine pco_of_run [] (E := ⟨[c28, c29, c30, c31, c32f, c33, c34, c35, c36, c37, c38], [], []⟩) (m := false) (base := 0) (Env.ok_cons c28_ok (Env.ok_cons c29_ok (Env.ok_cons c30_ok (Env.ok_cons c31_ok (Env.ok_cons c32f_ok (Env.ok_cons c33_ok (Env.ok_cons c34_ok (Env.ok_cons c35_ok (Env.ok_cons c36_ok (Env.ok_cons c37_ok (Env.ok_cons c38_ok Env.ok_nil))))))))))) G_ok mix 400 6 Try.func5 (by kernel_rfl) rfl (by kernel_rfl) (by kernel_rfl) rfl ?_
  simp (config := {maxSteps := 3000000}) [Try.f5]
  have h1 : l.length ≤ maxLen := wl.1
  have h2 := wfPS wx
  have hb := sAll_bd l x (Nat.le_refl x.length)
  refine ⟨h1, fun h => ?_⟩
  have hs : l.length ≤ 1048576 := by split at h <;> omega
  have e : (if (1048576 : Int) - (l.length : Int) < 0 then (-1 : Int) else (1048576 : Int) - (l.length : Int)) = (1048576 : Int) - (l.length : Int) := by rw [if_neg (by omega)]
  rw [e] at h ⊢
  refine ⟨⟨h2.1, h2.2, h, by omega⟩, fun h3 => ?_⟩
  have h4 := szPS_ok h3
  have h5 : ∀ r ∈ x, r.Things.length ≤ 1099511627776 := fun r hr => by have := h4.2.2 r hr; omega
  have h6 := totP_sz h4.1 h3
  have h7 := totP_nn x
  repeat' (first | exact h5 | omega | assumption | refine And.intro ?_ ?_ | intro _)
theorem law5_pc (D0 : D) (h0 : Sh G 9 58 D0) (D1 : D) (h1 : Sh G 9 59 D1) : PC Try.prog 5 [D0, D1] (dB true) [] := by
  obtain ⟨l, rfl, wl⟩ := sh58 (n := 6) h0
  obtain ⟨x, rfl, wx⟩ := sh59 (n := 5) h1
  exact law5 l wl x wx

end Go.Proofs.Ytnghehfdclhfdaa
