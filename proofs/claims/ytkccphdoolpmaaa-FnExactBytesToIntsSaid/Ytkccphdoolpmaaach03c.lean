/- Contracts of the functions that the laws run. -/
import Derived.Test.Ytkccphdoolpmaaach03b
import Derived.Test.YtkccphdoolpmaaaEngB
namespace Go.Proofs.Ytkccphdoolpmaaa
open Go Go.Eng
set_option linter.unusedSimpArgs false
set_option linter.unusedVariables false
set_option maxRecDepth 10000
set_option maxHeartbeats 1000000
/-- loop.example/g03007/laws.FnExactBytesToInts -/
theorem law3 (b : List Int) (wb : wfLU b) : PCo Try.prog 3 [encLU b] (Tab.of []) (dB true) (Tab.of []) := by
  refine pco_of_run [] (E := ⟨[c15, c16, c17, c18, c19, c20, c21, c22], []⟩) (m := false) (base := 0) (Env.ok_cons c15_ok (Env.ok_cons c16_ok (Env.ok_cons c17_ok (Env.ok_cons c18_ok (Env.ok_cons c19_ok (Env.ok_cons c20_ok (Env.ok_cons c21_ok (Env.ok_cons c22_ok Env.ok_nil)))))))) G_ok mix 400 6 Try.func3 (by kernel_rfl) rfl (by kernel_rfl) (by kernel_rfl) rfl ?_
  simp [Try.f3]
  have h1 : b.length ≤ maxLen := wb.1
  have hb : ∀ x ∈ b, 0 ≤ x ∧ x ≤ 255 := fun x hx => by have := wb.2 x hx; simpa [inR] using this
  have hl : (mInts b).length = b.length + 1 := by simp [mInts]
  simp only [hl]
  repeat' (first | exact hb | omega | assumption | refine And.intro ?_ ?_ | intro _)
  all_goals trace_state
theorem law3_pc (D0 : D) (h0 : Sh G 9 22 D0) : PC Try.prog 3 [D0] (dB true) [] := by
  obtain ⟨b, rfl, wb⟩ := sh22 (n := 7) h0
  exact law3 b wb

end Go.Proofs.Ytkccphdoolpmaaa
