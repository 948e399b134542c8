/- Contracts of the functions that the laws run. -/
import Derived.Test.Ytelhilcdlfjafaach24s
import Derived.Test.YtelhilcdlfjafaarepS
import Derived.Test.YtelhilcdlfjafaaEngB
namespace Go.Proofs.Ytelhilcdlfjafaa
open Go Go.Eng
set_option linter.unusedSimpArgs false
set_option linter.unusedVariables false
set_option maxRecDepth 10000
set_option maxHeartbeats 1000000
theorem mGroups_len (l : List TReport) : (mGroups l).length ≤ l.length := by
  rw [mGroups]
  split
  · rw [gL_len]; omega
  · simp
/-- loop.example/g03007/laws.FnExactGroupReports -/
theorem law4 (l : List TReport) (wl : wfLTReport l) : PCo Try.prog 4 [encLTReport l] (Tab.of []) (dB true) (Tab.of []) := by
  refine pco_of_run [] (E := ⟨[c10, c11, c12f, c13, c14, c15, c16, c17, c18], [], []⟩) (m := false) (base := 0) (Env.ok_cons c10_ok (Env.ok_cons c11_ok (Env.ok_cons c12f_ok (Env.ok_cons c13_ok (Env.ok_cons c14_ok (Env.ok_cons c15_ok (Env.ok_cons c16_ok (Env.ok_cons c17_ok (Env.ok_cons c18_ok Env.ok_nil))))))))) G_ok mix 400 6 Try.func4 (by kernel_rfl) rfl (by kernel_rfl) (by kernel_rfl) rfl ?_
  simp (config := {maxSteps := 3000000}) [Try.f4]
  have h1 := wfRS wl
  refine ⟨h1, fun h => ?_⟩
  have h2 := szRS_ok h
  have h3 : ∀ x ∈ l, x.Colours.length ≤ 1099511627776 ∧ x.Places.length ≤ 1099511627776 := fun x hx => by have := h2.2.2 x hx; omega
  have h3' : ∀ x ∈ l, x.Colours.length ≤ 500000000 ∧ x.Places.length ≤ 500000000 := fun x hx => by have := h2.2.2 x hx; omega
  have h4 := totR_sz h2.1 h
  have h5 := totR_nn l
  have hc := mGroups_len l
  repeat' (first | exact h3 | exact h3' | omega | refine And.intro ?_ ?_ | intro _)
theorem law4_pc (D0 : D) (h0 : Sh G 9 34 D0) : PC Try.prog 4 [D0] (dB true) [] := by
  obtain ⟨l, rfl, wl⟩ := sh34 (n := 5) h0
  exact law4 l wl

end Go.Proofs.Ytelhilcdlfjafaa
