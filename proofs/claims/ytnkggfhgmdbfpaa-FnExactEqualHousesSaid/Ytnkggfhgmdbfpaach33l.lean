/- Contracts of the functions that the laws run. -/
import Derived.Test.Ytnkggfhgmdbfpaach33e
import Derived.Test.Ytnkggfhgmdbfpaach36
import Derived.Test.YtnkggfhgmdbfpaaEngB
namespace Go.Proofs.Ytnkggfhgmdbfpaa
open Go Go.Eng
set_option linter.unusedSimpArgs false
set_option linter.unusedVariables false
set_option maxRecDepth 10000
set_option maxHeartbeats 1000000
/-- loop.example/g03007/laws.FnExactEqualHouses -/
theorem law20 (a : THouse) (wa : wfTHouse a) (b : THouse) (wb : wfTHouse b) : PCo Try.prog 20 [encTHouse a, encTHouse b] (Tab.of []) (dB true) (Tab.of []) := by
  refine pco_of_run [1000094] (E := ⟨[c92, c93, c94, c95, c96], []⟩) (m := false) (base := 0) (Env.ok_cons c92_ok (Env.ok_cons c93_ok (Env.ok_cons c94_ok (Env.ok_cons c95_ok (Env.ok_cons c96_ok Env.ok_nil))))) G_ok mix 400 6 Try.func20 (by kernel_rfl) rfl (by kernel_rfl) (by kernel_rfl) rfl ?_
  simp (config := {maxSteps := 3000000}) [Try.f20]
  have h1 := wfH_len wa
  have h1b := wfH_len wb
  refine ⟨h1, fun hs => ?_⟩
  obtain ⟨k0, k1, ⟨k2, k3⟩, k4, k5, k6, k7, k8⟩ := szHo_ok hs
  have k9 : ∀ x ∈ a.Secrets, x.Marks.length ≤ 1073741823 := fun x hx => by have := k3 x hx; omega
  refine ⟨⟨h1b, by omega, by omega⟩, fun hs2 => ?_⟩
  obtain ⟨_, m1, ⟨m2, m3⟩, m4, m5, m6, m7, m8⟩ := szHo_ok hs2
  have m9 : ∀ x ∈ b.Secrets, x.Marks.length ≤ 1073741823 := fun x hx => by have := m3 x hx; omega
  repeat' (first | exact k9 | exact m9 | omega | refine And.intro ?_ ?_ | intro _)
  all_goals trace_state
theorem law20_pc (D0 : D) (h0 : Sh G 9 118 D0) (D1 : D) (h1 : Sh G 9 118 D1) : PC Try.prog 20 [D0, D1] (dB true) [] := by
  obtain ⟨a, rfl, wa⟩ := sh118 (n := 3) h0
  obtain ⟨b, rfl, wb⟩ := sh118 (n := 3) h1
  exact law20 a wa b wb

end Go.Proofs.Ytnkggfhgmdbfpaa
