/- Contracts of the functions that the laws run. -/
import Derived.Test.Ytnkggfhgmdbfpaach08b
import Derived.Test.YtnkggfhgmdbfpaaEngB
namespace Go.Proofs.Ytnkggfhgmdbfpaa
open Go Go.Eng
set_option linter.unusedSimpArgs false
set_option linter.unusedVariables false
set_option maxRecDepth 10000
set_option maxHeartbeats 1000000
/-- loop.example/g03007/laws.FnExactBestOf -/
theorem law9 (r : TReport) (wr : wfTReport r) (l : List TFind) (wl : wfLTFind l) : PCo Try.prog 9 [encTReport r, encLTFind l] (Tab.of []) (dB true) (Tab.of []) := by
  obtain ⟨r_Id, r_Kind, r_Colours, r_SizeLow, r_SizeHigh, r_Places, ⟨r_Span_From, r_Span_Until⟩⟩ := r
  refine pco_of_run [1000047] (E := ⟨[c44, c45, c46, c47, c48, c49, c50, c51], []⟩) (m := false) (base := 0) (Env.ok_cons c44_ok (Env.ok_cons c45_ok (Env.ok_cons c46_ok (Env.ok_cons c47_ok (Env.ok_cons c48_ok (Env.ok_cons c49_ok (Env.ok_cons c50_ok (Env.ok_cons c51_ok Env.ok_nil)))))))) G_ok mix 400 6 Try.func9 (by kernel_rfl) rfl (by kernel_rfl) (by kernel_rfl) rfl ?_
  simp (config := {maxSteps := 3000000}) [Try.f9]
  have h1 := wfR_len wr
  simp at h1
  have h2 : l.length ≤ maxLen := wl.1
  refine ⟨h1, fun h => ?_⟩
  have h3 := szR_len h
  simp at h3
  refine ⟨⟨h2, by omega, by omega⟩, fun hs => ?_⟩
  split at hs
  · omega
  · repeat' (first | omega | refine And.intro ?_ ?_ | intro _)
theorem law9_pc (D0 : D) (h0 : Sh G 9 45 D0) (D1 : D) (h1 : Sh G 9 46 D1) : PC Try.prog 9 [D0, D1] (dB true) [] := by
  obtain ⟨r, rfl, wr⟩ := sh45 (n := 6) h0
  obtain ⟨l, rfl, wl⟩ := sh46 (n := 5) h1
  exact law9 r wr l wl

end Go.Proofs.Ytnkggfhgmdbfpaa
