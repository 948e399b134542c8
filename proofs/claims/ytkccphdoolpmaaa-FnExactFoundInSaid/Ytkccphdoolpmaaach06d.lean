/- Contracts of the functions that the laws run. -/
import Derived.Test.Ytkccphdoolpmaaach06c
import Derived.Test.YtkccphdoolpmaaaEngB
namespace Go.Proofs.Ytkccphdoolpmaaa
open Go Go.Eng
set_option linter.unusedSimpArgs false
set_option linter.unusedVariables false
set_option maxRecDepth 10000
set_option maxHeartbeats 1000000
/-- loop.example/g03007/laws.FnExactFoundIn -/
theorem law6 (l : List TFind) (wl : wfLTFind l) (s : TSpan) (ws : wfTSpan s) : PCo Try.prog 6 [encLTFind l, encTSpan s] (Tab.of []) (dB true) (Tab.of []) := by
  obtain ⟨s_From, s_Until⟩ := s
  refine pco_of_run [1005, 1024, 2000018, 2000021, 2000022, 2000023, 2000028, 2000029, 2000033, 2000035] (E := ⟨[c18, c21, c22, c23, c25, c28, c29, c33, c34, c35], []⟩) (m := false) (base := 0) (Env.ok_cons c18_ok (Env.ok_cons c21_ok (Env.ok_cons c22_ok (Env.ok_cons c23_ok (Env.ok_cons c25_ok (Env.ok_cons c28_ok (Env.ok_cons c29_ok (Env.ok_cons c33_ok (Env.ok_cons c34_ok (Env.ok_cons c35_ok Env.ok_nil)))))))))) G_ok mix 400 6 Try.func6 (by kernel_rfl) rfl (by kernel_rfl) (by kernel_rfl) rfl ?_
  simp [Try.f6]
  have h1 : l.length ≤ maxLen := wl.1
  have hb := pick_len (want := heldIn ⟨s_From, s_Until⟩) (f := nFind) l
  refine ⟨h1, fun h => ?_⟩
  split at h
  · omega
  · repeat' (first | omega | refine And.intro ?_ ?_ | intro _)
theorem law6_pc (D0 : D) (h0 : Sh G 9 31 D0) (D1 : D) (h1 : Sh G 9 51 D1) : PC Try.prog 6 [D0, D1] (dB true) [] := by
  obtain ⟨l, rfl, wl⟩ := sh31 (n := 5) h0
  obtain ⟨s, rfl, ws⟩ := sh51 (n := 7) h1
  exact law6 l wl s ws

end Go.Proofs.Ytkccphdoolpmaaa
