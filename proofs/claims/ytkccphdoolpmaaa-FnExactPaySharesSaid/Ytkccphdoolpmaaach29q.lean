/- Contracts of the functions that the laws run. -/
import Derived.Test.Ytkccphdoolpmaaach29p
import Derived.Test.YtkccphdoolpmaaaEngB
namespace Go.Proofs.Ytkccphdoolpmaaa
open Go Go.Eng
set_option linter.unusedSimpArgs false
set_option linter.unusedVariables false
set_option maxRecDepth 10000
set_option maxHeartbeats 1000000
/-- loop.example/g03007/laws.FnExactPayShares -/
theorem law13 (l : List TEntry) (wl : wfLTEntry l) (payer : Int) (wpayer : inR .i64 payer) (s : List TShare) (ws : wfLTShare s) (at_ : Int) (wat_ : inR .i64 at_) : PCo Try.prog 13 [encLTEntry l, dI payer, encLTShare s, dI at_] (Tab.of []) (dB true) (Tab.of []) := by
  refine pco_of_run [] (E := ⟨[c63, c64, c66, c68, c71, c72, c73, c74, c75, c76, c77], []⟩) (m := false) (base := 0) (Env.ok_cons c63_ok (Env.ok_cons c64_ok (Env.ok_cons c66_ok (Env.ok_cons c68_ok (Env.ok_cons c71_ok (Env.ok_cons c72_ok (Env.ok_cons c73_ok (Env.ok_cons c74_ok (Env.ok_cons c75_ok (Env.ok_cons c76_ok (Env.ok_cons c77_ok Env.ok_nil))))))))))) G_ok mix 400 6 Try.func13 (by kernel_rfl) rfl (by kernel_rfl) (by kernel_rfl) rfl ?_
  simp (config := {maxSteps := 3000000}) [Try.f13]
  have h1 : l.length ≤ maxLen := wl.1
  have h2 : s.length ≤ maxLen := ws.1
  have hb := mPay_len l payer s at_
  refine ⟨h1, fun h => ?_⟩
  split at h
  · omega
  · repeat' (first | exact h1 | exact h2 | omega | refine And.intro ?_ ?_ | intro _)
    all_goals first | omega | (split at * <;> omega)
theorem law13_pc (D0 : D) (h0 : Sh G 9 94 D0) (D1 : D) (h1 : Sh G 9 3 D1) (D2 : D) (h2 : Sh G 9 107 D2) (D3 : D) (h3 : Sh G 9 3 D3) : PC Try.prog 13 [D0, D1, D2, D3] (dB true) [] := by
  obtain ⟨l, rfl, wl⟩ := sh94 (n := 6) h0
  obtain ⟨payer, rfl, wpayer⟩ := sh3 (n := 8) h1
  obtain ⟨s, rfl, ws⟩ := sh107 (n := 6) h2
  obtain ⟨at_, rfl, wat_⟩ := sh3 (n := 8) h3
  exact law13 l wl payer wpayer s ws at_ wat_

end Go.Proofs.Ytkccphdoolpmaaa
