/- Contracts of the functions that the laws run. -/
import Derived.Test.YtmhbciaolpamaaaRch19c
import Derived.Test.YtmhbciaolpamaaaREngB
namespace Go.Proofs.YtmhbciaolpamaaaR
open Go Go.Eng
set_option linter.unusedSimpArgs false
set_option linter.unusedVariables false
set_option maxRecDepth 10000
set_option maxHeartbeats 1000000
/-- loop.example/g03007/laws.FnExactWithoutBid -/
theorem law12 (l : List TBid) (wl : wfLTBid l) (k : Int) (wk : inR .i64 k) : PCo Try.prog 12 [encLTBid l, dI k] (Tab.of []) (dB true) (Tab.of []) := by
  refine pco_of_run [] (E := ⟨[c61, c62, c63, c64, c65, c66, c67], []⟩) (m := false) (base := 0) (Env.ok_cons c61_ok (Env.ok_cons c62_ok (Env.ok_cons c63_ok (Env.ok_cons c64_ok (Env.ok_cons c65_ok (Env.ok_cons c66_ok (Env.ok_cons c67_ok Env.ok_nil))))))) G_ok mix 400 6 Try.func12 (by kernel_rfl) rfl (by kernel_rfl) (by kernel_rfl) rfl ?_
  simp (config := {maxSteps := 3000000}) [Try.f12]
  have h1 : l.length ≤ maxLen := wl.1
  have hb := mWithout_len l k
  repeat' (first | omega | refine And.intro ?_ ?_ | intro _)
  all_goals trace_state
theorem law12_pc (D0 : D) (h0 : Sh G 9 76 D0) (D1 : D) (h1 : Sh G 9 3 D1) : PC Try.prog 12 [D0, D1] (dB true) [] := by
  obtain ⟨l, rfl, wl⟩ := sh76 (n := 6) h0
  obtain ⟨k, rfl, wk⟩ := sh3 (n := 8) h1
  exact law12 l wl k wk

end Go.Proofs.YtmhbciaolpamaaaR
