/- Contracts of the functions that the laws run. -/
import Derived.Test.YtmhbciaolpamaaaRch20e
import Derived.Test.YtmhbciaolpamaaaREngB
namespace Go.Proofs.YtmhbciaolpamaaaR
open Go Go.Eng
set_option linter.unusedSimpArgs false
set_option linter.unusedVariables false
set_option maxRecDepth 10000
set_option maxHeartbeats 1000000
/-- loop.example/g03007/laws.FnExactSplitMoney -/
theorem law13 (c : Int) (wc : inR .i64 c) (l : List Int) (wl : wfLI l) : PCo Try.prog 13 [dI c, encLI l] (Tab.of []) (dB true) (Tab.of []) := by
  refine pco_of_run [] (E := ⟨[c51, c54, c55, c68, c69, c70], []⟩) (m := false) (base := 0) (Env.ok_cons c51_ok (Env.ok_cons c54_ok (Env.ok_cons c55_ok (Env.ok_cons c68_ok (Env.ok_cons c69_ok (Env.ok_cons c70_ok Env.ok_nil)))))) G_ok mix 400 6 Try.func13 (by kernel_rfl) rfl (by kernel_rfl) (by kernel_rfl) rfl ?_
  simp (config := {maxSteps := 3000000}) [Try.f13]
  have h1 : l.length ≤ maxLen := wl.1
  have hb := mSplit_len c l
  repeat' (first | omega | refine And.intro ?_ ?_ | intro _)
theorem law13_pc (D0 : D) (h0 : Sh G 9 3 D0) (D1 : D) (h1 : Sh G 9 40 D1) : PC Try.prog 13 [D0, D1] (dB true) [] := by
  obtain ⟨c, rfl, wc⟩ := sh3 (n := 8) h0
  obtain ⟨l, rfl, wl⟩ := sh40 (n := 7) h1
  exact law13 c wc l wl
/-- loop.example/g03007/laws.FnExactSalesOf -/
theorem law14 (c : Int) (wc : inR .i64 c) (w : Int) (ww : inR .i64 w) : PCo Try.prog 14 [dI c, dI w] (Tab.of []) (dB true) (Tab.of []) := by
  refine pco_of_run [] (E := ⟨[c71, c72, c73, c74, c75], []⟩) (m := false) (base := 0) (Env.ok_cons c71_ok (Env.ok_cons c72_ok (Env.ok_cons c73_ok (Env.ok_cons c74_ok (Env.ok_cons c75_ok Env.ok_nil))))) G_ok mix 400 6 Try.func14 (by kernel_rfl) rfl (by kernel_rfl) (by kernel_rfl) rfl ?_
  simp (config := {maxSteps := 3000000}) [Try.f14]
  have hb := mSales_len c w
  repeat' (first | omega | refine And.intro ?_ ?_ | intro _)
theorem law14_pc (D0 : D) (h0 : Sh G 9 3 D0) (D1 : D) (h1 : Sh G 9 3 D1) : PC Try.prog 14 [D0, D1] (dB true) [] := by
  obtain ⟨c, rfl, wc⟩ := sh3 (n := 8) h0
  obtain ⟨w, rfl, ww⟩ := sh3 (n := 8) h1
  exact law14 c wc w ww

end Go.Proofs.YtmhbciaolpamaaaR
