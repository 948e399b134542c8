/- Contracts of the functions that the laws run. -/
import Derived.Test.Ytmbgihklhmhilaach03e
import Derived.Test.YtmbgihklhmhilaaEngB
namespace Go.Proofs.Ytmbgihklhmhilaa
open Go Go.Eng
set_option linter.unusedSimpArgs false
set_option linter.unusedVariables false
set_option maxRecDepth 10000
set_option maxHeartbeats 1000000
/-- loop.example/g03007/laws.FnExactEncrypt -/
theorem law3 (k : Int) (wk : inR .i64 k) (b : List Int) (wb : wfLU b) : PCo Try.prog 3 [dI k, encLU b] (Tab.of []) (dB true) (Tab.of []) := by
  refine pco_of_run [] (E := ⟨[c24, c25, c26, c27, c28, c29], []⟩) (m := false) (base := 0) (Env.ok_cons c24_ok (Env.ok_cons c25_ok (Env.ok_cons c26_ok (Env.ok_cons c27_ok (Env.ok_cons c28_ok (Env.ok_cons c29_ok Env.ok_nil)))))) G_ok mix 400 6 Try.func3 (by kernel_rfl) rfl (by kernel_rfl) (by kernel_rfl) rfl ?_
  simp (config := {maxSteps := 3000000}) [Try.f3]
  have h1 : b.length ≤ maxLen := wb.1
  have hb : ∀ x ∈ b, 0 ≤ x ∧ x ≤ 255 := fun x hx => by have := wb.2 x hx; simpa [inR] using this
  have hl := mEnc_len k b
  have hl2 := mDec_len k b
  repeat' (first | exact hb | omega | assumption | refine And.intro ?_ ?_ | intro _)
theorem law3_pc (D0 : D) (h0 : Sh G 9 3 D0) (D1 : D) (h1 : Sh G 9 22 D1) : PC Try.prog 3 [D0, D1] (dB true) [] := by
  obtain ⟨k, rfl, wk⟩ := sh3 (n := 8) h0
  obtain ⟨b, rfl, wb⟩ := sh22 (n := 7) h1
  exact law3 k wk b wb
/-- loop.example/g03007/laws.FnExactDecrypt -/
theorem law4 (k : Int) (wk : inR .i64 k) (b : List Int) (wb : wfLU b) : PCo Try.prog 4 [dI k, encLU b] (Tab.of []) (dB true) (Tab.of []) := by
  refine pco_of_run [] (E := ⟨[c25, c27, c28, c29, c30, c31], []⟩) (m := false) (base := 0) (Env.ok_cons c25_ok (Env.ok_cons c27_ok (Env.ok_cons c28_ok (Env.ok_cons c29_ok (Env.ok_cons c30_ok (Env.ok_cons c31_ok Env.ok_nil)))))) G_ok mix 400 6 Try.func4 (by kernel_rfl) rfl (by kernel_rfl) (by kernel_rfl) rfl ?_
  simp (config := {maxSteps := 3000000}) [Try.f4]
  have h1 : b.length ≤ maxLen := wb.1
  have hb : ∀ x ∈ b, 0 ≤ x ∧ x ≤ 255 := fun x hx => by have := wb.2 x hx; simpa [inR] using this
  have hl := mEnc_len k b
  have hl2 := mDec_len k b
  repeat' (first | exact hb | omega | assumption | refine And.intro ?_ ?_ | intro _)
theorem law4_pc (D0 : D) (h0 : Sh G 9 3 D0) (D1 : D) (h1 : Sh G 9 22 D1) : PC Try.prog 4 [D0, D1] (dB true) [] := by
  obtain ⟨k, rfl, wk⟩ := sh3 (n := 8) h0
  obtain ⟨b, rfl, wb⟩ := sh22 (n := 7) h1
  exact law4 k wk b wb

end Go.Proofs.Ytmbgihklhmhilaa
