/- Contracts of the functions that the laws run. -/
import Derived.Test.Ytnkggfhgmdbfpaach02
import Derived.Test.YtnkggfhgmdbfpaaEngB
namespace Go.Proofs.Ytnkggfhgmdbfpaa
open Go Go.Eng
set_option linter.unusedSimpArgs false
set_option linter.unusedVariables false
set_option maxRecDepth 10000
set_option maxHeartbeats 1000000
/-- loop.example/g03007/laws.FnExactAppendUvarint -/
theorem law3 (l : List Int) (wl : wfLU l) (n : Int) (wn : inR .i64 n) : PCo Try.prog 3 [encLU l, dI n] (Tab.of []) (dB true) (Tab.of []) := by
  refine pco_of_run [] (E := ⟨[c24, c25, c26, c27, c28, c29], []⟩) (m := false) (base := 0) (Env.ok_cons c24_ok (Env.ok_cons c25_ok (Env.ok_cons c26_ok (Env.ok_cons c27_ok (Env.ok_cons c28_ok (Env.ok_cons c29_ok Env.ok_nil)))))) G_ok mix 400 6 Try.func3 (by kernel_rfl) rfl (by kernel_rfl) (by kernel_rfl) rfl ?_
  simp (config := {maxSteps := 3000000}) [Try.f3]
  have h1 : l.length ≤ maxLen := wl.1
  have hb := mPutU_len l n
  repeat' (first | omega | refine And.intro ?_ ?_ | intro _)
theorem law3_pc (D0 : D) (h0 : Sh G 9 22 D0) (D1 : D) (h1 : Sh G 9 3 D1) : PC Try.prog 3 [D0, D1] (dB true) [] := by
  obtain ⟨l, rfl, wl⟩ := sh22 (n := 7) h0
  obtain ⟨n, rfl, wn⟩ := sh3 (n := 8) h1
  exact law3 l wl n wn
/-- loop.example/g03007/laws.FnExactAppendBytes -/
theorem law5 (l : List Int) (wl : wfLU l) (d : List Int) (wd : wfLU d) : PCo Try.prog 5 [encLU l, encLU d] (Tab.of []) (dB true) (Tab.of []) := by
  refine pco_of_run [] (E := ⟨[c25, c27, c28, c29, c32, c33], []⟩) (m := false) (base := 0) (Env.ok_cons c25_ok (Env.ok_cons c27_ok (Env.ok_cons c28_ok (Env.ok_cons c29_ok (Env.ok_cons c32_ok (Env.ok_cons c33_ok Env.ok_nil)))))) G_ok mix 400 6 Try.func5 (by kernel_rfl) rfl (by kernel_rfl) (by kernel_rfl) rfl ?_
  simp (config := {maxSteps := 3000000}) [Try.f5]
  have h1 : l.length ≤ maxLen := wl.1
  have h2 : d.length ≤ maxLen := wd.1
  have hb := mPutU_len l d.length
  have hb2 : (mAppB l d).length = (mPutU l d.length).length + d.length := by simp [mAppB]
  repeat' (first | omega | refine And.intro ?_ ?_ | intro _)
theorem law5_pc (D0 : D) (h0 : Sh G 9 22 D0) (D1 : D) (h1 : Sh G 9 22 D1) : PC Try.prog 5 [D0, D1] (dB true) [] := by
  obtain ⟨l, rfl, wl⟩ := sh22 (n := 7) h0
  obtain ⟨d, rfl, wd⟩ := sh22 (n := 7) h1
  exact law5 l wl d wd
/-- loop.example/g03007/laws.FnExactEncodeInts -/
theorem law7 (l : List Int) (wl : wfLI l) : PCo Try.prog 7 [encLI l] (Tab.of []) (dB true) (Tab.of []) := by
  refine pco_of_run [] (E := ⟨[c27, c28, c29, c36, c37, c38, c39, c40], []⟩) (m := false) (base := 0) (Env.ok_cons c27_ok (Env.ok_cons c28_ok (Env.ok_cons c29_ok (Env.ok_cons c36_ok (Env.ok_cons c37_ok (Env.ok_cons c38_ok (Env.ok_cons c39_ok (Env.ok_cons c40_ok Env.ok_nil)))))))) G_ok mix 400 6 Try.func7 (by kernel_rfl) rfl (by kernel_rfl) (by kernel_rfl) rfl ?_
  simp (config := {maxSteps := 3000000}) [Try.f7]
  have h1 : l.length ≤ maxLen := wl.1
  have hb := encAll_len l l.length (by omega)
  rw [List.take_length] at hb
  repeat' (first | omega | refine And.intro ?_ ?_ | intro _)
theorem law7_pc (D0 : D) (h0 : Sh G 9 34 D0) : PC Try.prog 7 [D0] (dB true) [] := by
  obtain ⟨l, rfl, wl⟩ := sh34 (n := 7) h0
  exact law7 l wl
/-- loop.example/g03007/laws.FnExactReadUvarint -/
theorem law4 (b : List Int) (wb : wfLU b) (at_ : Int) (wat_ : inR .i64 at_) : PCo Try.prog 4 [encLU b, dI at_] (Tab.of []) (dB true) (Tab.of []) := by
  refine pco_of_run [] (E := ⟨[c25, c27, c30, c31], []⟩) (m := false) (base := 0) (Env.ok_cons c25_ok (Env.ok_cons c27_ok (Env.ok_cons c30_ok (Env.ok_cons c31_ok Env.ok_nil)))) G_ok mix 400 6 Try.func4 (by kernel_rfl) rfl (by kernel_rfl) (by kernel_rfl) rfl ?_
  simp (config := {maxSteps := 3000000}) [Try.f4]
  have h1 : b.length ≤ maxLen := wb.1
  have hb : ∀ x ∈ b, 0 ≤ x ∧ x ≤ 255 := fun x hx => by have := wb.2 x hx; simpa [inR] using this
  repeat' (first | exact hb | omega | refine And.intro ?_ ?_ | intro _)
theorem law4_pc (D0 : D) (h0 : Sh G 9 22 D0) (D1 : D) (h1 : Sh G 9 3 D1) : PC Try.prog 4 [D0, D1] (dB true) [] := by
  obtain ⟨b, rfl, wb⟩ := sh22 (n := 7) h0
  obtain ⟨at_, rfl, wat_⟩ := sh3 (n := 8) h1
  exact law4 b wb at_ wat_

end Go.Proofs.Ytnkggfhgmdbfpaa
