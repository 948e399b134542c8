/- Contracts of the functions that the laws run. -/
import Derived.Test.Ytnkggfhgmdbfpaach02d
import Derived.Test.YtnkggfhgmdbfpaaEngB
namespace Go.Proofs.Ytnkggfhgmdbfpaa
open Go Go.Eng
set_option linter.unusedSimpArgs false
set_option linter.unusedVariables false
set_option maxRecDepth 10000
set_option maxHeartbeats 1000000
theorem mRB_len {b : List Int} {a m : Int} : ((mRB b a m).getD ([], 0)).1.length ≤ b.length := by
  cases h : mRB b a m with
  | none => simp
  | some r =>
    simp only [mRB] at h
    split at h
    · cases h
    · split at h
      · cases h
      · simp only [Option.some.injEq] at h
        subst h; simp; omega
/-- loop.example/g03007/laws.FnExactReadBytes -/
theorem law6 (b : List Int) (wb : wfLU b) (a : Int) (wa : inR .i64 a) (m : Int) (wm : inR .i64 m) : PCo Try.prog 6 [encLU b, dI a, dI m] (Tab.of []) (dB true) (Tab.of []) := by
  refine pco_of_run [] (E := ⟨[c25, c27, c28, c29, c34, c35], []⟩) (m := false) (base := 0) (Env.ok_cons c25_ok (Env.ok_cons c27_ok (Env.ok_cons c28_ok (Env.ok_cons c29_ok (Env.ok_cons c34_ok (Env.ok_cons c35_ok Env.ok_nil)))))) G_ok mix 400 6 Try.func6 (by kernel_rfl) rfl (by kernel_rfl) (by kernel_rfl) rfl ?_
  simp (config := {maxSteps := 3000000}) [Try.f6]
  have h1 : b.length ≤ maxLen := wb.1
  have hb : ∀ x ∈ b, 0 ≤ x ∧ x ≤ 255 := fun x hx => by have := wb.2 x hx; simpa [inR] using this
  have hl := mRB_len (b := b) (a := a) (m := m)
  repeat' (first | exact hb | omega | refine And.intro ?_ ?_ | intro _)
  all_goals trace_state
theorem law6_pc (D0 : D) (h0 : Sh G 9 22 D0) (D1 : D) (h1 : Sh G 9 3 D1) (D2 : D) (h2 : Sh G 9 3 D2) : PC Try.prog 6 [D0, D1, D2] (dB true) [] := by
  obtain ⟨b, rfl, wb⟩ := sh22 (n := 7) h0
  obtain ⟨a, rfl, wa⟩ := sh3 (n := 8) h1
  obtain ⟨m, rfl, wm⟩ := sh3 (n := 8) h2
  exact law6 b wb a wa m wm
/-- loop.example/g03007/laws.FnExactDecodeInts -/
theorem law8 (b : List Int) (wb : wfLU b) (a : Int) (wa : inR .i64 a) (m : Int) (wm : inR .i64 m) : PCo Try.prog 8 [encLU b, dI a, dI m] (Tab.of []) (dB true) (Tab.of []) := by
  refine pco_of_run [] (E := ⟨[c25, c27, c28, c39, c40, c41, c42, c43], []⟩) (m := false) (base := 0) (Env.ok_cons c25_ok (Env.ok_cons c27_ok (Env.ok_cons c28_ok (Env.ok_cons c39_ok (Env.ok_cons c40_ok (Env.ok_cons c41_ok (Env.ok_cons c42_ok (Env.ok_cons c43_ok Env.ok_nil)))))))) G_ok mix 400 6 Try.func8 (by kernel_rfl) rfl (by kernel_rfl) (by kernel_rfl) rfl ?_
  simp (config := {maxSteps := 3000000}) [Try.f8]
  have h1 : b.length ≤ maxLen := wb.1
  have hb : ∀ x ∈ b, 0 ≤ x ∧ x ≤ 255 := fun x hx => by have := wb.2 x hx; simpa [inR] using this
  have hl := mDecI_len (b := b) (a := a) (n := m)
  repeat' (first | exact hb | omega | refine And.intro ?_ ?_ | intro _)
  all_goals trace_state
theorem law8_pc (D0 : D) (h0 : Sh G 9 22 D0) (D1 : D) (h1 : Sh G 9 3 D1) (D2 : D) (h2 : Sh G 9 3 D2) : PC Try.prog 8 [D0, D1, D2] (dB true) [] := by
  obtain ⟨b, rfl, wb⟩ := sh22 (n := 7) h0
  obtain ⟨a, rfl, wa⟩ := sh3 (n := 8) h1
  obtain ⟨m, rfl, wm⟩ := sh3 (n := 8) h2
  exact law8 b wb a wa m wm

end Go.Proofs.Ytnkggfhgmdbfpaa
