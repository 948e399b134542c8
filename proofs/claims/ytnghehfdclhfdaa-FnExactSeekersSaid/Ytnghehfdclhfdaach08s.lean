/- Contracts of the functions that the laws run. -/
import Derived.Test.Ytnghehfdclhfdaach08r
import Derived.Test.YtnghehfdclhfdaarepS
import Derived.Test.YtnghehfdclhfdaaEngB
namespace Go.Proofs.Ytnghehfdclhfdaa
open Go Go.Eng
set_option linter.unusedSimpArgs false
set_option linter.unusedVariables false
set_option maxRecDepth 10000
set_option maxHeartbeats 1000000
theorem mSeek_len (f : TFind) (l : List TReport) : (mSeek f l).length ≤ l.length := by
  rw [mSeek]
  split
  · have h := pick_take_len (want := fun r => mCanBe r f) (f := nReport) l l.length
    rw [List.take_length] at h
    exact h
  · simp
/-- loop.example/g03007/laws.FnExactSeekers -/
theorem law3 (f : TFind) (wf : wfTFind f) (l : List TReport) (wl : wfLTReport l) : PCo Try.prog 3 [encTFind f, encLTReport l] (Tab.of []) (dB true) (Tab.of []) := by
  obtain ⟨⟨f_Thing_Id, f_Thing_Kind, f_Thing_Colour, f_Thing_Size, f_Thing_Worth⟩, f_Place, f_At, f_Finder⟩ := f
  refine pco_of_run [] (E := ⟨[c8, c9, c10, c11f, c12, c13, c14, c15, c16, c17], [], []⟩) (m := false) (base := 0) (Env.ok_cons c8_ok (Env.ok_cons c9_ok (Env.ok_cons c10_ok (Env.ok_cons c11f_ok (Env.ok_cons c12_ok (Env.ok_cons c13_ok (Env.ok_cons c14_ok (Env.ok_cons c15_ok (Env.ok_cons c16_ok (Env.ok_cons c17_ok Env.ok_nil)))))))))) G_ok mix 400 6 Try.func3 (by kernel_rfl) rfl (by kernel_rfl) (by kernel_rfl) rfl ?_
  simp (config := {maxSteps := 3000000}) [Try.f3]
  have h1 := wfRS wl
  refine ⟨h1, fun h => ?_⟩
  have h2 := szRS_ok h
  have h3 : ∀ x ∈ l, x.Colours.length ≤ 1099511627776 ∧ x.Places.length ≤ 1099511627776 := fun x hx => by have := h2.2.2 x hx; omega
  have h4 := totR_sz h2.1 h
  have h5 := totR_nn l
  have hc := mSeek_len ⟨⟨f_Thing_Id, f_Thing_Kind, f_Thing_Colour, f_Thing_Size, f_Thing_Worth⟩, f_Place, f_At, f_Finder⟩ l
  repeat' (first | exact h3 | omega | refine And.intro ?_ ?_ | intro _)
theorem law3_pc (D0 : D) (h0 : Sh G 9 25 D0) (D1 : D) (h1 : Sh G 9 26 D1) : PC Try.prog 3 [D0, D1] (dB true) [] := by
  obtain ⟨f, rfl, wf⟩ := sh25 (n := 6) h0
  obtain ⟨l, rfl, wl⟩ := sh26 (n := 5) h1
  exact law3 f wf l wl

end Go.Proofs.Ytnghehfdclhfdaa
