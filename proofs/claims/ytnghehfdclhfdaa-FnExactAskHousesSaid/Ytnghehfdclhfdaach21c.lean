/- Contracts of the functions that the laws run. -/
import Derived.Test.Ytnghehfdclhfdaach21b
import Derived.Test.YtnghehfdclhfdaaEngB
namespace Go.Proofs.Ytnghehfdclhfdaa
open Go Go.Eng
set_option linter.unusedSimpArgs false
set_option linter.unusedVariables false
set_option maxRecDepth 10000
set_option maxHeartbeats 1000000
theorem szLL_ok {l : List (List Int)} {left : Int} (h : 0 ≤ szDeep szL l left) : l.length ≤ left ∧ szDeep szL l left ≤ left ∧ ∀ x ∈ l, (x.length : Int) ≤ left :=
  szDeep_all (R := fun q x => (x.length : Int) ≤ q) szL_ok (fun a b x h h2 => by omega) h
/-- loop.example/g03007/laws.FnExactAskHouses -/
theorem law4 (r : TReport) (wr : wfTReport r) (houses : List (List Int)) (whouses : wfLLI houses) (salt : Int) (wsalt : inR .i64 salt) : PCo Try.prog 4 [encTReport r, encLLI houses, dI salt] (Tab.of []) (dB true) (Tab.of []) := by
  obtain ⟨r_Id, r_Kind, r_Colours, r_SizeLow, r_SizeHigh, r_Places, ⟨r_Span_From, r_Span_Until⟩⟩ := r
  refine pco_of_run [1014, 2000024] (E := ⟨[c13, c16, c17, c18, c19, c20, c21f, c22, c23, c24, c25, c26, c27], [], []⟩) (m := false) (base := 0) (Env.ok_cons c13_ok (Env.ok_cons c16_ok (Env.ok_cons c17_ok (Env.ok_cons c18_ok (Env.ok_cons c19_ok (Env.ok_cons c20_ok (Env.ok_cons c21f_ok (Env.ok_cons c22_ok (Env.ok_cons c23_ok (Env.ok_cons c24_ok (Env.ok_cons c25_ok (Env.ok_cons c26_ok (Env.ok_cons c27_ok Env.ok_nil))))))))))))) G_ok mix 400 6 Try.func4 (by kernel_rfl) rfl (by kernel_rfl) (by kernel_rfl) rfl ?_
  simp (config := {maxSteps := 3000000}) [Try.f4]
  have h1 := wfR_len wr
  simp at h1
  have h2 : ∀ x ∈ houses, x.length ≤ maxLen := fun x hx => (whouses.2 x hx).1
  have h3 := whouses.1
  have hb := askI_len ⟨r_Id, r_Kind, r_Colours, r_SizeLow, r_SizeHigh, r_Places, ⟨r_Span_From, r_Span_Until⟩⟩ salt houses houses.length
  refine ⟨h1, fun h => ?_⟩
  have hl := szR_len h
  simp at hl
  refine ⟨⟨h3, h2, h, by omega⟩, fun hs => ?_⟩
  have k1 := szLL_ok hs
  have k2 := totL_sz k1.1 hs
  have k3 := totL_nn houses
  have k4 : ∀ x ∈ houses, x.length ≤ 1099511627776 := fun x hx => by have := k1.2.2 x hx; omega
  have k5 : ∀ x ∈ houses, x.length ≤ 1073741823 := fun x hx => by have := k1.2.2 x hx; omega
  repeat' (first | exact k4 | exact k5 | omega | assumption | refine And.intro ?_ ?_ | intro _)
theorem law4_pc (D0 : D) (h0 : Sh G 9 44 D0) (D1 : D) (h1 : Sh G 9 45 D1) (D2 : D) (h2 : Sh G 9 3 D2) : PC Try.prog 4 [D0, D1, D2] (dB true) [] := by
  obtain ⟨r, rfl, wr⟩ := sh44 (n := 6) h0
  obtain ⟨houses, rfl, whouses⟩ := sh45 (n := 6) h1
  obtain ⟨salt, rfl, wsalt⟩ := sh3 (n := 8) h2
  exact law4 r wr houses whouses salt wsalt

end Go.Proofs.Ytnghehfdclhfdaa
