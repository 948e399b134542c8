/- Contracts of the functions that the laws run. -/
import Derived.Test.YtpnfkjbnhholfaaEngB
import Derived.Test.YtpnfkjbnhholfaaEngB
import Derived.Test.Ytpnfkjbnhholfaalw12m
import Derived.Test.YtpnfkjbnhholfaaEngB
namespace Go.Proofs.Ytpnfkjbnhholfaa
open Go Go.Eng
set_option linter.unusedSimpArgs false
set_option linter.unusedVariables false
set_option maxRecDepth 10000
set_option maxHeartbeats 1000000
/-- loop.example/g03007/laws.FnTrials -/
theorem law4 (l : List Int) (wl : wfLU l) : PCo Try.prog 4 [encLU l] (Tab.of []) (dB true) (Tab.of []) := by
  refine pco_of_run [15] (E := ⟨[c9, c21, c22, c23, c24, c25, c26, c27, c28, c29, c30], [], []⟩) (m := false) (base := 0) (Env.ok_cons c9_ok (Env.ok_cons c21_ok (Env.ok_cons c22_ok (Env.ok_cons c23_ok (Env.ok_cons c24_ok (Env.ok_cons c25_ok (Env.ok_cons c26_ok (Env.ok_cons c27_ok (Env.ok_cons c28_ok (Env.ok_cons c29_ok (Env.ok_cons c30_ok Env.ok_nil))))))))))) G_ok mix 400 6 Try.func4 (by kernel_rfl) rfl (by kernel_rfl) (by kernel_rfl) rfl ?_
  have hl : l.length ≤ maxLen := wl.1
  by_cases hbig : 1048576 < l.length
  · simp [Try.f4, hbig]
  · have hp : l.length ≤ 2097152 := by omega
    have b1 := v21_ok l hp
    have b2 := v30_ok l hp
    have h1 := c21_fn l
    have h2 := c30_fn l
    generalize v21 l = X at *
    generalize v30 l = Y at *
    obtain ⟨L, x, a⟩ := X
    obtain ⟨A, t, z⟩ := Y
    simp only at b1 b2 h1 h2
    obtain ⟨m1, m2, m3, m4⟩ := all_mono A z t
    by_cases hq : mNextQ L x = 0
    · simp (config := {maxSteps := 3000000}) [Try.f4, hbig, h1, h2, -c21_fn, -c30_fn, hq, give_no hq]
      repeat' (with_reducible first | apply And.intro | intro _)
      all_goals try (first | omega | assumption | (simp; done) | (simp only [below_eq, Int.reduceLT]; omega))
      · refine loop_inv (fun p : Nat => (p : Int) ≤ min 3 (L.length : Int)) (fun p => [(0, encLU l), (3, encLTMark L), (9, .ptr (0, 1) 0), (10, dI p)]) (fun p => [((0, 1), .box (encTTrial ⟨7, p, p, 0⟩))]) 2 (fun p => 3 - p) 0 400 (by simp) (by simp; omega) (by simp) ?_
        intro p hp3
        have hlm : mAreMarks L = true := by assumption
        have hl0 : 0 < L.length := by assumption
        obtain ⟨a1, a2⟩ := all_bad hlm hl0
        by_cases hlt : (p : Int) < min 3 (L.length : Int)
        · have hg := give_step hlm hlt
          simp (config := {maxSteps := 3000000}) [hg, hlt]
          repeat' (with_reducible first | apply And.intro | intro _)
          all_goals try (first | omega | assumption | (simp; done) | (simp only [below_eq, Int.reduceLT]; omega))
          all_goals first | exact Again.mk (p + 1) (by omega) (by simp) (by first | omega | (simp; omega)) | trace_state
        · have hd := state_done hlm hl0 p (by omega)
          simp (config := {maxSteps := 3000000}) [hbig, h2, -c30_fn, hd, a1, a2]
          repeat' (with_reducible first | apply And.intro | intro _)
          all_goals try (first | omega | assumption | (simp; done) | (simp only [below_eq, Int.reduceLT]; omega))
          all_goals first | assumption | omega | trace_state
      all_goals first | assumption | omega | trace_state
    · obtain ⟨g1, g2⟩ := give_ok hq a
      obtain ⟨g3, _⟩ := nextQ_of hq
      have hbd := nextQ_bd hq
      generalize hy : mGive L x a = y at *
      obtain ⟨yc, ya, yr, yw⟩ := y
      simp only at g2
      subst g2
      simp (config := {maxSteps := 3000000}) [hy, Try.f4, hbig, h1, h2, -c21_fn, -c30_fn, hq, g1, g3]
      repeat' (with_reducible first | apply And.intro | intro _)
      all_goals try (first | omega | assumption | (simp; done) | (simp only [below_eq, Int.reduceLT]; omega))
      · refine loop_inv (fun p : Nat => (p : Int) ≤ min 3 (L.length : Int)) (fun p => [(0, encLU l), (3, encLTMark L), (9, .ptr (0, 1) 0), (10, dI p)]) (fun p => [((0, 1), .box (encTTrial ⟨7, p, p, 0⟩))]) 2 (fun p => 3 - p) 0 400 (by simp) (by simp; omega) (by simp) ?_
        intro p hp3
        have hlm : mAreMarks L = true := by assumption
        have hl0 : 0 < L.length := by assumption
        obtain ⟨a1, a2⟩ := all_bad hlm hl0
        by_cases hlt : (p : Int) < min 3 (L.length : Int)
        · have hg := give_step hlm hlt
          simp (config := {maxSteps := 3000000}) [hg, hlt]
          repeat' (with_reducible first | apply And.intro | intro _)
          all_goals try (first | omega | assumption | (simp; done) | (simp only [below_eq, Int.reduceLT]; omega))
          all_goals first | exact Again.mk (p + 1) (by omega) (by simp) (by first | omega | (simp; omega)) | trace_state
        · have hd := state_done hlm hl0 p (by omega)
          simp (config := {maxSteps := 3000000}) [hbig, h2, -c30_fn, hd, a1, a2]
          repeat' (with_reducible first | apply And.intro | intro _)
          all_goals try (first | omega | assumption | (simp; done) | (simp only [below_eq, Int.reduceLT]; omega))
          all_goals first | assumption | omega | trace_state
      all_goals first | assumption | omega | trace_state
theorem law4_pc (D0 : D) (h0 : Sh G 9 22 D0) : PC Try.prog 4 [D0] (dB true) [] := by
  obtain ⟨l, rfl, wl⟩ := sh22 (n := 7) h0
  exact law4 l wl

end Go.Proofs.Ytpnfkjbnhholfaa
