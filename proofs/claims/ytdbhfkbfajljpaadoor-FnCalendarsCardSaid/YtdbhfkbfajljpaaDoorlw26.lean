/- Contracts of the functions that the laws run. -/
import Derived.Test.YtdbhfkbfajljpaaDoorEngB
import Derived.Test.YtdbhfkbfajljpaaDoorEngB
import Derived.Test.YtdbhfkbfajljpaaDoordr26
import Derived.Test.YtdbhfkbfajljpaaDoorlw26m
import Derived.Test.YtdbhfkbfajljpaaDoorlawx
import Derived.Test.YtdbhfkbfajljpaaDoorEngB
namespace Go.Proofs.YtdbhfkbfajljpaaDoor
open Go Go.Eng
set_option linter.unusedSimpArgs false
set_option linter.unusedVariables false
set_option maxRecDepth 10000
set_option maxHeartbeats 1000000
/-- loop.example/g03007/laws.FnCalendars -/
theorem law3 (l : List Int) (wl : wfLU l) : PCo Tryd.prog 3 [encLU l] (Tab.of []) (dB true) (Tab.of []) := by
  refine pco_of_run [] (E := ⟨[c4, c5, c6, c7, c8, c9, c10, c11, c12, c13, c14], [], []⟩) (m := false) (base := 0) (Env.ok_cons c4_ok (Env.ok_cons c5_ok (Env.ok_cons c6_ok (Env.ok_cons c7_ok (Env.ok_cons c8_ok (Env.ok_cons c9_ok (Env.ok_cons c10_ok (Env.ok_cons c11_ok (Env.ok_cons c12_ok (Env.ok_cons c13_ok (Env.ok_cons c14_ok Env.ok_nil))))))))))) G_ok mix 400 6 Tryd.func3 (by kernel_rfl) rfl (by kernel_rfl) (by kernel_rfl) rfl ?_
  have hl : l.length ≤ maxLen := wl.1
  by_cases hbig : 1048576 < l.length
  · simp [Tryd.f3, hbig]
  · have hp : l.length ≤ 2097152 := by omega
    have b1 := v5_ok l hp
    have b2 := v9_ok l hp
    have b3 := v12_ok l hp
    have h1 := c5_fn l
    have h2 := c9_fn l
    have h3 := c12_fn l
    generalize v5 l = X at *
    generalize v9 l = Y at *
    generalize v12 l = Z at *
    obtain ⟨o, d, n⟩ := X
    obtain ⟨a, day⟩ := Y
    obtain ⟨b, f⟩ := Z
    simp only at b1 b2 b3 h1 h2 h3
    obtain ⟨p1, p2⟩ := add_facts o d n
    obtain ⟨q1, q2⟩ := next_facts a day
    have r1 := last_facts b f
    have r2 := due_bd f
    have hkb : decide (0 ≤ mNext a day) = (isCal a && decide (0 ≤ day) && decide (day ≤ 100000)) := by
      by_cases h0 : 0 ≤ mNext a day
      · obtain ⟨u1, _, u3, u4, _⟩ := q1 h0
        simp [h0, u1, u3, u4]
      · obtain ⟨_, u2⟩ := q2 (by omega)
        simp only [mIn] at u2
        rw [Bool.and_assoc, u2]; simp [h0]
    generalize hx : mAddD o d n = x at *
    generalize hk : mNext a day = k at *
    generalize ht : mLastDay b f = t at *
    simp (config := {maxSteps := 3000000}) [Tryd.f3, hbig, h1, h2, h3, -c5_fn, -c9_fn, -c12_fn, hx, hk, ht]
    repeat' (with_reducible first | apply And.intro | intro _)
    all_goals try (first | omega | assumption | (simp; done) | (simp only [below_eq, Int.reduceLT]; omega))
    all_goals try (first | exact hkb | exact (p1 (by omega)).1 | (simp [mIn]; omega) | exact (p1 (by omega)).2.2.2.2.1 | (have := p1 (by omega); omega) | (have := p1 (by omega); exact this.2.2.2.2.2 (by omega) (by omega)))
    refine loop_inv (fun i : Int => day ≤ i ∧ (0 ≤ k → i ≤ k)) (fun i => [(0, encLU l), (7, encLB a), (9, dI k), (10, dI i)]) (fun _ => []) 1 (fun i => (k - i).toNat) day 400 (by simp) (by exact ⟨by omega, fun h => (q1 h).2.2.2.2.1⟩) (by simp) ?_
    rintro i ⟨hi, hik⟩
    have hno : 0 ≤ k → i < k → isO a i = false := fun h0 h1 => (q1 h0).2.2.2.2.2.2.2 i hi h1
    have hkd : 0 ≤ k → k ≤ 100006 := fun h0 => by have := q1 h0; omega
    have hmi : ∀ y, 0 ≤ y → y ≤ 100000 → mIn y 0 100000 = true := fun y a b => by simp [mIn]; omega
    simp (config := {maxSteps := 3000000}) [hbig, h3, ht, -c12_fn]
    repeat' (with_reducible first | apply And.intro | intro _)
    all_goals try (first | omega | assumption | (simp; done) | (simp only [below_eq, Int.reduceLT]; omega))
    all_goals try (first | exact r1.elim .inl (fun h => .inr ⟨⟨⟨h.1, hmi _ h.2.1 (by omega)⟩, h.2.2.1⟩, h.2.2.2.1⟩) | exact hno (by omega) (by omega) | exact Again.mk (i + 1) (by constructor <;> omega) (by simp) (by first | omega | (simp; omega)))
theorem law3_pc (D0 : D) (h0 : Sh G 9 22 D0) : PC Tryd.prog 3 [D0] (dB true) [] := by
  obtain ⟨l, rfl, wl⟩ := sh22 (n := 7) h0
  exact law3 l wl

end Go.Proofs.YtdbhfkbfajljpaaDoor
