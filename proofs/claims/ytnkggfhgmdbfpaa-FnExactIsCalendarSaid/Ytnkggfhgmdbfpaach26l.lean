/- Contracts of the functions that the laws run. -/
import Derived.Test.Ytnkggfhgmdbfpaach26b
import Derived.Test.YtnkggfhgmdbfpaahelpB
import Derived.Test.YtnkggfhgmdbfpaaEngB
namespace Go.Proofs.Ytnkggfhgmdbfpaa
open Go Go.Eng
set_option linter.unusedSimpArgs false
set_option linter.unusedVariables false
set_option maxRecDepth 10000
set_option maxHeartbeats 1000000
/-- loop.example/g03007/laws.FnExactIsCalendar -/
theorem law15 (l : List Bool) (wl : wfLB l) : PCo Try.prog 15 [encLB l] (Tab.of []) (dB true) (Tab.of []) := by
  refine pco_of_run [] (E := ⟨[c80, c81, c82, c83], []⟩) (m := false) (base := 0) (Env.ok_cons c80_ok (Env.ok_cons c81_ok (Env.ok_cons c82_ok (Env.ok_cons c83_ok Env.ok_nil)))) G_ok mix 400 6 Try.func15 (by kernel_rfl) rfl (by kernel_rfl) (by kernel_rfl) rfl ?_
  simp (config := {maxSteps := 3000000}) [Try.f15]
  have h_l : l.length ≤ maxLen := wl.1
  repeat' (first | omega | assumption | refine And.intro ?_ ?_ | intro _)
  all_goals first | omega | grind | (split at * <;> omega)
theorem law15_pc (D0 : D) (h0 : Sh G 9 104 D0) : PC Try.prog 15 [D0] (dB true) [] := by
  obtain ⟨l, rfl, wl⟩ := sh104 (n := 7) h0
  exact law15 l wl
/-- loop.example/g03007/laws.FnExactIsOpen -/
theorem law16 (l : List Bool) (wl : wfLB l) (d : Int) (wd : inR .i64 d) : PCo Try.prog 16 [encLB l, dI d] (Tab.of []) (dB true) (Tab.of []) := by
  refine pco_of_run [] (E := ⟨[c81, c83, c84, c85], []⟩) (m := false) (base := 0) (Env.ok_cons c81_ok (Env.ok_cons c83_ok (Env.ok_cons c84_ok (Env.ok_cons c85_ok Env.ok_nil)))) G_ok mix 400 6 Try.func16 (by kernel_rfl) rfl (by kernel_rfl) (by kernel_rfl) rfl ?_
  simp (config := {maxSteps := 3000000}) [Try.f16]
  have h_l : l.length ≤ maxLen := wl.1
  repeat' (first | omega | assumption | refine And.intro ?_ ?_ | intro _)
  all_goals first | omega | grind | (split at * <;> omega)
theorem law16_pc (D0 : D) (h0 : Sh G 9 104 D0) (D1 : D) (h1 : Sh G 9 3 D1) : PC Try.prog 16 [D0, D1] (dB true) [] := by
  obtain ⟨l, rfl, wl⟩ := sh104 (n := 7) h0
  obtain ⟨d, rfl, wd⟩ := sh3 (n := 8) h1
  exact law16 l wl d wd
/-- loop.example/g03007/laws.FnExactNextOpen -/
theorem law17 (l : List Bool) (wl : wfLB l) (d : Int) (wd : inR .i64 d) : PCo Try.prog 17 [encLB l, dI d] (Tab.of []) (dB true) (Tab.of []) := by
  refine pco_of_run [] (E := ⟨[c81, c83, c86, c87], []⟩) (m := false) (base := 0) (Env.ok_cons c81_ok (Env.ok_cons c83_ok (Env.ok_cons c86_ok (Env.ok_cons c87_ok Env.ok_nil)))) G_ok mix 400 6 Try.func17 (by kernel_rfl) rfl (by kernel_rfl) (by kernel_rfl) rfl ?_
  simp (config := {maxSteps := 3000000}) [Try.f17]
  have h_l : l.length ≤ maxLen := wl.1
  repeat' (first | omega | assumption | refine And.intro ?_ ?_ | intro _)
  all_goals first | omega | grind | (split at * <;> omega)
theorem law17_pc (D0 : D) (h0 : Sh G 9 104 D0) (D1 : D) (h1 : Sh G 9 3 D1) : PC Try.prog 17 [D0, D1] (dB true) [] := by
  obtain ⟨l, rfl, wl⟩ := sh104 (n := 7) h0
  obtain ⟨d, rfl, wd⟩ := sh3 (n := 8) h1
  exact law17 l wl d wd
/-- loop.example/g03007/laws.FnExactAddOpenDays -/
theorem law18 (l : List Bool) (wl : wfLB l) (d : Int) (wd : inR .i64 d) (n : Int) (wn : inR .i64 n) : PCo Try.prog 18 [encLB l, dI d, dI n] (Tab.of []) (dB true) (Tab.of []) := by
  refine pco_of_run [] (E := ⟨[c81, c83, c88, c89], []⟩) (m := false) (base := 0) (Env.ok_cons c81_ok (Env.ok_cons c83_ok (Env.ok_cons c88_ok (Env.ok_cons c89_ok Env.ok_nil)))) G_ok mix 400 6 Try.func18 (by kernel_rfl) rfl (by kernel_rfl) (by kernel_rfl) rfl ?_
  simp (config := {maxSteps := 3000000}) [Try.f18]
  have h_l : l.length ≤ maxLen := wl.1
  repeat' (first | omega | assumption | refine And.intro ?_ ?_ | intro _)
  all_goals first | omega | grind | (split at * <;> omega)
theorem law18_pc (D0 : D) (h0 : Sh G 9 104 D0) (D1 : D) (h1 : Sh G 9 3 D1) (D2 : D) (h2 : Sh G 9 3 D2) : PC Try.prog 18 [D0, D1, D2] (dB true) [] := by
  obtain ⟨l, rfl, wl⟩ := sh104 (n := 7) h0
  obtain ⟨d, rfl, wd⟩ := sh3 (n := 8) h1
  obtain ⟨n, rfl, wn⟩ := sh3 (n := 8) h2
  exact law18 l wl d wd n wn
/-- loop.example/g03007/laws.FnExactOpenDaysBetween -/
theorem law19 (l : List Bool) (wl : wfLB l) (a : Int) (wa : inR .i64 a) (b : Int) (wb : inR .i64 b) : PCo Try.prog 19 [encLB l, dI a, dI b] (Tab.of []) (dB true) (Tab.of []) := by
  refine pco_of_run [] (E := ⟨[c81, c83, c90, c91], []⟩) (m := false) (base := 0) (Env.ok_cons c81_ok (Env.ok_cons c83_ok (Env.ok_cons c90_ok (Env.ok_cons c91_ok Env.ok_nil)))) G_ok mix 400 6 Try.func19 (by kernel_rfl) rfl (by kernel_rfl) (by kernel_rfl) rfl ?_
  simp (config := {maxSteps := 3000000}) [Try.f19]
  have h_l : l.length ≤ maxLen := wl.1
  repeat' (first | omega | assumption | refine And.intro ?_ ?_ | intro _)
  all_goals first | omega | grind | (split at * <;> omega)
theorem law19_pc (D0 : D) (h0 : Sh G 9 104 D0) (D1 : D) (h1 : Sh G 9 3 D1) (D2 : D) (h2 : Sh G 9 3 D2) : PC Try.prog 19 [D0, D1, D2] (dB true) [] := by
  obtain ⟨l, rfl, wl⟩ := sh104 (n := 7) h0
  obtain ⟨a, rfl, wa⟩ := sh3 (n := 8) h1
  obtain ⟨b, rfl, wb⟩ := sh3 (n := 8) h2
  exact law19 l wl a wa b wb

end Go.Proofs.Ytnkggfhgmdbfpaa
