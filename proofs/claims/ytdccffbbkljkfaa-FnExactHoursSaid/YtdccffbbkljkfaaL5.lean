/- Contracts of the functions that the laws run. -/
import Derived.Test.YtdccffbbkljkfaaC5b
namespace Go.Proofs.Ytdccffbbkljkfaa
open Go Go.Eng
set_option linter.unusedSimpArgs false
set_option linter.unusedVariables false
set_option maxRecDepth 10000
/-- loop.example/g03007/laws.FnExactIsSpan -/
theorem law29 (s : TSpan) (ws : wfTSpan s) : PCo Try.prog 29 [encTSpan s] (Tab.of []) (dB true) (Tab.of []) := by
  obtain ⟨s_From, s_Until⟩ := s
  refine pco_of_run [] (E := ⟨[c99, c100, c101], []⟩) (m := false) (base := 0) (Env.ok_cons c99_ok (Env.ok_cons c100_ok (Env.ok_cons c101_ok Env.ok_nil))) G_ok mix 400 6 Try.func29 (by kernel_rfl) rfl (by kernel_rfl) (by kernel_rfl) rfl ?_
  simp [Try.f29]
  all_goals first | omega | grind
theorem law29_pc (D0 : D) (h0 : Sh G 9 75 D0) : PC Try.prog 29 [D0] (dB true) [] := by
  obtain ⟨s, rfl, ws⟩ := sh75 (n := 7) h0
  exact law29 s ws
/-- loop.example/g03007/laws.FnExactMeet -/
theorem law30 (a : TSpan) (wa : wfTSpan a) (b : TSpan) (wb : wfTSpan b) : PCo Try.prog 30 [encTSpan a, encTSpan b] (Tab.of []) (dB true) (Tab.of []) := by
  obtain ⟨a_From, a_Until⟩ := a
  obtain ⟨b_From, b_Until⟩ := b
  refine pco_of_run [1, 2] (E := ⟨[c100, c102, c103, c104], []⟩) (m := false) (base := 0) (Env.ok_cons c100_ok (Env.ok_cons c102_ok (Env.ok_cons c103_ok (Env.ok_cons c104_ok Env.ok_nil)))) G_ok mix 400 6 Try.func30 (by kernel_rfl) rfl (by kernel_rfl) (by kernel_rfl) rfl ?_
  simp [Try.f30]
  all_goals first | omega | grind
theorem law30_pc (D0 : D) (h0 : Sh G 9 75 D0) (D1 : D) (h1 : Sh G 9 75 D1) : PC Try.prog 30 [D0, D1] (dB true) [] := by
  obtain ⟨a, rfl, wa⟩ := sh75 (n := 7) h0
  obtain ⟨b, rfl, wb⟩ := sh75 (n := 7) h1
  exact law30 a wa b wb
/-- loop.example/g03007/laws.FnExactHull -/
theorem law31 (a : TSpan) (wa : wfTSpan a) (b : TSpan) (wb : wfTSpan b) : PCo Try.prog 31 [encTSpan a, encTSpan b] (Tab.of []) (dB true) (Tab.of []) := by
  obtain ⟨a_From, a_Until⟩ := a
  obtain ⟨b_From, b_Until⟩ := b
  refine pco_of_run [1, 2] (E := ⟨[c100, c104, c105, c106], []⟩) (m := false) (base := 0) (Env.ok_cons c100_ok (Env.ok_cons c104_ok (Env.ok_cons c105_ok (Env.ok_cons c106_ok Env.ok_nil)))) G_ok mix 400 6 Try.func31 (by kernel_rfl) rfl (by kernel_rfl) (by kernel_rfl) rfl ?_
  simp [Try.f31]
  all_goals first | omega | grind
theorem law31_pc (D0 : D) (h0 : Sh G 9 75 D0) (D1 : D) (h1 : Sh G 9 75 D1) : PC Try.prog 31 [D0, D1] (dB true) [] := by
  obtain ⟨a, rfl, wa⟩ := sh75 (n := 7) h0
  obtain ⟨b, rfl, wb⟩ := sh75 (n := 7) h1
  exact law31 a wa b wb
/-- loop.example/g03007/laws.FnExactWiden -/
theorem law32 (s : TSpan) (ws : wfTSpan s) (n : Int) (wn : inR .i64 n) : PCo Try.prog 32 [encTSpan s, dI n] (Tab.of []) (dB true) (Tab.of []) := by
  obtain ⟨s_From, s_Until⟩ := s
  refine pco_of_run [] (E := ⟨[c100, c104, c107, c108], []⟩) (m := false) (base := 0) (Env.ok_cons c100_ok (Env.ok_cons c104_ok (Env.ok_cons c107_ok (Env.ok_cons c108_ok Env.ok_nil)))) G_ok mix 400 6 Try.func32 (by kernel_rfl) rfl (by kernel_rfl) (by kernel_rfl) rfl ?_
  simp [Try.f32]
  all_goals first | omega | grind
theorem law32_pc (D0 : D) (h0 : Sh G 9 75 D0) (D1 : D) (h1 : Sh G 9 3 D1) : PC Try.prog 32 [D0, D1] (dB true) [] := by
  obtain ⟨s, rfl, ws⟩ := sh75 (n := 7) h0
  obtain ⟨n, rfl, wn⟩ := sh3 (n := 8) h1
  exact law32 s ws n wn
/-- loop.example/g03007/laws.FnExactHolds -/
theorem law33 (s : TSpan) (ws : wfTSpan s) (h : Int) (wh : inR .i64 h) : PCo Try.prog 33 [encTSpan s, dI h] (Tab.of []) (dB true) (Tab.of []) := by
  obtain ⟨s_From, s_Until⟩ := s
  refine pco_of_run [] (E := ⟨[c100, c109, c110], []⟩) (m := false) (base := 0) (Env.ok_cons c100_ok (Env.ok_cons c109_ok (Env.ok_cons c110_ok Env.ok_nil))) G_ok mix 400 6 Try.func33 (by kernel_rfl) rfl (by kernel_rfl) (by kernel_rfl) rfl ?_
  simp [Try.f33]
  all_goals first | omega | grind
theorem law33_pc (D0 : D) (h0 : Sh G 9 75 D0) (D1 : D) (h1 : Sh G 9 3 D1) : PC Try.prog 33 [D0, D1] (dB true) [] := by
  obtain ⟨s, rfl, ws⟩ := sh75 (n := 7) h0
  obtain ⟨h, rfl, wh⟩ := sh3 (n := 8) h1
  exact law33 s ws h wh
/-- loop.example/g03007/laws.FnExactHours -/
theorem law34 (s : TSpan) (ws : wfTSpan s) : PCo Try.prog 34 [encTSpan s] (Tab.of []) (dB true) (Tab.of []) := by
  obtain ⟨s_From, s_Until⟩ := s
  refine pco_of_run [] (E := ⟨[c100, c111, c112], []⟩) (m := false) (base := 0) (Env.ok_cons c100_ok (Env.ok_cons c111_ok (Env.ok_cons c112_ok Env.ok_nil))) G_ok mix 400 6 Try.func34 (by kernel_rfl) rfl (by kernel_rfl) (by kernel_rfl) rfl ?_
  simp [Try.f34]
  all_goals first | omega | grind
theorem law34_pc (D0 : D) (h0 : Sh G 9 75 D0) : PC Try.prog 34 [D0] (dB true) [] := by
  obtain ⟨s, rfl, ws⟩ := sh75 (n := 7) h0
  exact law34 s ws

end Go.Proofs.Ytdccffbbkljkfaa
