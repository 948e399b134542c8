/- Contracts of the functions that the laws run. -/
import Derived.Test.Ytnkggfhgmdbfpaach14c
import Derived.Test.YtnkggfhgmdbfpaaEngB
namespace Go.Proofs.Ytnkggfhgmdbfpaa
open Go Go.Eng
set_option linter.unusedSimpArgs false
set_option linter.unusedVariables false
set_option maxRecDepth 10000
set_option maxHeartbeats 1000000
def exSlots : List TSlot := [⟨1, 5, 0⟩, ⟨2, 10, 0⟩, ⟨3, 20, 0⟩, ⟨4, 50, 0⟩]
/-- loop.example/g03007/spec.ExampleSlots -/
noncomputable def c101 : Con := mkCon 101 false (α := Unit) (fun _ => []) (fun _ => []) (fun _ => True) (fun _ => (.own (0, 1) 3 0 exSlots.length : D)) (fun _ => [((0, 1), .arr false 3 yTSlot (ML encTSlot exSlots))])
@[simp] theorem c101_f : c101.f = 101 := rfl
@[simp] theorem c101_own : c101.own = false := rfl
theorem c101_inj : ∀ x y : Unit, ((fun _ => []) x).map nz = ((fun _ => []) y).map nz → x = y := fun _ _ _ => rfl
@[simp] theorem c101_fn : c101.fn [] [] = some (True, (.own (0, 1) 3 0 exSlots.length : D), [((0, 1), .arr false 3 yTSlot (ML encTSlot exSlots))]) :=
  mkCon_fn (fun x y h _ => c101_inj x y h) (() : Unit) (by simp [nz, nz1, ML_nil]) rfl
theorem c101_pc  : PCo Try.prog 101 [] (Tab.of []) (.own (0, 1) 3 0 exSlots.length) (Tab.of [((0, 1), .arr false 3 yTSlot (ML encTSlot exSlots))]) := by
  refine pco_of_run [] (E := ⟨[], []⟩) (m := false) (base := 0) Env.ok_nil G_ok mix 300 6 Try.func101 (by kernel_rfl) rfl (by kernel_rfl) (by kernel_rfl) rfl ?_
  simp [Try.f101]
  simp [exSlots]; first | done | rfl | trace_state
theorem c101_ok : c101.ok Try.prog := mkCon_ok fun _ hpre => c101_pc 
/-- loop.example/g03007/impl.ExampleSlots -/
noncomputable def c102 : Con := mkCon 102 false (α := Unit) (fun _ => []) (fun _ => []) (fun _ => True) (fun _ => (.own (0, 1) 3 0 exSlots.length : D)) (fun _ => [((0, 1), .arr false 3 yTSlot (ML encTSlot exSlots))])
@[simp] theorem c102_f : c102.f = 102 := rfl
@[simp] theorem c102_own : c102.own = false := rfl
theorem c102_inj : ∀ x y : Unit, ((fun _ => []) x).map nz = ((fun _ => []) y).map nz → x = y := fun _ _ _ => rfl
@[simp] theorem c102_fn : c102.fn [] [] = some (True, (.own (0, 1) 3 0 exSlots.length : D), [((0, 1), .arr false 3 yTSlot (ML encTSlot exSlots))]) :=
  mkCon_fn (fun x y h _ => c102_inj x y h) (() : Unit) (by simp [nz, nz1, ML_nil]) rfl
theorem c102_pc  : PCo Try.prog 102 [] (Tab.of []) (.own (0, 1) 3 0 exSlots.length) (Tab.of [((0, 1), .arr false 3 yTSlot (ML encTSlot exSlots))]) := by
  refine pco_of_run [] (E := ⟨[], []⟩) (m := false) (base := 0) Env.ok_nil G_ok mix 300 6 Try.func102 (by kernel_rfl) rfl (by kernel_rfl) (by kernel_rfl) rfl ?_
  simp [Try.f102]
  simp [exSlots]; first | done | rfl | trace_state
theorem c102_ok : c102.ok Try.prog := mkCon_ok fun _ hpre => c102_pc 
/-- loop.example/g03007/laws.FnExactExampleSlots -/
theorem law23  : PCo Try.prog 23 [] (Tab.of []) (dB true) (Tab.of []) := by
  refine pco_of_run [] (E := ⟨[c70, c101, c102, c103, c104], []⟩) (m := false) (base := 0) (Env.ok_cons c70_ok (Env.ok_cons c101_ok (Env.ok_cons c102_ok (Env.ok_cons c103_ok (Env.ok_cons c104_ok Env.ok_nil))))) G_ok mix 400 6 Try.func23 (by kernel_rfl) rfl (by kernel_rfl) (by kernel_rfl) rfl ?_
  simp (config := {maxSteps := 3000000}) [Try.f23]
  have hl : exSlots.length = 4 := rfl
  rw [hl]; repeat' (first | omega | refine And.intro ?_ ?_ | intro _)
theorem law23_pc  : PC Try.prog 23 [] (dB true) [] := by
  exact law23 

end Go.Proofs.Ytnkggfhgmdbfpaa
