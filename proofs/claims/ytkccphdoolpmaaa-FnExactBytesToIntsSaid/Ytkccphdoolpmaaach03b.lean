/- Contracts of the functions that the laws run. -/
import Derived.Test.Ytkccphdoolpmaaach03
import Derived.Test.YtkccphdoolpmaaaEngB
namespace Go.Proofs.Ytkccphdoolpmaaa
open Go Go.Eng
set_option linter.unusedSimpArgs false
set_option linter.unusedVariables false
set_option maxRecDepth 10000
set_option maxHeartbeats 1000000
def mKeyed (k : Int) (l : List Int) : Int := mHash (k :: (l ++ [k]))
def mInts (b : List Int) : List Int := (b.length : Int) :: b
/-- loop.example/g03007/spec.BytesToInts -/
noncomputable def c15 : Con := mkCon 15 false (α := (List Int)) (fun x => (fun (b : List Int) => [encLU b]) x) (fun _ => []) (fun x => (fun (b : List Int) => b.length ≤ 1073741822 ∧ ∀ x ∈ b, 0 ≤ x ∧ x ≤ 255) x) (fun x => (fun (b : List Int) => (.own (0, 1) 1 0 (mInts b).length : D)) x) (fun x => (fun (b : List Int) => [((0, 1), .arr false 1 (dI 0) (ML dI (mInts b)))]) x)
@[simp] theorem c15_f : c15.f = 15 := rfl
@[simp] theorem c15_own : c15.own = false := rfl
theorem c15_inj : ∀ u_ v_ : (List Int), ((fun x => (fun (b : List Int) => [encLU b]) x) u_).map nz = ((fun x => (fun (b : List Int) => [encLU b]) x) v_).map nz → u_ = v_ := by
  intro u_ v_ h
  obtain b := u_
  obtain b' := v_
  simp [nz_lit, nz1_lit, nz_agg, nz_sl, nz1_sl, encLU] at h
  first | (simp [h]; done) | (obtain ⟨⟩ := h; simp_all; done) | simp_all
@[simp] theorem c15_fn (b : List Int) : c15.fn [.sl false 1 (.lit (.int .u8 0)) (ML dU b)] [] = some ((fun (b : List Int) => b.length ≤ 1073741822 ∧ ∀ x ∈ b, 0 ≤ x ∧ x ≤ 255) b, (fun (b : List Int) => (.own (0, 1) 1 0 (mInts b).length : D)) b, (fun (b : List Int) => [((0, 1), .arr false 1 (dI 0) (ML dI (mInts b)))]) b) :=
  mkCon_fn (fun x y h _ => c15_inj x y h) (b : (List Int)) (by simp [nz, nz1, ML_nil, encLU]) rfl
@[simp] theorem c15_fn1 (s_b : Nat) (z_b : D) : c15.fn [.sl false s_b z_b []] [] = some ((fun (b : List Int) => b.length ≤ 1073741822 ∧ ∀ x ∈ b, 0 ≤ x ∧ x ≤ 255) [], (fun (b : List Int) => (.own (0, 1) 1 0 (mInts b).length : D)) [], (fun (b : List Int) => [((0, 1), .arr false 1 (dI 0) (ML dI (mInts b)))]) []) :=
  mkCon_fn (fun x y h _ => c15_inj x y h) ([] : (List Int)) (by simp [nz, nz1, ML_nil, encLU]) rfl
theorem c15_pc (b : List Int) (hpre : b.length ≤ 1073741822 ∧ ∀ x ∈ b, 0 ≤ x ∧ x ≤ 255) : PCo Try.prog 15 [encLU b] (Tab.of []) (.own (0, 1) 1 0 (mInts b).length) (Tab.of [((0, 1), .arr false 1 (dI 0) (ML dI (mInts b)))]) := by
  refine pco_of_run [] (E := ⟨[], []⟩) (m := false) (base := 0) Env.ok_nil G_ok mix 300 6 Try.func15 (by kernel_rfl) rfl (by kernel_rfl) (by kernel_rfl) rfl ?_
  simp [Try.f15]
  obtain ⟨hl, hb⟩ := hpre
  refine loop_inv (fun p : Nat => p ≤ b.length) (fun p => [(0, encLU b), (3, .own (0, 1) 1 0 (p + 1)), (4, dI p)]) (fun p => [((0, 1), .arr false 1 (dI 0) (ML dI ((b.length : Int) :: b.take p)))]) 2 (fun p => b.length - p) 0 400 (by simp) (by simp) (by simp; first | done | rfl) ?_
  intro p hp
  simp
  have hm : min p b.length = p := by omega
  refine ⟨fun hlt => ?_, fun hge => ?_⟩
  · have hx := hb _ (getD_mem (d := 0) hlt)
    repeat' (first | omega | refine And.intro ?_ ?_ | intro _)
    exact Again.mk (p + 1) (by omega) (by simp [hm, take_at (d := 0) hlt]) (by first | omega | (simp; omega))
  · have : p = b.length := by omega
    subst this; simp [mInts]
theorem c15_ok : c15.ok Try.prog := mkCon_ok fun b hpre => c15_pc b hpre
/-- loop.example/g03007/impl.BytesToInts -/
noncomputable def c17 : Con := mkCon 17 false (α := (List Int)) (fun x => (fun (b : List Int) => [encLU b]) x) (fun _ => []) (fun x => (fun (b : List Int) => b.length ≤ 1073741822 ∧ ∀ x ∈ b, 0 ≤ x ∧ x ≤ 255) x) (fun x => (fun (b : List Int) => (.own (0, 1) 1 0 (mInts b).length : D)) x) (fun x => (fun (b : List Int) => [((0, 1), .arr false 1 (dI 0) (ML dI (mInts b)))]) x)
@[simp] theorem c17_f : c17.f = 17 := rfl
@[simp] theorem c17_own : c17.own = false := rfl
theorem c17_inj : ∀ u_ v_ : (List Int), ((fun x => (fun (b : List Int) => [encLU b]) x) u_).map nz = ((fun x => (fun (b : List Int) => [encLU b]) x) v_).map nz → u_ = v_ := by
  intro u_ v_ h
  obtain b := u_
  obtain b' := v_
  simp [nz_lit, nz1_lit, nz_agg, nz_sl, nz1_sl, encLU] at h
  first | (simp [h]; done) | (obtain ⟨⟩ := h; simp_all; done) | simp_all
@[simp] theorem c17_fn (b : List Int) : c17.fn [.sl false 1 (.lit (.int .u8 0)) (ML dU b)] [] = some ((fun (b : List Int) => b.length ≤ 1073741822 ∧ ∀ x ∈ b, 0 ≤ x ∧ x ≤ 255) b, (fun (b : List Int) => (.own (0, 1) 1 0 (mInts b).length : D)) b, (fun (b : List Int) => [((0, 1), .arr false 1 (dI 0) (ML dI (mInts b)))]) b) :=
  mkCon_fn (fun x y h _ => c17_inj x y h) (b : (List Int)) (by simp [nz, nz1, ML_nil, encLU]) rfl
@[simp] theorem c17_fn1 (s_b : Nat) (z_b : D) : c17.fn [.sl false s_b z_b []] [] = some ((fun (b : List Int) => b.length ≤ 1073741822 ∧ ∀ x ∈ b, 0 ≤ x ∧ x ≤ 255) [], (fun (b : List Int) => (.own (0, 1) 1 0 (mInts b).length : D)) [], (fun (b : List Int) => [((0, 1), .arr false 1 (dI 0) (ML dI (mInts b)))]) []) :=
  mkCon_fn (fun x y h _ => c17_inj x y h) ([] : (List Int)) (by simp [nz, nz1, ML_nil, encLU]) rfl
theorem c17_pc (b : List Int) (hpre : b.length ≤ 1073741822 ∧ ∀ x ∈ b, 0 ≤ x ∧ x ≤ 255) : PCo Try.prog 17 [encLU b] (Tab.of []) (.own (0, 1) 1 0 (mInts b).length) (Tab.of [((0, 1), .arr false 1 (dI 0) (ML dI (mInts b)))]) := by
  refine pco_of_run [] (E := ⟨[], []⟩) (m := false) (base := 0) Env.ok_nil G_ok mix 300 6 Try.func17 (by kernel_rfl) rfl (by kernel_rfl) (by kernel_rfl) rfl ?_
  simp [Try.f17]
  obtain ⟨hl, hb⟩ := hpre
  refine ⟨⟨by omega, by omega, by omega⟩, ?_⟩
  refine loop_inv (fun p : Nat => p ≤ b.length) (fun p => [(3, .own (0, 1) 1 0 (p + 1)), (15, encLU b), (16, dI b.length), (17, dI p)]) (fun p => [((0, 1), .arr false 1 (dI 0) (ML dI ((b.length : Int) :: b.take p)))]) 2 (fun p => b.length - p) 0 400 (by simp) (by simp) (by simp; first | done | rfl) ?_
  intro p hp
  simp
  have hm : min p b.length = p := by omega
  refine ⟨fun hlt => ?_, fun hge => ?_⟩
  · have hx := hb _ (getD_mem (d := 0) hlt)
    repeat' (first | omega | refine And.intro ?_ ?_ | intro _)
    exact Again.mk (p + 1) (by omega) (by simp [hm, take_at (d := 0) hlt]) (by first | omega | (simp; omega))
  · have : p = b.length := by omega
    subst this; simp [mInts]
theorem c17_ok : c17.ok Try.prog := mkCon_ok fun b hpre => c17_pc b hpre
def mDerive (k : Int) (b : ByteArray) : Int := max (mKeyed k (mInts (bytesI b))) 1
end Go.Proofs.Ytkccphdoolpmaaa
