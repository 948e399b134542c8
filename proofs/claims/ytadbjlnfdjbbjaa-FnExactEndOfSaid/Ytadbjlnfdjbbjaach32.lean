/- Contracts of the functions that the laws run. -/
import Derived.Test.Ytadbjlnfdjbbjaach04b
import Derived.Test.YtadbjlnfdjbbjaaEngB
namespace Go.Proofs.Ytadbjlnfdjbbjaa
open Go Go.Eng
set_option linter.unusedSimpArgs false
set_option linter.unusedVariables false
set_option maxRecDepth 10000
set_option maxHeartbeats 1000000
def holderNames : List ByteArray := [⟨#[]⟩, ⟨#[102, 105, 110, 100, 101, 114]⟩, ⟨#[104, 111, 117, 115, 101]⟩, ⟨#[111, 119, 110, 101, 114]⟩, ⟨#[98, 117, 121, 101, 114]⟩, ⟨#[103, 111, 110, 101]⟩]
def mHolder (i : Int) : ByteArray := mTextAt i holderNames
@[simp] theorem c173_holder (i : Int) : c173.fn [.lit (.int .i64 i), .sl false 1 (.lit (.string ⟨#[]⟩)) [.lit (.string ⟨#[]⟩), .lit (.string ⟨#[102, 105, 110, 100, 101, 114]⟩), .lit (.string ⟨#[104, 111, 117, 115, 101]⟩), .lit (.string ⟨#[111, 119, 110, 101, 114]⟩), .lit (.string ⟨#[98, 117, 121, 101, 114]⟩), .lit (.string ⟨#[103, 111, 110, 101]⟩)]] [] = some (True, dS (mHolder i), []) :=
  (c173_fn i holderNames).trans (by simp [mHolder, holderNames])
/-- loop.example/g03007/impl.HolderText -/
noncomputable def c144 : Con := mkCon 144 false (α := Int) (fun x => (fun (i : Int) => [dI i]) x) (fun _ => []) (fun x => (fun (i : Int) => True) x) (fun x => (fun (i : Int) => (dS (mHolder i) : D)) x) (fun x => (fun (i : Int) => []) x)
@[simp] theorem c144_f : c144.f = 144 := rfl
@[simp] theorem c144_own : c144.own = false := rfl
theorem c144_inj : ∀ u_ v_ : Int, ((fun x => (fun (i : Int) => [dI i]) x) u_).map nz = ((fun x => (fun (i : Int) => [dI i]) x) v_).map nz → u_ = v_ := by
  intro u_ v_ h
  obtain i := u_
  obtain i' := v_
  simp [nz_lit, nz1_lit, nz_agg, nz_sl, nz1_sl] at h
  first | (simp [h]; done) | (obtain ⟨⟩ := h; simp_all; done) | simp_all
@[simp] theorem c144_fn (i : Int) : c144.fn [.lit (.int .i64 i)] [] = some ((fun (i : Int) => True) i, (fun (i : Int) => (dS (mHolder i) : D)) i, (fun (i : Int) => []) i) :=
  mkCon_fn (fun x y h _ => c144_inj x y h) (i : Int) (by simp [nz, nz1, ML_nil]) rfl
theorem c144_pc (i : Int) : PCo Try.prog 144 [dI i] (Tab.of []) (dS (mHolder i)) (Tab.of []) := by
  refine pco_of_run [] (E := ⟨[c173], []⟩) (m := false) (base := 0) (Env.ok_cons c173_ok Env.ok_nil) G_ok mix 300 6 Try.func144 (by kernel_rfl) rfl (by kernel_rfl) (by kernel_rfl) rfl ?_
  simp [Try.f144]
  all_goals first | omega | (rw [Bool.eq_iff_iff]; simp; omega) | grind
theorem c144_ok : c144.ok Try.prog := mkCon_ok fun i hpre => c144_pc i
/-- loop.example/g03007/spec.HolderText -/
noncomputable def c143 : Con := mkCon 143 false (α := Int) (fun x => (fun (i : Int) => [dI i]) x) (fun _ => []) (fun x => (fun (i : Int) => True) x) (fun x => (fun (i : Int) => (dS (mHolder i) : D)) x) (fun x => (fun (i : Int) => []) x)
@[simp] theorem c143_f : c143.f = 143 := rfl
@[simp] theorem c143_own : c143.own = false := rfl
theorem c143_inj : ∀ u_ v_ : Int, ((fun x => (fun (i : Int) => [dI i]) x) u_).map nz = ((fun x => (fun (i : Int) => [dI i]) x) v_).map nz → u_ = v_ := by
  intro u_ v_ h
  obtain i := u_
  obtain i' := v_
  simp [nz_lit, nz1_lit, nz_agg, nz_sl, nz1_sl] at h
  first | (simp [h]; done) | (obtain ⟨⟩ := h; simp_all; done) | simp_all
@[simp] theorem c143_fn (i : Int) : c143.fn [.lit (.int .i64 i)] [] = some ((fun (i : Int) => True) i, (fun (i : Int) => (dS (mHolder i) : D)) i, (fun (i : Int) => []) i) :=
  mkCon_fn (fun x y h _ => c143_inj x y h) (i : Int) (by simp [nz, nz1, ML_nil]) rfl
theorem c143_pc (i : Int) : PCo Try.prog 143 [dI i] (Tab.of []) (dS (mHolder i)) (Tab.of []) := by
  refine pco_of_run [] (E := ⟨[c95], []⟩) (m := false) (base := 0) (Env.ok_cons c95_ok Env.ok_nil) G_ok mix 300 6 Try.func143 (by kernel_rfl) rfl (by kernel_rfl) (by kernel_rfl) rfl ?_
  by_cases h : mIn i 1 5 = true
  · have h2 := mIn_iff.1 h
    obtain rfl | rfl | rfl | rfl | rfl : i = 1 ∨ i = 2 ∨ i = 3 ∨ i = 4 ∨ i = 5 := by omega
    all_goals simp [Try.f143, mHolder, mTextAt, holderNames, mIn]
  · simp only [Bool.not_eq_true] at h
    simp [Try.f143, h]
    by_cases h0 : i = 0
    · subst h0; rfl
    · have : mIn i 0 5 = false := by
        rw [← Bool.not_eq_true, mIn_iff] at h ⊢; omega
      simp [mHolder, mTextAt, holderNames, this]
theorem c143_ok : c143.ok Try.prog := mkCon_ok fun i hpre => c143_pc i
def eventNames : List ByteArray := [⟨#[]⟩, ⟨#[102, 105, 110, 100]⟩, ⟨#[99, 108, 97, 105, 109]⟩, ⟨#[97, 110, 115, 119, 101, 114]⟩, ⟨#[115, 101, 114, 118, 101]⟩, ⟨#[115, 101, 108, 108]⟩, ⟨#[99, 108, 101, 97, 114]⟩, ⟨#[116, 105, 99, 107]⟩]
def mEvent (i : Int) : ByteArray := mTextAt i eventNames
@[simp] theorem c173_event (i : Int) : c173.fn [.lit (.int .i64 i), .sl false 1 (.lit (.string ⟨#[]⟩)) [.lit (.string ⟨#[]⟩), .lit (.string ⟨#[102, 105, 110, 100]⟩), .lit (.string ⟨#[99, 108, 97, 105, 109]⟩), .lit (.string ⟨#[97, 110, 115, 119, 101, 114]⟩), .lit (.string ⟨#[115, 101, 114, 118, 101]⟩), .lit (.string ⟨#[115, 101, 108, 108]⟩), .lit (.string ⟨#[99, 108, 101, 97, 114]⟩), .lit (.string ⟨#[116, 105, 99, 107]⟩)]] [] = some (True, dS (mEvent i), []) :=
  (c173_fn i eventNames).trans (by simp [mEvent, eventNames])
end Go.Proofs.Ytadbjlnfdjbbjaa
