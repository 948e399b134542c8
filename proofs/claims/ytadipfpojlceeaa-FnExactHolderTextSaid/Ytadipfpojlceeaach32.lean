/- Contracts of the functions that the laws run. -/
import Derived.Test.Ytadipfpojlceeaach04b
import Derived.Test.YtadipfpojlceeaaEngB
namespace Go.Proofs.Ytadipfpojlceeaa
open Go Go.Eng
set_option linter.unusedSimpArgs false
set_option linter.unusedVariables false
set_option maxRecDepth 10000
set_option maxHeartbeats 1000000
def holderNames : List ByteArray := [⟨#[]⟩, ⟨#[102, 105, 110, 100, 101, 114]⟩, ⟨#[104, 111, 117, 115, 101]⟩, ⟨#[111, 119, 110, 101, 114]⟩, ⟨#[98, 117, 121, 101, 114]⟩, ⟨#[103, 111, 110, 101]⟩]
def mHolder (i : Int) : ByteArray := mTextAt i holderNames
@[simp] theorem c164_holder (i : Int) : c164.fn [.lit (.int .i64 i), .sl false 1 (.lit (.string ⟨#[]⟩)) [.lit (.string ⟨#[]⟩), .lit (.string ⟨#[102, 105, 110, 100, 101, 114]⟩), .lit (.string ⟨#[104, 111, 117, 115, 101]⟩), .lit (.string ⟨#[111, 119, 110, 101, 114]⟩), .lit (.string ⟨#[98, 117, 121, 101, 114]⟩), .lit (.string ⟨#[103, 111, 110, 101]⟩)]] [] = some (True, dS (mHolder i), []) :=
  (c164_fn i holderNames).trans (by simp [mHolder, holderNames])
/-- loop.example/g03007/impl.HolderText -/
noncomputable def c90 : Con := mkCon 90 false (α := Int) (fun x => (fun (i : Int) => [dI i]) x) (fun _ => []) (fun x => (fun (i : Int) => True) x) (fun x => (fun (i : Int) => (dS (mHolder i) : D)) x) (fun x => (fun (i : Int) => []) x)
@[simp] theorem c90_f : c90.f = 90 := rfl
@[simp] theorem c90_own : c90.own = false := rfl
theorem c90_inj : ∀ u_ v_ : Int, ((fun x => (fun (i : Int) => [dI i]) x) u_).map nz = ((fun x => (fun (i : Int) => [dI i]) x) v_).map nz → u_ = v_ := by
  intro u_ v_ h
  obtain i := u_
  obtain i' := v_
  simp [nz_lit, nz1_lit, nz_agg, nz_sl, nz1_sl] at h
  first | (simp [h]; done) | (obtain ⟨⟩ := h; simp_all; done) | simp_all
@[simp] theorem c90_fn (i : Int) : c90.fn [.lit (.int .i64 i)] [] = some ((fun (i : Int) => True) i, (fun (i : Int) => (dS (mHolder i) : D)) i, (fun (i : Int) => []) i) :=
  mkCon_fn (fun x y h _ => c90_inj x y h) (i : Int) (by simp [nz, nz1, ML_nil]) rfl
theorem c90_pc (i : Int) : PCo Try.prog 90 [dI i] (Tab.of []) (dS (mHolder i)) (Tab.of []) := by
  refine pco_of_run [] (E := ⟨[c164], []⟩) (m := false) (base := 0) (Env.ok_cons c164_ok Env.ok_nil) G_ok mix 300 6 Try.func90 (by kernel_rfl) rfl (by kernel_rfl) (by kernel_rfl) rfl ?_
  simp [Try.f90]
  all_goals first | omega | (rw [Bool.eq_iff_iff]; simp; omega) | grind
theorem c90_ok : c90.ok Try.prog := mkCon_ok fun i hpre => c90_pc i
/-- loop.example/g03007/spec.HolderText -/
noncomputable def c89 : Con := mkCon 89 false (α := Int) (fun x => (fun (i : Int) => [dI i]) x) (fun _ => []) (fun x => (fun (i : Int) => True) x) (fun x => (fun (i : Int) => (dS (mHolder i) : D)) x) (fun x => (fun (i : Int) => []) x)
@[simp] theorem c89_f : c89.f = 89 := rfl
@[simp] theorem c89_own : c89.own = false := rfl
theorem c89_inj : ∀ u_ v_ : Int, ((fun x => (fun (i : Int) => [dI i]) x) u_).map nz = ((fun x => (fun (i : Int) => [dI i]) x) v_).map nz → u_ = v_ := by
  intro u_ v_ h
  obtain i := u_
  obtain i' := v_
  simp [nz_lit, nz1_lit, nz_agg, nz_sl, nz1_sl] at h
  first | (simp [h]; done) | (obtain ⟨⟩ := h; simp_all; done) | simp_all
@[simp] theorem c89_fn (i : Int) : c89.fn [.lit (.int .i64 i)] [] = some ((fun (i : Int) => True) i, (fun (i : Int) => (dS (mHolder i) : D)) i, (fun (i : Int) => []) i) :=
  mkCon_fn (fun x y h _ => c89_inj x y h) (i : Int) (by simp [nz, nz1, ML_nil]) rfl
theorem c89_pc (i : Int) : PCo Try.prog 89 [dI i] (Tab.of []) (dS (mHolder i)) (Tab.of []) := by
  refine pco_of_run [] (E := ⟨[c121], []⟩) (m := false) (base := 0) (Env.ok_cons c121_ok Env.ok_nil) G_ok mix 300 6 Try.func89 (by kernel_rfl) rfl (by kernel_rfl) (by kernel_rfl) rfl ?_
  by_cases h : mIn i 1 5 = true
  · have h2 := mIn_iff.1 h
    obtain rfl | rfl | rfl | rfl | rfl : i = 1 ∨ i = 2 ∨ i = 3 ∨ i = 4 ∨ i = 5 := by omega
    all_goals simp [Try.f89, mHolder, mTextAt, holderNames, mIn]
  · simp only [Bool.not_eq_true] at h
    simp [Try.f89, h]
    by_cases h0 : i = 0
    · subst h0; rfl
    · have : mIn i 0 5 = false := by
        rw [← Bool.not_eq_true, mIn_iff] at h ⊢; omega
      simp [mHolder, mTextAt, holderNames, this]
theorem c89_ok : c89.ok Try.prog := mkCon_ok fun i hpre => c89_pc i
/-- loop.example/g03007/laws.FnExactHolderText -/
theorem law21 (i : Int) (wi : inR .i64 i) : PCo Try.prog 21 [dI i] (Tab.of []) (dB true) (Tab.of []) := by
  refine pco_of_run [] (E := ⟨[c89, c90], []⟩) (m := false) (base := 0) (Env.ok_cons c89_ok (Env.ok_cons c90_ok Env.ok_nil)) G_ok mix 400 6 Try.func21 (by kernel_rfl) rfl (by kernel_rfl) (by kernel_rfl) rfl ?_
  simp [Try.f21]
  repeat' (first | omega | assumption | refine And.intro ?_ ?_ | intro _)
  all_goals first | omega | grind | (split at * <;> omega)
theorem law21_pc (D0 : D) (h0 : Sh G 9 3 D0) : PC Try.prog 21 [D0] (dB true) [] := by
  obtain ⟨i, rfl, wi⟩ := sh3 (n := 8) h0
  exact law21 i wi
def eventNames : List ByteArray := [⟨#[]⟩, ⟨#[102, 105, 110, 100]⟩, ⟨#[99, 108, 97, 105, 109]⟩, ⟨#[97, 110, 115, 119, 101, 114]⟩, ⟨#[115, 101, 114, 118, 101]⟩, ⟨#[115, 101, 108, 108]⟩, ⟨#[99, 108, 101, 97, 114]⟩, ⟨#[116, 105, 99, 107]⟩]
def mEvent (i : Int) : ByteArray := mTextAt i eventNames
@[simp] theorem c164_event (i : Int) : c164.fn [.lit (.int .i64 i), .sl false 1 (.lit (.string ⟨#[]⟩)) [.lit (.string ⟨#[]⟩), .lit (.string ⟨#[102, 105, 110, 100]⟩), .lit (.string ⟨#[99, 108, 97, 105, 109]⟩), .lit (.string ⟨#[97, 110, 115, 119, 101, 114]⟩), .lit (.string ⟨#[115, 101, 114, 118, 101]⟩), .lit (.string ⟨#[115, 101, 108, 108]⟩), .lit (.string ⟨#[99, 108, 101, 97, 114]⟩), .lit (.string ⟨#[116, 105, 99, 107]⟩)]] [] = some (True, dS (mEvent i), []) :=
  (c164_fn i eventNames).trans (by simp [mEvent, eventNames])
/-- loop.example/g03007/impl.EventName -/
noncomputable def c92 : Con := mkCon 92 false (α := Int) (fun x => (fun (i : Int) => [dI i]) x) (fun _ => []) (fun x => (fun (i : Int) => True) x) (fun x => (fun (i : Int) => (dS (mEvent i) : D)) x) (fun x => (fun (i : Int) => []) x)
@[simp] theorem c92_f : c92.f = 92 := rfl
@[simp] theorem c92_own : c92.own = false := rfl
theorem c92_inj : ∀ u_ v_ : Int, ((fun x => (fun (i : Int) => [dI i]) x) u_).map nz = ((fun x => (fun (i : Int) => [dI i]) x) v_).map nz → u_ = v_ := by
  intro u_ v_ h
  obtain i := u_
  obtain i' := v_
  simp [nz_lit, nz1_lit, nz_agg, nz_sl, nz1_sl] at h
  first | (simp [h]; done) | (obtain ⟨⟩ := h; simp_all; done) | simp_all
@[simp] theorem c92_fn (i : Int) : c92.fn [.lit (.int .i64 i)] [] = some ((fun (i : Int) => True) i, (fun (i : Int) => (dS (mEvent i) : D)) i, (fun (i : Int) => []) i) :=
  mkCon_fn (fun x y h _ => c92_inj x y h) (i : Int) (by simp [nz, nz1, ML_nil]) rfl
theorem c92_pc (i : Int) : PCo Try.prog 92 [dI i] (Tab.of []) (dS (mEvent i)) (Tab.of []) := by
  refine pco_of_run [] (E := ⟨[c164], []⟩) (m := false) (base := 0) (Env.ok_cons c164_ok Env.ok_nil) G_ok mix 300 6 Try.func92 (by kernel_rfl) rfl (by kernel_rfl) (by kernel_rfl) rfl ?_
  simp [Try.f92]
  all_goals first | omega | (rw [Bool.eq_iff_iff]; simp; omega) | grind
theorem c92_ok : c92.ok Try.prog := mkCon_ok fun i hpre => c92_pc i
/-- loop.example/g03007/spec.EventName -/
noncomputable def c91 : Con := mkCon 91 false (α := Int) (fun x => (fun (i : Int) => [dI i]) x) (fun _ => []) (fun x => (fun (i : Int) => True) x) (fun x => (fun (i : Int) => (dS (mEvent i) : D)) x) (fun x => (fun (i : Int) => []) x)
@[simp] theorem c91_f : c91.f = 91 := rfl
@[simp] theorem c91_own : c91.own = false := rfl
theorem c91_inj : ∀ u_ v_ : Int, ((fun x => (fun (i : Int) => [dI i]) x) u_).map nz = ((fun x => (fun (i : Int) => [dI i]) x) v_).map nz → u_ = v_ := by
  intro u_ v_ h
  obtain i := u_
  obtain i' := v_
  simp [nz_lit, nz1_lit, nz_agg, nz_sl, nz1_sl] at h
  first | (simp [h]; done) | (obtain ⟨⟩ := h; simp_all; done) | simp_all
@[simp] theorem c91_fn (i : Int) : c91.fn [.lit (.int .i64 i)] [] = some ((fun (i : Int) => True) i, (fun (i : Int) => (dS (mEvent i) : D)) i, (fun (i : Int) => []) i) :=
  mkCon_fn (fun x y h _ => c91_inj x y h) (i : Int) (by simp [nz, nz1, ML_nil]) rfl
theorem c91_pc (i : Int) : PCo Try.prog 91 [dI i] (Tab.of []) (dS (mEvent i)) (Tab.of []) := by
  refine pco_of_run [] (E := ⟨[c121], []⟩) (m := false) (base := 0) (Env.ok_cons c121_ok Env.ok_nil) G_ok mix 300 6 Try.func91 (by kernel_rfl) rfl (by kernel_rfl) (by kernel_rfl) rfl ?_
  by_cases h : mIn i 1 7 = true
  · have h2 := mIn_iff.1 h
    obtain rfl | rfl | rfl | rfl | rfl | rfl | rfl : i = 1 ∨ i = 2 ∨ i = 3 ∨ i = 4 ∨ i = 5 ∨ i = 6 ∨ i = 7 := by omega
    all_goals simp [Try.f91, mEvent, mTextAt, eventNames, mIn]
  · simp only [Bool.not_eq_true] at h
    simp [Try.f91, h]
    by_cases h0 : i = 0
    · subst h0; rfl
    · have : mIn i 0 7 = false := by
        rw [← Bool.not_eq_true, mIn_iff] at h ⊢; omega
      simp [mEvent, mTextAt, eventNames, this]
theorem c91_ok : c91.ok Try.prog := mkCon_ok fun i hpre => c91_pc i
/-- loop.example/g03007/laws.FnExactEventName -/
theorem law22 (i : Int) (wi : inR .i64 i) : PCo Try.prog 22 [dI i] (Tab.of []) (dB true) (Tab.of []) := by
  refine pco_of_run [] (E := ⟨[c91, c92], []⟩) (m := false) (base := 0) (Env.ok_cons c91_ok (Env.ok_cons c92_ok Env.ok_nil)) G_ok mix 400 6 Try.func22 (by kernel_rfl) rfl (by kernel_rfl) (by kernel_rfl) rfl ?_
  simp [Try.f22]
  repeat' (first | omega | assumption | refine And.intro ?_ ?_ | intro _)
  all_goals first | omega | grind | (split at * <;> omega)
theorem law22_pc (D0 : D) (h0 : Sh G 9 3 D0) : PC Try.prog 22 [D0] (dB true) [] := by
  obtain ⟨i, rfl, wi⟩ := sh3 (n := 8) h0
  exact law22 i wi

end Go.Proofs.Ytadipfpojlceeaa
