/- Contracts of the functions that the laws run. -/
import Derived.Test.YtbpcabaaniiggaaDoorch04b
import Derived.Test.YtbpcabaaniiggaaDoorEngB
namespace Go.Proofs.YtbpcabaaniiggaaDoor
open Go Go.Eng
set_option linter.unusedSimpArgs false
set_option linter.unusedVariables false
set_option maxRecDepth 10000
set_option maxHeartbeats 1000000
def fateNames : List ByteArray := [⟨#[107, 101, 101, 112]⟩, ⟨#[115, 101, 114, 118, 101]⟩, ⟨#[102, 105, 110, 100, 101, 114]⟩, ⟨#[115, 101, 108, 108]⟩, ⟨#[103, 105, 118, 101]⟩, ⟨#[116, 104, 114, 111, 119]⟩]
def mFate (i : Int) : ByteArray := mTextAt i fateNames
@[simp] theorem c100_fate (i : Int) : c100.fn [.lit (.int .i64 i), .sl false 1 (.lit (.string ⟨#[]⟩)) [.lit (.string ⟨#[107, 101, 101, 112]⟩), .lit (.string ⟨#[115, 101, 114, 118, 101]⟩), .lit (.string ⟨#[102, 105, 110, 100, 101, 114]⟩), .lit (.string ⟨#[115, 101, 108, 108]⟩), .lit (.string ⟨#[103, 105, 118, 101]⟩), .lit (.string ⟨#[116, 104, 114, 111, 119]⟩)]] [] = some (True, dS (mFate i), []) :=
  (c100_fn i fateNames).trans (by simp [mFate, fateNames])
/-- loop.example/g03007/impl.FateName -/
noncomputable def c70 : Con := mkCon 70 false (α := Int) (fun x => (fun (i : Int) => [dI i]) x) (fun _ => []) (fun x => (fun (i : Int) => True) x) (fun x => (fun (i : Int) => (dS (mFate i) : D)) x) (fun x => (fun (i : Int) => []) x)
@[simp] theorem c70_f : c70.f = 70 := rfl
@[simp] theorem c70_own : c70.own = false := rfl
theorem c70_inj : ∀ u_ v_ : Int, ((fun x => (fun (i : Int) => [dI i]) x) u_).map nz = ((fun x => (fun (i : Int) => [dI i]) x) v_).map nz → u_ = v_ := by
  intro u_ v_ h
  obtain i := u_
  obtain i' := v_
  simp [nz_lit, nz1_lit, nz_agg, nz_sl, nz1_sl] at h
  first | (simp [h]; done) | (obtain ⟨⟩ := h; simp_all; done) | simp_all
@[simp] theorem c70_fn (i : Int) : c70.fn [.lit (.int .i64 i)] [] = some ((fun (i : Int) => True) i, (fun (i : Int) => (dS (mFate i) : D)) i, (fun (i : Int) => []) i) :=
  mkCon_fn (fun x y h _ => c70_inj x y h) (i : Int) (by simp [nz, nz1, ML_nil]) rfl
theorem c70_pc (i : Int) : PCo Tryd.prog 70 [dI i] (Tab.of []) (dS (mFate i)) (Tab.of []) := by
  refine pco_of_run [] (E := ⟨[c100], []⟩) (m := false) (base := 0) (Env.ok_cons c100_ok Env.ok_nil) G_ok mix 300 6 Tryd.func70 (by kernel_rfl) rfl (by kernel_rfl) (by kernel_rfl) rfl ?_
  simp [Tryd.f70]
  all_goals first | omega | (rw [Bool.eq_iff_iff]; simp; omega) | grind
theorem c70_ok : c70.ok Tryd.prog := mkCon_ok fun i hpre => c70_pc i
/-- loop.example/g03007/spec.FateName -/
noncomputable def c69 : Con := mkCon 69 false (α := Int) (fun x => (fun (i : Int) => [dI i]) x) (fun _ => []) (fun x => (fun (i : Int) => True) x) (fun x => (fun (i : Int) => (dS (mFate i) : D)) x) (fun x => (fun (i : Int) => []) x)
@[simp] theorem c69_f : c69.f = 69 := rfl
@[simp] theorem c69_own : c69.own = false := rfl
theorem c69_inj : ∀ u_ v_ : Int, ((fun x => (fun (i : Int) => [dI i]) x) u_).map nz = ((fun x => (fun (i : Int) => [dI i]) x) v_).map nz → u_ = v_ := by
  intro u_ v_ h
  obtain i := u_
  obtain i' := v_
  simp [nz_lit, nz1_lit, nz_agg, nz_sl, nz1_sl] at h
  first | (simp [h]; done) | (obtain ⟨⟩ := h; simp_all; done) | simp_all
@[simp] theorem c69_fn (i : Int) : c69.fn [.lit (.int .i64 i)] [] = some ((fun (i : Int) => True) i, (fun (i : Int) => (dS (mFate i) : D)) i, (fun (i : Int) => []) i) :=
  mkCon_fn (fun x y h _ => c69_inj x y h) (i : Int) (by simp [nz, nz1, ML_nil]) rfl
theorem c69_pc (i : Int) : PCo Tryd.prog 69 [dI i] (Tab.of []) (dS (mFate i)) (Tab.of []) := by
  refine pco_of_run [] (E := ⟨[c74], []⟩) (m := false) (base := 0) (Env.ok_cons c74_ok Env.ok_nil) G_ok mix 300 6 Tryd.func69 (by kernel_rfl) rfl (by kernel_rfl) (by kernel_rfl) rfl ?_
  by_cases h : mIn i 0 5 = true
  · have h2 := mIn_iff.1 h
    obtain rfl | rfl | rfl | rfl | rfl | rfl : i = 0 ∨ i = 1 ∨ i = 2 ∨ i = 3 ∨ i = 4 ∨ i = 5 := by omega
    all_goals simp [Tryd.f69, mFate, mTextAt, fateNames, mIn]
  · simp only [Bool.not_eq_true] at h
    simp [Tryd.f69, h]
    simp [mFate, mTextAt, fateNames, h]
theorem c69_ok : c69.ok Tryd.prog := mkCon_ok fun i hpre => c69_pc i
def isN (n x : Int) : Bool := decide (x = n)
/-- loop.example/g03007/laws.toIntS -/
noncomputable def c20f : Con := mkCon 20 false (α := (List Int)) (fun x => (fun (l : List Int) => [encLI l]) x) (fun _ => []) (fun x => (fun (l : List Int) => l.length ≤ 1099511627776) x) (fun x => (fun (l : List Int) => (encLI l : D)) x) (fun x => (fun (l : List Int) => []) x)
@[simp] theorem c20f_f : c20f.f = 20 := rfl
@[simp] theorem c20f_own : c20f.own = false := rfl
theorem c20f_inj : ∀ u_ v_ : (List Int), ((fun x => (fun (l : List Int) => [encLI l]) x) u_).map nz = ((fun x => (fun (l : List Int) => [encLI l]) x) v_).map nz → u_ = v_ := by
  intro u_ v_ h
  obtain l := u_
  obtain l' := v_
  simp [nz_lit, nz1_lit, nz_agg, nz_sl, nz1_sl, encLI] at h
  first | (simp [h]; done) | (obtain ⟨⟩ := h; simp_all; done) | simp_all
@[simp] theorem c20f_fn (l : List Int) : c20f.fn [.sl false 1 (.lit (.int .i64 0)) (ML dI l)] [] = some ((fun (l : List Int) => l.length ≤ 1099511627776) l, (fun (l : List Int) => (encLI l : D)) l, (fun (l : List Int) => []) l) :=
  mkCon_fn (fun x y h _ => c20f_inj x y h) (l : (List Int)) (by simp [nz, nz1, ML_nil, encLI]) rfl
@[simp] theorem c20f_fn1 (s_l : Nat) (z_l : D) : c20f.fn [.sl false s_l z_l []] [] = some ((fun (l : List Int) => l.length ≤ 1099511627776) [], (fun (l : List Int) => (encLI l : D)) [], (fun (l : List Int) => []) []) :=
  mkCon_fn (fun x y h _ => c20f_inj x y h) ([] : (List Int)) (by simp [nz, nz1, ML_nil, encLI]) rfl
theorem c20f_pc (l : List Int) (hpre : l.length ≤ 1099511627776) : PCo Tryd.prog 20 [encLI l] (Tab.of []) (encLI l) (Tab.of []) := by
  refine pco_of_run [] (E := ⟨[], []⟩) (m := false) (base := 0) Env.ok_nil G_ok mix 300 6 Tryd.func20 (by kernel_rfl) rfl (by kernel_rfl) (by kernel_rfl) rfl ?_
  simp [Tryd.f20]
  refine ⟨by omega, ?_⟩
  refine loop_inv (fun p : Nat => p ≤ l.length) (fun p => [(0, encLI l), (3, .own (0, 1) 1 0 l.length), (4, dI p)]) (fun p => [((0, 1), .arr false 1 (.lit (.int .i64 0)) (ML dI (l.take p ++ List.replicate (l.length - p) 0)))]) 2 (fun p => l.length - p) 0 100 (by simp) (by simp) (by first | (simp; done) | (simp; simp only [ML, List.map_replicate]; rfl)) ?_
  intro p hp
  simp
  refine ⟨fun hlt => ⟨by omega, by omega, Again.mk (p + 1) (by omega) (by simp [fill_step hlt]) (by first | omega | (simp; omega))⟩, fun hge => ?_⟩
  have : p = l.length := by omega
  subst this
  simp
theorem c20f_ok : c20f.ok Tryd.prog := mkCon_ok fun l hpre => c20f_pc l hpre
end Go.Proofs.YtbpcabaaniiggaaDoor
