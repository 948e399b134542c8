/- Contracts of the functions that the laws run. -/
import Derived.Test.YtpnfkjbnhholfaaDoorch04b
import Derived.Test.YtpnfkjbnhholfaaDoorEngB
namespace Go.Proofs.YtpnfkjbnhholfaaDoor
open Go Go.Eng
set_option linter.unusedSimpArgs false
set_option linter.unusedVariables false
set_option maxRecDepth 10000
set_option maxHeartbeats 1000000
def fateNames : List ByteArray := [⟨#[107, 101, 101, 112]⟩, ⟨#[115, 101, 114, 118, 101]⟩, ⟨#[102, 105, 110, 100, 101, 114]⟩, ⟨#[115, 101, 108, 108]⟩, ⟨#[103, 105, 118, 101]⟩, ⟨#[116, 104, 114, 111, 119]⟩]
def mFate (i : Int) : ByteArray := mTextAt i fateNames
@[simp] theorem c40_fate (i : Int) : c40.fn [.lit (.int .i64 i), .sl false 1 (.lit (.string ⟨#[]⟩)) [.lit (.string ⟨#[107, 101, 101, 112]⟩), .lit (.string ⟨#[115, 101, 114, 118, 101]⟩), .lit (.string ⟨#[102, 105, 110, 100, 101, 114]⟩), .lit (.string ⟨#[115, 101, 108, 108]⟩), .lit (.string ⟨#[103, 105, 118, 101]⟩), .lit (.string ⟨#[116, 104, 114, 111, 119]⟩)]] [] = some (True, dS (mFate i), []) :=
  (c40_fn i fateNames).trans (by simp [mFate, fateNames])
/-- loop.example/g03007/impl.FateName -/
noncomputable def c20 : Con := mkCon 20 false (α := Int) (fun x => (fun (i : Int) => [dI i]) x) (fun _ => []) (fun x => (fun (i : Int) => True) x) (fun x => (fun (i : Int) => (dS (mFate i) : D)) x) (fun x => (fun (i : Int) => []) x)
@[simp] theorem c20_f : c20.f = 20 := rfl
@[simp] theorem c20_own : c20.own = false := rfl
theorem c20_inj : ∀ u_ v_ : Int, ((fun x => (fun (i : Int) => [dI i]) x) u_).map nz = ((fun x => (fun (i : Int) => [dI i]) x) v_).map nz → u_ = v_ := by
  intro u_ v_ h
  obtain i := u_
  obtain i' := v_
  simp [nz_lit, nz1_lit, nz_agg, nz_sl, nz1_sl] at h
  first | (simp [h]; done) | (obtain ⟨⟩ := h; simp_all; done) | simp_all
@[simp] theorem c20_fn (i : Int) : c20.fn [.lit (.int .i64 i)] [] = some ((fun (i : Int) => True) i, (fun (i : Int) => (dS (mFate i) : D)) i, (fun (i : Int) => []) i) :=
  mkCon_fn (fun x y h _ => c20_inj x y h) (i : Int) (by simp [nz, nz1, ML_nil]) rfl
theorem c20_pc (i : Int) : PCo Tryd.prog 20 [dI i] (Tab.of []) (dS (mFate i)) (Tab.of []) := by
  refine pco_of_run [] (E := ⟨[c40], [], []⟩) (m := false) (base := 0) (Env.ok_cons c40_ok Env.ok_nil) G_ok mix 300 6 Tryd.func20 (by kernel_rfl) rfl (by kernel_rfl) (by kernel_rfl) rfl ?_
  simp [Tryd.f20]
  all_goals first | omega | (rw [Bool.eq_iff_iff]; simp; omega) | grind
theorem c20_ok : c20.ok Tryd.prog := mkCon_ok fun i hpre => c20_pc i
def isN (n x : Int) : Bool := decide (x = n)
/-- loop.example/g03007/impl.CountFate$1 -/
noncomputable def c44 : Con := mkCon 44 false (α := Int × Int) (fun x => (fun (x : Int) (n : Int) => ([dI x, .el (dI n)] : List D)) x.1 x.2) (fun x => (fun (x : Int) (n : Int) => ([] : List (Nm × OO))) x.1 x.2) (fun x => (fun (x : Int) (n : Int) => True) x.1 x.2) (fun x => (fun (x : Int) (n : Int) => (dB (isN n x) : D)) x.1 x.2) (fun x => (fun (x : Int) (n : Int) => ([] : List (Nm × OO))) x.1 x.2)
@[simp] theorem c44_f : c44.f = 44 := rfl
@[simp] theorem c44_own : c44.own = false := rfl
theorem c44_inj : ∀ u_ v_ : Int × Int, ((fun x => (fun (x : Int) (n : Int) => ([dI x, .el (dI n)] : List D)) x.1 x.2) u_).map nz = ((fun x => (fun (x : Int) (n : Int) => ([dI x, .el (dI n)] : List D)) x.1 x.2) v_).map nz → (fun x => (fun (x : Int) (n : Int) => ([] : List (Nm × OO))) x.1 x.2) u_ = (fun x => (fun (x : Int) (n : Int) => ([] : List (Nm × OO))) x.1 x.2) v_ → u_ = v_ := by
  intro u_ v_ h h2_
  obtain ⟨x, n⟩ := u_
  obtain ⟨x', n'⟩ := v_
  simp [nz_lit, nz1_lit, nz_agg, nz_sl, nz1_sl, nz_sx, nz_el, nz1_el, nz_own, nz1_own, nz_ptr, nz_fn, nz_iface] at h h2_
  first | (simp [h, h2_]; done) | (obtain ⟨h3_, h4_⟩ := List.append_inj h2_ h.1; simp_all; done) | simp_all | grind
@[simp] theorem c44_fn (x : Int) (n : Int) : c44.fn ([dI x, .el (dI n)]) ([]) = some (True, dB (isN n x), []) :=
  mkCon_fn c44_inj ((x, n) : Int × Int) rfl rfl
theorem c44_pc (x : Int) (n : Int) : PCo Tryd.prog 44 ([dI x, .el (dI n)]) (Tab.of ([])) (dB (isN n x)) (Tab.of ([])) := by
  refine pco_of_run [] (E := ⟨[], [], []⟩) (m := false) (base := 0) Env.ok_nil G_ok mix 300 6 Tryd.func44 (by kernel_rfl) rfl (by kernel_rfl) (by kernel_rfl) rfl ?_
  simp [Tryd.f44]
  first | done | rfl
theorem c44_ok : c44.ok Tryd.prog := mkCon_ok fun ⟨x, n⟩ hpre => c44_pc x n
/-- loop.example/g03007/impl.countWhere[int] -/
noncomputable def c43 : Con := mkCon 43 false (α := (List Int) × Int) (fun x => (fun (l : List Int) (n : Int) => ([encLI l, .fn (.func 44) [] [.el (dI n)]] : List D)) x.1 x.2) (fun x => (fun (l : List Int) (n : Int) => ([] : List (Nm × OO))) x.1 x.2) (fun x => (fun (l : List Int) (n : Int) => l.length ≤ 1099511627776) x.1 x.2) (fun x => (fun (l : List Int) (n : Int) => (dI (l.countP (isN n)) : D)) x.1 x.2) (fun x => (fun (l : List Int) (n : Int) => ([] : List (Nm × OO))) x.1 x.2)
@[simp] theorem c43_f : c43.f = 43 := rfl
@[simp] theorem c43_own : c43.own = false := rfl
theorem c43_inj : ∀ u_ v_ : (List Int) × Int, ((fun x => (fun (l : List Int) (n : Int) => ([encLI l, .fn (.func 44) [] [.el (dI n)]] : List D)) x.1 x.2) u_).map nz = ((fun x => (fun (l : List Int) (n : Int) => ([encLI l, .fn (.func 44) [] [.el (dI n)]] : List D)) x.1 x.2) v_).map nz → (fun x => (fun (l : List Int) (n : Int) => ([] : List (Nm × OO))) x.1 x.2) u_ = (fun x => (fun (l : List Int) (n : Int) => ([] : List (Nm × OO))) x.1 x.2) v_ → u_ = v_ := by
  intro u_ v_ h h2_
  obtain ⟨l, n⟩ := u_
  obtain ⟨l', n'⟩ := v_
  simp [nz_lit, nz1_lit, nz_agg, nz_sl, nz1_sl, nz_sx, nz_el, nz1_el, nz_own, nz1_own, nz_ptr, nz_fn, nz_iface] at h h2_
  first | (simp [h, h2_]; done) | (obtain ⟨h3_, h4_⟩ := List.append_inj h2_ h.1; simp_all; done) | simp_all | grind
@[simp] theorem c43_fn (l : List Int) (n : Int) : c43.fn ([(.sl false 1 (.lit (.int .i64 0)) (ML dI l)), .fn (.func 44) [] [.el (dI n)]]) ([]) = some (l.length ≤ 1099511627776, dI (l.countP (isN n)), []) :=
  mkCon_fn c43_inj ((l, n) : (List Int) × Int) rfl rfl
theorem c43_pc (l : List Int) (n : Int) (hpre : l.length ≤ 1099511627776) : PCo Tryd.prog 43 ([encLI l, .fn (.func 44) [] [.el (dI n)]]) (Tab.of ([])) (dI (l.countP (isN n))) (Tab.of ([])) := by
  refine pco_of_run [] (E := ⟨[c44], [], []⟩) (m := false) (base := 0) (Env.ok_cons c44_ok Env.ok_nil) G_ok mix 300 6 Tryd.func43 (by kernel_rfl) rfl (by kernel_rfl) (by kernel_rfl) rfl ?_
  simp [Tryd.f43]
  refine loop_inv (fun p : Nat => p ≤ l.length) (fun p => [(1, .fn (.func 44) [] [.el (dI n)]), (5, dI ((l.take p).countP (isN n))), (8, encLI l), (9, dI l.length), (10, dI p)]) (fun _ => []) 1 (fun p => l.length - p) 0 400 (by simp) (by simp) (by simp) ?_
  intro p hp
  simp
  refine ⟨fun hlt => ?_, fun hge => ?_⟩
  · have hs := countP_at (want := isN n) (d := 0) hlt
    have hb := countP_take (want := isN n) (l := l) (p := p)
    repeat' (first | omega | refine And.intro ?_ ?_ | intro _)
    all_goals (rename_i hw; refine Again.mk (p + 1) (by omega) (by simp [hs, hw]) (by first | omega | (simp; omega)))
  · rw [List.take_of_length_le hge]
theorem c43_ok : c43.ok Tryd.prog := mkCon_ok fun ⟨l, n⟩ hpre => c43_pc l n hpre
/-- loop.example/g03007/impl.CountFate -/
noncomputable def c24 : Con := mkCon 24 false (α := (List Int) × Int) (fun x => (fun (l : List Int) (n : Int) => [encLI l, dI n]) x.1 x.2) (fun _ => []) (fun x => (fun (l : List Int) (n : Int) => l.length ≤ 1099511627776) x.1 x.2) (fun x => (fun (l : List Int) (n : Int) => (dI (l.countP (isN n)) : D)) x.1 x.2) (fun x => (fun (l : List Int) (n : Int) => []) x.1 x.2)
@[simp] theorem c24_f : c24.f = 24 := rfl
@[simp] theorem c24_own : c24.own = false := rfl
theorem c24_inj : ∀ u_ v_ : (List Int) × Int, ((fun x => (fun (l : List Int) (n : Int) => [encLI l, dI n]) x.1 x.2) u_).map nz = ((fun x => (fun (l : List Int) (n : Int) => [encLI l, dI n]) x.1 x.2) v_).map nz → u_ = v_ := by
  intro u_ v_ h
  obtain ⟨l, n⟩ := u_
  obtain ⟨l', n'⟩ := v_
  simp [nz_lit, nz1_lit, nz_agg, nz_sl, nz1_sl, encLI] at h
  first | (simp [h]; done) | (obtain ⟨⟩ := h; simp_all; done) | simp_all
@[simp] theorem c24_fn (l : List Int) (n : Int) : c24.fn [.sl false 1 (.lit (.int .i64 0)) (ML dI l), .lit (.int .i64 n)] [] = some ((fun (l : List Int) (n : Int) => l.length ≤ 1099511627776) l n, (fun (l : List Int) (n : Int) => (dI (l.countP (isN n)) : D)) l n, (fun (l : List Int) (n : Int) => []) l n) :=
  mkCon_fn (fun x y h _ => c24_inj x y h) ((l, n) : (List Int) × Int) (by simp [nz, nz1, ML_nil, encLI]) rfl
@[simp] theorem c24_fn1 (s_l : Nat) (z_l : D) (n : Int) : c24.fn [.sl false s_l z_l [], .lit (.int .i64 n)] [] = some ((fun (l : List Int) (n : Int) => l.length ≤ 1099511627776) [] n, (fun (l : List Int) (n : Int) => (dI (l.countP (isN n)) : D)) [] n, (fun (l : List Int) (n : Int) => []) [] n) :=
  mkCon_fn (fun x y h _ => c24_inj x y h) (([], n) : (List Int) × Int) (by simp [nz, nz1, ML_nil, encLI]) rfl
theorem c24_pc (l : List Int) (n : Int) (hpre : l.length ≤ 1099511627776) : PCo Tryd.prog 24 [encLI l, dI n] (Tab.of []) (dI (l.countP (isN n))) (Tab.of []) := by
  refine pco_of_run [] (E := ⟨[c43, c44], [], []⟩) (m := false) (base := 0) (Env.ok_cons c43_ok (Env.ok_cons c44_ok Env.ok_nil)) G_ok mix 300 6 Tryd.func24 (by kernel_rfl) rfl (by kernel_rfl) (by kernel_rfl) rfl ?_
  simp [Tryd.f24]
  exact hpre
theorem c24_ok : c24.ok Tryd.prog := mkCon_ok fun ⟨l, n⟩ hpre => c24_pc l n hpre
end Go.Proofs.YtpnfkjbnhholfaaDoor
