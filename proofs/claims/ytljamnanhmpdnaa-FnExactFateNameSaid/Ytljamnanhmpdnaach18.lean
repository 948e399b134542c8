/- Contracts of the functions that the laws run. -/
import Derived.Test.Ytljamnanhmpdnaach04b
import Derived.Test.YtljamnanhmpdnaaEngB
namespace Go.Proofs.Ytljamnanhmpdnaa
open Go Go.Eng
set_option linter.unusedSimpArgs false
set_option linter.unusedVariables false
set_option maxRecDepth 10000
set_option maxHeartbeats 1000000
def fateNames : List ByteArray := [⟨#[107, 101, 101, 112]⟩, ⟨#[115, 101, 114, 118, 101]⟩, ⟨#[102, 105, 110, 100, 101, 114]⟩, ⟨#[115, 101, 108, 108]⟩, ⟨#[103, 105, 118, 101]⟩, ⟨#[116, 104, 114, 111, 119]⟩]
def mFate (i : Int) : ByteArray := mTextAt i fateNames
@[simp] theorem c70_fate (i : Int) : c70.fn [.lit (.int .i64 i), .sl false 1 (.lit (.string ⟨#[]⟩)) [.lit (.string ⟨#[107, 101, 101, 112]⟩), .lit (.string ⟨#[115, 101, 114, 118, 101]⟩), .lit (.string ⟨#[102, 105, 110, 100, 101, 114]⟩), .lit (.string ⟨#[115, 101, 108, 108]⟩), .lit (.string ⟨#[103, 105, 118, 101]⟩), .lit (.string ⟨#[116, 104, 114, 111, 119]⟩)]] [] = some (True, dS (mFate i), []) :=
  (c70_fn i fateNames).trans (by simp [mFate, fateNames])
/-- loop.example/g03007/impl.FateName -/
noncomputable def c33 : Con := mkCon 33 false (α := Int) (fun x => (fun (i : Int) => [dI i]) x) (fun _ => []) (fun x => (fun (i : Int) => True) x) (fun x => (fun (i : Int) => (dS (mFate i) : D)) x) (fun x => (fun (i : Int) => []) x)
@[simp] theorem c33_f : c33.f = 33 := rfl
@[simp] theorem c33_own : c33.own = false := rfl
theorem c33_inj : ∀ u_ v_ : Int, ((fun x => (fun (i : Int) => [dI i]) x) u_).map nz = ((fun x => (fun (i : Int) => [dI i]) x) v_).map nz → u_ = v_ := by
  intro u_ v_ h
  obtain i := u_
  obtain i' := v_
  simp [nz_lit, nz1_lit, nz_agg, nz_sl, nz1_sl] at h
  first | (simp [h]; done) | (obtain ⟨⟩ := h; simp_all; done) | simp_all
@[simp] theorem c33_fn (i : Int) : c33.fn [.lit (.int .i64 i)] [] = some ((fun (i : Int) => True) i, (fun (i : Int) => (dS (mFate i) : D)) i, (fun (i : Int) => []) i) :=
  mkCon_fn (fun x y h _ => c33_inj x y h) (i : Int) (by simp [nz, nz1, ML_nil]) rfl
theorem c33_pc (i : Int) : PCo Try.prog 33 [dI i] (Tab.of []) (dS (mFate i)) (Tab.of []) := by
  refine pco_of_run [] (E := ⟨[c70], []⟩) (m := false) (base := 0) (Env.ok_cons c70_ok Env.ok_nil) G_ok mix 300 6 Try.func33 (by kernel_rfl) rfl (by kernel_rfl) (by kernel_rfl) rfl ?_
  simp [Try.f33]
  all_goals first | omega | (rw [Bool.eq_iff_iff]; simp; omega) | grind
theorem c33_ok : c33.ok Try.prog := mkCon_ok fun i hpre => c33_pc i
/-- loop.example/g03007/spec.FateName -/
noncomputable def c32 : Con := mkCon 32 false (α := Int) (fun x => (fun (i : Int) => [dI i]) x) (fun _ => []) (fun x => (fun (i : Int) => True) x) (fun x => (fun (i : Int) => (dS (mFate i) : D)) x) (fun x => (fun (i : Int) => []) x)
@[simp] theorem c32_f : c32.f = 32 := rfl
@[simp] theorem c32_own : c32.own = false := rfl
theorem c32_inj : ∀ u_ v_ : Int, ((fun x => (fun (i : Int) => [dI i]) x) u_).map nz = ((fun x => (fun (i : Int) => [dI i]) x) v_).map nz → u_ = v_ := by
  intro u_ v_ h
  obtain i := u_
  obtain i' := v_
  simp [nz_lit, nz1_lit, nz_agg, nz_sl, nz1_sl] at h
  first | (simp [h]; done) | (obtain ⟨⟩ := h; simp_all; done) | simp_all
@[simp] theorem c32_fn (i : Int) : c32.fn [.lit (.int .i64 i)] [] = some ((fun (i : Int) => True) i, (fun (i : Int) => (dS (mFate i) : D)) i, (fun (i : Int) => []) i) :=
  mkCon_fn (fun x y h _ => c32_inj x y h) (i : Int) (by simp [nz, nz1, ML_nil]) rfl
theorem c32_pc (i : Int) : PCo Try.prog 32 [dI i] (Tab.of []) (dS (mFate i)) (Tab.of []) := by
  refine pco_of_run [] (E := ⟨[c61], []⟩) (m := false) (base := 0) (Env.ok_cons c61_ok Env.ok_nil) G_ok mix 300 6 Try.func32 (by kernel_rfl) rfl (by kernel_rfl) (by kernel_rfl) rfl ?_
  by_cases h : mIn i 0 5 = true
  · have h2 := mIn_iff.1 h
    obtain rfl | rfl | rfl | rfl | rfl | rfl : i = 0 ∨ i = 1 ∨ i = 2 ∨ i = 3 ∨ i = 4 ∨ i = 5 := by omega
    all_goals simp [Try.f32, mFate, mTextAt, fateNames, mIn]
  · simp only [Bool.not_eq_true] at h
    simp [Try.f32, h]
    simp [mFate, mTextAt, fateNames, h]
theorem c32_ok : c32.ok Try.prog := mkCon_ok fun i hpre => c32_pc i
/-- loop.example/g03007/laws.FnExactFateName -/
theorem law7 (i : Int) (wi : inR .i64 i) : PCo Try.prog 7 [dI i] (Tab.of []) (dB true) (Tab.of []) := by
  refine pco_of_run [] (E := ⟨[c32, c33], []⟩) (m := false) (base := 0) (Env.ok_cons c32_ok (Env.ok_cons c33_ok Env.ok_nil)) G_ok mix 400 6 Try.func7 (by kernel_rfl) rfl (by kernel_rfl) (by kernel_rfl) rfl ?_
  simp [Try.f7]
  repeat' (first | omega | assumption | refine And.intro ?_ ?_ | intro _)
  all_goals first | omega | grind | (split at * <;> omega)
theorem law7_pc (D0 : D) (h0 : Sh G 9 3 D0) : PC Try.prog 7 [D0] (dB true) [] := by
  obtain ⟨i, rfl, wi⟩ := sh3 (n := 8) h0
  exact law7 i wi
def isN (n x : Int) : Bool := decide (x = n)
/-- loop.example/g03007/impl.CountFate$1 -/
noncomputable def c72 : Con := mkCon 72 false (α := Int × Int) (fun x => (fun (x : Int) (n : Int) => ([dI x, .el (dI n)] : List D)) x.1 x.2) (fun x => (fun (x : Int) (n : Int) => ([] : List (Nm × OO))) x.1 x.2) (fun x => (fun (x : Int) (n : Int) => True) x.1 x.2) (fun x => (fun (x : Int) (n : Int) => (dB (isN n x) : D)) x.1 x.2) (fun x => (fun (x : Int) (n : Int) => ([] : List (Nm × OO))) x.1 x.2)
@[simp] theorem c72_f : c72.f = 72 := rfl
@[simp] theorem c72_own : c72.own = false := rfl
theorem c72_inj : ∀ u_ v_ : Int × Int, ((fun x => (fun (x : Int) (n : Int) => ([dI x, .el (dI n)] : List D)) x.1 x.2) u_).map nz = ((fun x => (fun (x : Int) (n : Int) => ([dI x, .el (dI n)] : List D)) x.1 x.2) v_).map nz → (fun x => (fun (x : Int) (n : Int) => ([] : List (Nm × OO))) x.1 x.2) u_ = (fun x => (fun (x : Int) (n : Int) => ([] : List (Nm × OO))) x.1 x.2) v_ → u_ = v_ := by
  intro u_ v_ h h2_
  obtain ⟨x, n⟩ := u_
  obtain ⟨x', n'⟩ := v_
  simp [nz_lit, nz1_lit, nz_agg, nz_sl, nz1_sl, nz_sx, nz_el, nz1_el, nz_own, nz1_own, nz_ptr, nz_fn, nz_iface] at h h2_
  first | (simp [h, h2_]; done) | simp_all | grind
@[simp] theorem c72_fn (x : Int) (n : Int) : c72.fn ([dI x, .el (dI n)]) ([]) = some (True, dB (isN n x), []) :=
  mkCon_fn c72_inj ((x, n) : Int × Int) rfl rfl
theorem c72_pc (x : Int) (n : Int) : PCo Try.prog 72 ([dI x, .el (dI n)]) (Tab.of ([])) (dB (isN n x)) (Tab.of ([])) := by
  refine pco_of_run [] (E := ⟨[], []⟩) (m := false) (base := 0) Env.ok_nil G_ok mix 300 6 Try.func72 (by kernel_rfl) rfl (by kernel_rfl) (by kernel_rfl) rfl ?_
  simp [Try.f72]
  first | done | rfl
theorem c72_ok : c72.ok Try.prog := mkCon_ok fun ⟨x, n⟩ hpre => c72_pc x n
/-- loop.example/g03007/impl.countWhere[int] -/
noncomputable def c71 : Con := mkCon 71 false (α := (List Int) × Int) (fun x => (fun (l : List Int) (n : Int) => ([encLI l, .fn (.func 72) [] [.el (dI n)]] : List D)) x.1 x.2) (fun x => (fun (l : List Int) (n : Int) => ([] : List (Nm × OO))) x.1 x.2) (fun x => (fun (l : List Int) (n : Int) => l.length ≤ 1099511627776) x.1 x.2) (fun x => (fun (l : List Int) (n : Int) => (dI (l.countP (isN n)) : D)) x.1 x.2) (fun x => (fun (l : List Int) (n : Int) => ([] : List (Nm × OO))) x.1 x.2)
@[simp] theorem c71_f : c71.f = 71 := rfl
@[simp] theorem c71_own : c71.own = false := rfl
theorem c71_inj : ∀ u_ v_ : (List Int) × Int, ((fun x => (fun (l : List Int) (n : Int) => ([encLI l, .fn (.func 72) [] [.el (dI n)]] : List D)) x.1 x.2) u_).map nz = ((fun x => (fun (l : List Int) (n : Int) => ([encLI l, .fn (.func 72) [] [.el (dI n)]] : List D)) x.1 x.2) v_).map nz → (fun x => (fun (l : List Int) (n : Int) => ([] : List (Nm × OO))) x.1 x.2) u_ = (fun x => (fun (l : List Int) (n : Int) => ([] : List (Nm × OO))) x.1 x.2) v_ → u_ = v_ := by
  intro u_ v_ h h2_
  obtain ⟨l, n⟩ := u_
  obtain ⟨l', n'⟩ := v_
  simp [nz_lit, nz1_lit, nz_agg, nz_sl, nz1_sl, nz_sx, nz_el, nz1_el, nz_own, nz1_own, nz_ptr, nz_fn, nz_iface] at h h2_
  first | (simp [h, h2_]; done) | simp_all | grind
@[simp] theorem c71_fn (l : List Int) (n : Int) : c71.fn ([(.sl false 1 (.lit (.int .i64 0)) (ML dI l)), .fn (.func 72) [] [.el (dI n)]]) ([]) = some (l.length ≤ 1099511627776, dI (l.countP (isN n)), []) :=
  mkCon_fn c71_inj ((l, n) : (List Int) × Int) rfl rfl
theorem c71_pc (l : List Int) (n : Int) (hpre : l.length ≤ 1099511627776) : PCo Try.prog 71 ([encLI l, .fn (.func 72) [] [.el (dI n)]]) (Tab.of ([])) (dI (l.countP (isN n))) (Tab.of ([])) := by
  refine pco_of_run [] (E := ⟨[c72], []⟩) (m := false) (base := 0) (Env.ok_cons c72_ok Env.ok_nil) G_ok mix 300 6 Try.func71 (by kernel_rfl) rfl (by kernel_rfl) (by kernel_rfl) rfl ?_
  simp [Try.f71]
  refine loop_inv (fun p : Nat => p ≤ l.length) (fun p => [(1, .fn (.func 72) [] [.el (dI n)]), (5, dI ((l.take p).countP (isN n))), (8, encLI l), (9, dI l.length), (10, dI p)]) (fun _ => []) 1 (fun p => l.length - p) 0 400 (by simp) (by simp) (by simp) ?_
  intro p hp
  simp
  refine ⟨fun hlt => ?_, fun hge => ?_⟩
  · have hs := countP_at (want := isN n) (d := 0) hlt
    have hb := countP_take (want := isN n) (l := l) (p := p)
    repeat' (first | omega | refine And.intro ?_ ?_ | intro _)
    all_goals (rename_i hw; refine Again.mk (p + 1) (by omega) (by simp [hs, hw]) (by first | omega | (simp; omega)))
  · rw [List.take_of_length_le hge]
theorem c71_ok : c71.ok Try.prog := mkCon_ok fun ⟨l, n⟩ hpre => c71_pc l n hpre
/-- loop.example/g03007/impl.CountFate -/
noncomputable def c36 : Con := mkCon 36 false (α := (List Int) × Int) (fun x => (fun (l : List Int) (n : Int) => [encLI l, dI n]) x.1 x.2) (fun _ => []) (fun x => (fun (l : List Int) (n : Int) => l.length ≤ 1099511627776) x.1 x.2) (fun x => (fun (l : List Int) (n : Int) => (dI (l.countP (isN n)) : D)) x.1 x.2) (fun x => (fun (l : List Int) (n : Int) => []) x.1 x.2)
@[simp] theorem c36_f : c36.f = 36 := rfl
@[simp] theorem c36_own : c36.own = false := rfl
theorem c36_inj : ∀ u_ v_ : (List Int) × Int, ((fun x => (fun (l : List Int) (n : Int) => [encLI l, dI n]) x.1 x.2) u_).map nz = ((fun x => (fun (l : List Int) (n : Int) => [encLI l, dI n]) x.1 x.2) v_).map nz → u_ = v_ := by
  intro u_ v_ h
  obtain ⟨l, n⟩ := u_
  obtain ⟨l', n'⟩ := v_
  simp [nz_lit, nz1_lit, nz_agg, nz_sl, nz1_sl, encLI] at h
  first | (simp [h]; done) | (obtain ⟨⟩ := h; simp_all; done) | simp_all
@[simp] theorem c36_fn (l : List Int) (n : Int) : c36.fn [.sl false 1 (.lit (.int .i64 0)) (ML dI l), .lit (.int .i64 n)] [] = some ((fun (l : List Int) (n : Int) => l.length ≤ 1099511627776) l n, (fun (l : List Int) (n : Int) => (dI (l.countP (isN n)) : D)) l n, (fun (l : List Int) (n : Int) => []) l n) :=
  mkCon_fn (fun x y h _ => c36_inj x y h) ((l, n) : (List Int) × Int) (by simp [nz, nz1, ML_nil, encLI]) rfl
@[simp] theorem c36_fn1 (s_l : Nat) (z_l : D) (n : Int) : c36.fn [.sl false s_l z_l [], .lit (.int .i64 n)] [] = some ((fun (l : List Int) (n : Int) => l.length ≤ 1099511627776) [] n, (fun (l : List Int) (n : Int) => (dI (l.countP (isN n)) : D)) [] n, (fun (l : List Int) (n : Int) => []) [] n) :=
  mkCon_fn (fun x y h _ => c36_inj x y h) (([], n) : (List Int) × Int) (by simp [nz, nz1, ML_nil, encLI]) rfl
theorem c36_pc (l : List Int) (n : Int) (hpre : l.length ≤ 1099511627776) : PCo Try.prog 36 [encLI l, dI n] (Tab.of []) (dI (l.countP (isN n))) (Tab.of []) := by
  refine pco_of_run [] (E := ⟨[c71, c72], []⟩) (m := false) (base := 0) (Env.ok_cons c71_ok (Env.ok_cons c72_ok Env.ok_nil)) G_ok mix 300 6 Try.func36 (by kernel_rfl) rfl (by kernel_rfl) (by kernel_rfl) rfl ?_
  simp [Try.f36]
  exact hpre
theorem c36_ok : c36.ok Try.prog := mkCon_ok fun ⟨l, n⟩ hpre => c36_pc l n hpre
/-- loop.example/g03007/spec.CountFate -/
noncomputable def c34 : Con := mkCon 34 false (α := (List Int) × Int) (fun x => (fun (l : List Int) (n : Int) => [encLI l, dI n]) x.1 x.2) (fun _ => []) (fun x => (fun (l : List Int) (n : Int) => l.length ≤ 1099511627776) x.1 x.2) (fun x => (fun (l : List Int) (n : Int) => (dI (l.countP (isN n)) : D)) x.1 x.2) (fun x => (fun (l : List Int) (n : Int) => []) x.1 x.2)
@[simp] theorem c34_f : c34.f = 34 := rfl
@[simp] theorem c34_own : c34.own = false := rfl
theorem c34_inj : ∀ u_ v_ : (List Int) × Int, ((fun x => (fun (l : List Int) (n : Int) => [encLI l, dI n]) x.1 x.2) u_).map nz = ((fun x => (fun (l : List Int) (n : Int) => [encLI l, dI n]) x.1 x.2) v_).map nz → u_ = v_ := by
  intro u_ v_ h
  obtain ⟨l, n⟩ := u_
  obtain ⟨l', n'⟩ := v_
  simp [nz_lit, nz1_lit, nz_agg, nz_sl, nz1_sl, encLI] at h
  first | (simp [h]; done) | (obtain ⟨⟩ := h; simp_all; done) | simp_all
@[simp] theorem c34_fn (l : List Int) (n : Int) : c34.fn [.sl false 1 (.lit (.int .i64 0)) (ML dI l), .lit (.int .i64 n)] [] = some ((fun (l : List Int) (n : Int) => l.length ≤ 1099511627776) l n, (fun (l : List Int) (n : Int) => (dI (l.countP (isN n)) : D)) l n, (fun (l : List Int) (n : Int) => []) l n) :=
  mkCon_fn (fun x y h _ => c34_inj x y h) ((l, n) : (List Int) × Int) (by simp [nz, nz1, ML_nil, encLI]) rfl
@[simp] theorem c34_fn1 (s_l : Nat) (z_l : D) (n : Int) : c34.fn [.sl false s_l z_l [], .lit (.int .i64 n)] [] = some ((fun (l : List Int) (n : Int) => l.length ≤ 1099511627776) [] n, (fun (l : List Int) (n : Int) => (dI (l.countP (isN n)) : D)) [] n, (fun (l : List Int) (n : Int) => []) [] n) :=
  mkCon_fn (fun x y h _ => c34_inj x y h) (([], n) : (List Int) × Int) (by simp [nz, nz1, ML_nil, encLI]) rfl
theorem c34_pc (l : List Int) (n : Int) (hpre : l.length ≤ 1099511627776) : PCo Try.prog 34 [encLI l, dI n] (Tab.of []) (dI (l.countP (isN n))) (Tab.of []) := by
  refine pco_of_run [] (E := ⟨[], []⟩) (m := false) (base := 0) Env.ok_nil G_ok mix 300 6 Try.func34 (by kernel_rfl) rfl (by kernel_rfl) (by kernel_rfl) rfl ?_
  simp [Try.f34]
  refine loop_inv (fun p : Nat => p ≤ l.length) (fun p => [(0, encLI l), (1, dI n), (5, dI ((l.take p).countP (isN n))), (6, dI p)]) (fun _ => []) 1 (fun p => l.length - p) 0 400 (by simp) (by simp) (by simp) ?_
  intro p hp
  simp
  refine ⟨fun hlt => ?_, fun hge => ?_⟩
  · have hs := countP_at (want := isN n) (d := 0) hlt
    have hb := countP_take (want := isN n) (l := l) (p := p)
    repeat' (first | omega | refine And.intro ?_ ?_ | intro _)
    all_goals (rename_i hw; refine Again.mk (p + 1) (by omega) (by simp [hs, isN, hw]) (by first | omega | (simp; omega)))
  · rw [List.take_of_length_le hge]
theorem c34_ok : c34.ok Try.prog := mkCon_ok fun ⟨l, n⟩ hpre => c34_pc l n hpre
/-- loop.example/g03007/laws.toIntS -/
noncomputable def c35f : Con := mkCon 35 false (α := (List Int)) (fun x => (fun (l : List Int) => [encLI l]) x) (fun _ => []) (fun x => (fun (l : List Int) => l.length ≤ 1099511627776) x) (fun x => (fun (l : List Int) => (encLI l : D)) x) (fun x => (fun (l : List Int) => []) x)
@[simp] theorem c35f_f : c35f.f = 35 := rfl
@[simp] theorem c35f_own : c35f.own = false := rfl
theorem c35f_inj : ∀ u_ v_ : (List Int), ((fun x => (fun (l : List Int) => [encLI l]) x) u_).map nz = ((fun x => (fun (l : List Int) => [encLI l]) x) v_).map nz → u_ = v_ := by
  intro u_ v_ h
  obtain l := u_
  obtain l' := v_
  simp [nz_lit, nz1_lit, nz_agg, nz_sl, nz1_sl, encLI] at h
  first | (simp [h]; done) | (obtain ⟨⟩ := h; simp_all; done) | simp_all
@[simp] theorem c35f_fn (l : List Int) : c35f.fn [.sl false 1 (.lit (.int .i64 0)) (ML dI l)] [] = some ((fun (l : List Int) => l.length ≤ 1099511627776) l, (fun (l : List Int) => (encLI l : D)) l, (fun (l : List Int) => []) l) :=
  mkCon_fn (fun x y h _ => c35f_inj x y h) (l : (List Int)) (by simp [nz, nz1, ML_nil, encLI]) rfl
@[simp] theorem c35f_fn1 (s_l : Nat) (z_l : D) : c35f.fn [.sl false s_l z_l []] [] = some ((fun (l : List Int) => l.length ≤ 1099511627776) [], (fun (l : List Int) => (encLI l : D)) [], (fun (l : List Int) => []) []) :=
  mkCon_fn (fun x y h _ => c35f_inj x y h) ([] : (List Int)) (by simp [nz, nz1, ML_nil, encLI]) rfl
theorem c35f_pc (l : List Int) (hpre : l.length ≤ 1099511627776) : PCo Try.prog 35 [encLI l] (Tab.of []) (encLI l) (Tab.of []) := by
  refine pco_of_run [] (E := ⟨[], []⟩) (m := false) (base := 0) Env.ok_nil G_ok mix 300 6 Try.func35 (by kernel_rfl) rfl (by kernel_rfl) (by kernel_rfl) rfl ?_
  simp [Try.f35]
  refine ⟨by omega, ?_⟩
  refine loop_inv (fun p : Nat => p ≤ l.length) (fun p => [(0, encLI l), (3, .own (0, 1) 1 0 l.length), (4, dI p)]) (fun p => [((0, 1), .arr false 1 (.lit (.int .i64 0)) (ML dI (l.take p ++ List.replicate (l.length - p) 0)))]) 2 (fun p => l.length - p) 0 100 (by simp) (by simp) (by first | (simp; done) | (simp; simp only [ML, List.map_replicate]; rfl)) ?_
  intro p hp
  simp
  refine ⟨fun hlt => ⟨by omega, by omega, Again.mk (p + 1) (by omega) (by simp [fill_step hlt]) (by first | omega | (simp; omega))⟩, fun hge => ?_⟩
  have : p = l.length := by omega
  subst this
  simp
theorem c35f_ok : c35f.ok Try.prog := mkCon_ok fun l hpre => c35f_pc l hpre
/-- loop.example/g03007/laws.FnExactCountFate -/
theorem law8 (l : List Int) (wl : wfLI l) (n : Int) (wn : inR .i64 n) : PCo Try.prog 8 [encLI l, dI n] (Tab.of []) (dB true) (Tab.of []) := by
  refine pco_of_run [] (E := ⟨[c28, c34, c35f, c36], []⟩) (m := false) (base := 0) (Env.ok_cons c28_ok (Env.ok_cons c34_ok (Env.ok_cons c35f_ok (Env.ok_cons c36_ok Env.ok_nil)))) G_ok mix 400 6 Try.func8 (by kernel_rfl) rfl (by kernel_rfl) (by kernel_rfl) rfl ?_
  simp [Try.f8]
  have h_l : l.length ≤ maxLen := wl.1
  repeat' (first | omega | assumption | refine And.intro ?_ ?_ | intro _)
  all_goals first | omega | grind | (split at * <;> omega)
theorem law8_pc (D0 : D) (h0 : Sh G 9 38 D0) (D1 : D) (h1 : Sh G 9 3 D1) : PC Try.prog 8 [D0, D1] (dB true) [] := by
  obtain ⟨l, rfl, wl⟩ := sh38 (n := 7) h0
  obtain ⟨n, rfl, wn⟩ := sh3 (n := 8) h1
  exact law8 l wl n wn

end Go.Proofs.Ytljamnanhmpdnaa
