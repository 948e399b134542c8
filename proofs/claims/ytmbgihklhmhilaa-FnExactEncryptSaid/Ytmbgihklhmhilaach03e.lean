/- Contracts of the functions that the laws run. -/
import Derived.Test.Ytmbgihklhmhilaach03b
import Derived.Test.Ytmbgihklhmhilaagen
import Derived.Test.YtmbgihklhmhilaaEngB
namespace Go.Proofs.Ytmbgihklhmhilaa
open Go Go.Eng
set_option linter.unusedSimpArgs false
set_option linter.unusedVariables false
set_option maxRecDepth 10000
set_option maxHeartbeats 1000000
def encAt (k : Int) (b : List Int) (i : Nat) : Int := ((b[i]?.getD 0) + mKeyed k [(i : Int)] % 256) % 256
def decAt (k : Int) (b : List Int) (i : Nat) : Int := ((b[i]?.getD 0) - mKeyed k [(i : Int)] % 256) % 256
def mEnc (k : Int) (b : List Int) : List Int := gen (encAt k b) b.length
def mDec (k : Int) (b : List Int) : List Int := gen (decAt k b) b.length
theorem mEnc_len (k : Int) (b : List Int) : (mEnc k b).length = b.length := by simp [mEnc]
theorem mDec_len (k : Int) (b : List Int) : (mDec k b).length = b.length := by simp [mDec]
theorem keyed_step (k i : Int) : mKeyed k [i] = hStep (hStep (hStep 11 (k % 2147483647)) (i % 2147483647)) (k % 2147483647) := by simp [mKeyed, mHash]
theorem mKeyed_bd (k : Int) (l : List Int) : 0 ≤ mKeyed k l ∧ mKeyed k l < 2147483647 := mHash_bd _
/-- loop.example/g03007/impl.keyStream -/
noncomputable def c121 : Con := mkCon 121 false (α := Int) (fun x => (fun (key : Int) => [dI key]) x) (fun _ => []) (fun x => (fun (key : Int) => True) x) (fun x => (fun (key : Int) => (.fn (.func 209) [] [.el (dI (hStep 11 (key % 2147483647))), .el (dI (key % 2147483647))] : D)) x) (fun x => (fun (key : Int) => []) x)
@[simp] theorem c121_f : c121.f = 121 := rfl
@[simp] theorem c121_own : c121.own = false := rfl
theorem c121_inj : ∀ u_ v_ : Int, ((fun x => (fun (key : Int) => [dI key]) x) u_).map nz = ((fun x => (fun (key : Int) => [dI key]) x) v_).map nz → u_ = v_ := by
  intro u_ v_ h
  obtain key := u_
  obtain key' := v_
  simp [nz_lit, nz1_lit, nz_agg, nz_sl, nz1_sl] at h
  first | (simp [h]; done) | (obtain ⟨⟩ := h; simp_all; done) | simp_all
@[simp] theorem c121_fn (key : Int) : c121.fn [.lit (.int .i64 key)] [] = some ((fun (key : Int) => True) key, (fun (key : Int) => (.fn (.func 209) [] [.el (dI (hStep 11 (key % 2147483647))), .el (dI (key % 2147483647))] : D)) key, (fun (key : Int) => []) key) :=
  mkCon_fn (fun x y h _ => c121_inj x y h) (key : Int) (by simp [nz, nz1, ML_nil]) rfl
theorem c121_pc (key : Int) : PCo Try.prog 121 [dI key] (Tab.of []) (.fn (.func 209) [] [.el (dI (hStep 11 (key % 2147483647))), .el (dI (key % 2147483647))]) (Tab.of []) := by
  refine pco_of_run [] (E := ⟨[c207, c208], []⟩) (m := false) (base := 0) (Env.ok_cons c207_ok (Env.ok_cons c208_ok Env.ok_nil)) G_ok mix 300 6 Try.func121 (by kernel_rfl) rfl (by kernel_rfl) (by kernel_rfl) rfl ?_
  simp [Try.f121]
  have hm := emod_bd key (show (0 : Int) < 2147483647 by omega)
  have hb := hStep_bd 11 (key % 2147483647)
  simp only [mMod_M]
  repeat' (first | trivial | omega | refine And.intro ?_ ?_ | intro _)
theorem c121_ok : c121.ok Try.prog := mkCon_ok fun key hpre => c121_pc key
/-- loop.example/g03007/impl.keyStream$1 -/
noncomputable def c209 : Con := mkCon 209 false (α := Int × Int × Int) (fun x => (fun (i : Int) (s : Int) (e : Int) => ([dI i, .el (dI s), .el (dI e)] : List D)) x.1 x.2.1 x.2.2) (fun x => (fun (i : Int) (s : Int) (e : Int) => ([] : List (Nm × OO))) x.1 x.2.1 x.2.2) (fun x => (fun (i : Int) (s : Int) (e : Int) => 0 ≤ s ∧ s < 2147483647 ∧ 0 ≤ e ∧ e < 2147483647) x.1 x.2.1 x.2.2) (fun x => (fun (i : Int) (s : Int) (e : Int) => (dU (hStep (hStep s (i % 2147483647)) e % 256) : D)) x.1 x.2.1 x.2.2) (fun x => (fun (i : Int) (s : Int) (e : Int) => ([] : List (Nm × OO))) x.1 x.2.1 x.2.2)
@[simp] theorem c209_f : c209.f = 209 := rfl
@[simp] theorem c209_own : c209.own = false := rfl
theorem c209_inj : ∀ u_ v_ : Int × Int × Int, ((fun x => (fun (i : Int) (s : Int) (e : Int) => ([dI i, .el (dI s), .el (dI e)] : List D)) x.1 x.2.1 x.2.2) u_).map nz = ((fun x => (fun (i : Int) (s : Int) (e : Int) => ([dI i, .el (dI s), .el (dI e)] : List D)) x.1 x.2.1 x.2.2) v_).map nz → (fun x => (fun (i : Int) (s : Int) (e : Int) => ([] : List (Nm × OO))) x.1 x.2.1 x.2.2) u_ = (fun x => (fun (i : Int) (s : Int) (e : Int) => ([] : List (Nm × OO))) x.1 x.2.1 x.2.2) v_ → u_ = v_ := by
  intro u_ v_ h h2_
  obtain ⟨i, s, e⟩ := u_
  obtain ⟨i', s', e'⟩ := v_
  simp [nz_lit, nz1_lit, nz_agg, nz_sl, nz1_sl, nz_sx, nz_el, nz1_el, nz_own, nz1_own, nz_ptr, nz_fn, nz_iface] at h h2_
  first | (simp [h, h2_]; done) | (obtain ⟨h3_, h4_⟩ := List.append_inj h2_ h.1; simp_all; done) | simp_all | grind
@[simp] theorem c209_fn (i : Int) (s : Int) (e : Int) : c209.fn ([dI i, .el (dI s), .el (dI e)]) ([]) = some (0 ≤ s ∧ s < 2147483647 ∧ 0 ≤ e ∧ e < 2147483647, dU (hStep (hStep s (i % 2147483647)) e % 256), []) :=
  mkCon_fn c209_inj ((i, s, e) : Int × Int × Int) rfl rfl
theorem c209_pc (i : Int) (s : Int) (e : Int) (hpre : 0 ≤ s ∧ s < 2147483647 ∧ 0 ≤ e ∧ e < 2147483647) : PCo Try.prog 209 ([dI i, .el (dI s), .el (dI e)]) (Tab.of ([])) (dU (hStep (hStep s (i % 2147483647)) e % 256)) (Tab.of ([])) := by
  refine pco_of_run [1] (E := ⟨[c207, c208], []⟩) (m := false) (base := 0) (Env.ok_cons c207_ok (Env.ok_cons c208_ok Env.ok_nil)) G_ok mix 300 6 Try.func209 (by kernel_rfl) rfl (by kernel_rfl) (by kernel_rfl) rfl ?_
  simp [Try.f209]
  have hm := emod_bd i (show (0 : Int) < 2147483647 by omega)
  have hb := hStep_bd s (i % 2147483647)
  simp only [mMod_M, wrap_u8]
  repeat' (first | trivial | omega | refine And.intro ?_ ?_ | intro _)
theorem c209_ok : c209.ok Try.prog := mkCon_ok fun ⟨i, s, e⟩ hpre => c209_pc i s e hpre
@[simp] theorem c120_lit (k x : Int) : c120.fn [dI k, .sl false 1 (.lit (.int .i64 0)) [dI x]] [] = some ([x].length ≤ 1073741823, dI (mKeyed k [x]), []) := c120_fn k [x]
/-- loop.example/g03007/spec.Encrypt -/
noncomputable def c24 : Con := mkCon 24 false (α := Int × (List Int)) (fun x => (fun (k : Int) (b : List Int) => [dI k, encLU b]) x.1 x.2) (fun _ => []) (fun x => (fun (k : Int) (b : List Int) => b.length ≤ 1073741822 ∧ ∀ x ∈ b, 0 ≤ x ∧ x ≤ 255) x.1 x.2) (fun x => (fun (k : Int) (b : List Int) => (.own (0, 1) 1 0 (mEnc k b).length : D)) x.1 x.2) (fun x => (fun (k : Int) (b : List Int) => [((0, 1), .arr false 1 (dU 0) (ML dU (mEnc k b)))]) x.1 x.2)
@[simp] theorem c24_f : c24.f = 24 := rfl
@[simp] theorem c24_own : c24.own = false := rfl
theorem c24_inj : ∀ u_ v_ : Int × (List Int), ((fun x => (fun (k : Int) (b : List Int) => [dI k, encLU b]) x.1 x.2) u_).map nz = ((fun x => (fun (k : Int) (b : List Int) => [dI k, encLU b]) x.1 x.2) v_).map nz → u_ = v_ := by
  intro u_ v_ h
  obtain ⟨k, b⟩ := u_
  obtain ⟨k', b'⟩ := v_
  simp [nz_lit, nz1_lit, nz_agg, nz_sl, nz1_sl, encLU] at h
  first | (simp [h]; done) | (obtain ⟨⟩ := h; simp_all; done) | simp_all
@[simp] theorem c24_fn (k : Int) (b : List Int) : c24.fn [.lit (.int .i64 k), .sl false 1 (.lit (.int .u8 0)) (ML dU b)] [] = some ((fun (k : Int) (b : List Int) => b.length ≤ 1073741822 ∧ ∀ x ∈ b, 0 ≤ x ∧ x ≤ 255) k b, (fun (k : Int) (b : List Int) => (.own (0, 1) 1 0 (mEnc k b).length : D)) k b, (fun (k : Int) (b : List Int) => [((0, 1), .arr false 1 (dU 0) (ML dU (mEnc k b)))]) k b) :=
  mkCon_fn (fun x y h _ => c24_inj x y h) ((k, b) : Int × (List Int)) (by simp [nz, nz1, ML_nil, encLU]) rfl
@[simp] theorem c24_fn1 (k : Int) (s_b : Nat) (z_b : D) : c24.fn [.lit (.int .i64 k), .sl false s_b z_b []] [] = some ((fun (k : Int) (b : List Int) => b.length ≤ 1073741822 ∧ ∀ x ∈ b, 0 ≤ x ∧ x ≤ 255) k [], (fun (k : Int) (b : List Int) => (.own (0, 1) 1 0 (mEnc k b).length : D)) k [], (fun (k : Int) (b : List Int) => [((0, 1), .arr false 1 (dU 0) (ML dU (mEnc k b)))]) k []) :=
  mkCon_fn (fun x y h _ => c24_inj x y h) ((k, []) : Int × (List Int)) (by simp [nz, nz1, ML_nil, encLU]) rfl
theorem c24_pc (k : Int) (b : List Int) (hpre : b.length ≤ 1073741822 ∧ ∀ x ∈ b, 0 ≤ x ∧ x ≤ 255) : PCo Try.prog 24 [dI k, encLU b] (Tab.of []) (.own (0, 1) 1 0 (mEnc k b).length) (Tab.of [((0, 1), .arr false 1 (dU 0) (ML dU (mEnc k b)))]) := by
  refine pco_of_run [3005] (E := ⟨[c120], []⟩) (m := false) (base := 0) (Env.ok_cons c120_ok Env.ok_nil) G_ok mix 300 6 Try.func24 (by kernel_rfl) rfl (by kernel_rfl) (by kernel_rfl) rfl ?_
  simp [Try.f24]
  obtain ⟨hl, hx⟩ := hpre
  refine loop_inv (fun p : Nat => p ≤ b.length) (fun p => [(0, dI k), (1, encLU b), (5, .own (0, 1) 1 0 p), (6, dI p)]) (fun p => [((0, 1), .arr false 1 (dU 0) (ML dU (gen (encAt k b) p)))]) 2 (fun p => b.length - p) 0 400 (by simp) (by simp) (by simp) ?_
  intro p hp
  simp
  refine ⟨fun hlt => ?_, fun hge => ?_⟩
  · have hb := hx _ (getD_mem (d := 0) hlt)
    have hk := mKeyed_bd k [(p : Int)]
    have ha : encAt k b p = ((b[p]?.getD 0) + mKeyed k [(p : Int)] % 256) % 256 := rfl
    have e1 : (mKeyed k [(p : Int)]).tmod 256 = mKeyed k [(p : Int)] % 256 := Int.tmod_eq_emod_of_nonneg (by omega)
    simp only [e1]
    have e2 : ((b[p]?.getD 0) + mKeyed k [(p : Int)] % 256).tmod 256 = encAt k b p := by rw [ha]; exact Int.tmod_eq_emod_of_nonneg (by omega)
    have e3 : encAt k b p % 256 = encAt k b p := by rw [ha]; omega
    simp only [e2, wrap_u8, e3]
    repeat' (first | omega | refine And.intro ?_ ?_ | intro _)
    exact Again.mk (p + 1) (by omega) (by simp [gen_succ]) (by first | omega | (simp; omega))
  · have : p = b.length := by omega
    subst this; simp [mEnc, mDec]
theorem c24_ok : c24.ok Try.prog := mkCon_ok fun ⟨k, b⟩ hpre => c24_pc k b hpre
/-- loop.example/g03007/spec.Decrypt -/
noncomputable def c30 : Con := mkCon 30 false (α := Int × (List Int)) (fun x => (fun (k : Int) (b : List Int) => [dI k, encLU b]) x.1 x.2) (fun _ => []) (fun x => (fun (k : Int) (b : List Int) => b.length ≤ 1073741822 ∧ ∀ x ∈ b, 0 ≤ x ∧ x ≤ 255) x.1 x.2) (fun x => (fun (k : Int) (b : List Int) => (.own (0, 1) 1 0 (mDec k b).length : D)) x.1 x.2) (fun x => (fun (k : Int) (b : List Int) => [((0, 1), .arr false 1 (dU 0) (ML dU (mDec k b)))]) x.1 x.2)
@[simp] theorem c30_f : c30.f = 30 := rfl
@[simp] theorem c30_own : c30.own = false := rfl
theorem c30_inj : ∀ u_ v_ : Int × (List Int), ((fun x => (fun (k : Int) (b : List Int) => [dI k, encLU b]) x.1 x.2) u_).map nz = ((fun x => (fun (k : Int) (b : List Int) => [dI k, encLU b]) x.1 x.2) v_).map nz → u_ = v_ := by
  intro u_ v_ h
  obtain ⟨k, b⟩ := u_
  obtain ⟨k', b'⟩ := v_
  simp [nz_lit, nz1_lit, nz_agg, nz_sl, nz1_sl, encLU] at h
  first | (simp [h]; done) | (obtain ⟨⟩ := h; simp_all; done) | simp_all
@[simp] theorem c30_fn (k : Int) (b : List Int) : c30.fn [.lit (.int .i64 k), .sl false 1 (.lit (.int .u8 0)) (ML dU b)] [] = some ((fun (k : Int) (b : List Int) => b.length ≤ 1073741822 ∧ ∀ x ∈ b, 0 ≤ x ∧ x ≤ 255) k b, (fun (k : Int) (b : List Int) => (.own (0, 1) 1 0 (mDec k b).length : D)) k b, (fun (k : Int) (b : List Int) => [((0, 1), .arr false 1 (dU 0) (ML dU (mDec k b)))]) k b) :=
  mkCon_fn (fun x y h _ => c30_inj x y h) ((k, b) : Int × (List Int)) (by simp [nz, nz1, ML_nil, encLU]) rfl
@[simp] theorem c30_fn1 (k : Int) (s_b : Nat) (z_b : D) : c30.fn [.lit (.int .i64 k), .sl false s_b z_b []] [] = some ((fun (k : Int) (b : List Int) => b.length ≤ 1073741822 ∧ ∀ x ∈ b, 0 ≤ x ∧ x ≤ 255) k [], (fun (k : Int) (b : List Int) => (.own (0, 1) 1 0 (mDec k b).length : D)) k [], (fun (k : Int) (b : List Int) => [((0, 1), .arr false 1 (dU 0) (ML dU (mDec k b)))]) k []) :=
  mkCon_fn (fun x y h _ => c30_inj x y h) ((k, []) : Int × (List Int)) (by simp [nz, nz1, ML_nil, encLU]) rfl
theorem c30_pc (k : Int) (b : List Int) (hpre : b.length ≤ 1073741822 ∧ ∀ x ∈ b, 0 ≤ x ∧ x ≤ 255) : PCo Try.prog 30 [dI k, encLU b] (Tab.of []) (.own (0, 1) 1 0 (mDec k b).length) (Tab.of [((0, 1), .arr false 1 (dU 0) (ML dU (mDec k b)))]) := by
  refine pco_of_run [3005] (E := ⟨[c120, c122], []⟩) (m := false) (base := 0) (Env.ok_cons c120_ok (Env.ok_cons c122_ok Env.ok_nil)) G_ok mix 300 6 Try.func30 (by kernel_rfl) rfl (by kernel_rfl) (by kernel_rfl) rfl ?_
  simp [Try.f30]
  obtain ⟨hl, hx⟩ := hpre
  refine loop_inv (fun p : Nat => p ≤ b.length) (fun p => [(0, dI k), (1, encLU b), (5, .own (0, 1) 1 0 p), (6, dI p)]) (fun p => [((0, 1), .arr false 1 (dU 0) (ML dU (gen (decAt k b) p)))]) 2 (fun p => b.length - p) 0 400 (by simp) (by simp) (by simp) ?_
  intro p hp
  simp
  refine ⟨fun hlt => ?_, fun hge => ?_⟩
  · have hb := hx _ (getD_mem (d := 0) hlt)
    have hk := mKeyed_bd k [(p : Int)]
    have ha : decAt k b p = ((b[p]?.getD 0) - mKeyed k [(p : Int)] % 256) % 256 := rfl
    have e1 : (mKeyed k [(p : Int)]).tmod 256 = mKeyed k [(p : Int)] % 256 := Int.tmod_eq_emod_of_nonneg (by omega)
    simp only [e1]
    have e2 : mMod ((b[p]?.getD 0) - mKeyed k [(p : Int)] % 256) 256 = decAt k b p := rfl
    have e3 : decAt k b p % 256 = decAt k b p := by rw [ha]; omega
    simp only [e2, wrap_u8, e3]
    repeat' (first | omega | refine And.intro ?_ ?_ | intro _)
    exact Again.mk (p + 1) (by omega) (by simp [gen_succ]) (by first | omega | (simp; omega))
  · have : p = b.length := by omega
    subst this; simp [mEnc, mDec]
theorem c30_ok : c30.ok Try.prog := mkCon_ok fun ⟨k, b⟩ hpre => c30_pc k b hpre
/-- loop.example/g03007/impl.Encrypt -/
noncomputable def c26 : Con := mkCon 26 false (α := Int × (List Int)) (fun x => (fun (k : Int) (b : List Int) => [dI k, encLU b]) x.1 x.2) (fun _ => []) (fun x => (fun (k : Int) (b : List Int) => b.length ≤ 1073741822 ∧ ∀ x ∈ b, 0 ≤ x ∧ x ≤ 255) x.1 x.2) (fun x => (fun (k : Int) (b : List Int) => (.own (0, 1) 1 0 (mEnc k b).length : D)) x.1 x.2) (fun x => (fun (k : Int) (b : List Int) => [((0, 1), .arr false 1 (dU 0) (ML dU (mEnc k b)))]) x.1 x.2)
@[simp] theorem c26_f : c26.f = 26 := rfl
@[simp] theorem c26_own : c26.own = false := rfl
theorem c26_inj : ∀ u_ v_ : Int × (List Int), ((fun x => (fun (k : Int) (b : List Int) => [dI k, encLU b]) x.1 x.2) u_).map nz = ((fun x => (fun (k : Int) (b : List Int) => [dI k, encLU b]) x.1 x.2) v_).map nz → u_ = v_ := by
  intro u_ v_ h
  obtain ⟨k, b⟩ := u_
  obtain ⟨k', b'⟩ := v_
  simp [nz_lit, nz1_lit, nz_agg, nz_sl, nz1_sl, encLU] at h
  first | (simp [h]; done) | (obtain ⟨⟩ := h; simp_all; done) | simp_all
@[simp] theorem c26_fn (k : Int) (b : List Int) : c26.fn [.lit (.int .i64 k), .sl false 1 (.lit (.int .u8 0)) (ML dU b)] [] = some ((fun (k : Int) (b : List Int) => b.length ≤ 1073741822 ∧ ∀ x ∈ b, 0 ≤ x ∧ x ≤ 255) k b, (fun (k : Int) (b : List Int) => (.own (0, 1) 1 0 (mEnc k b).length : D)) k b, (fun (k : Int) (b : List Int) => [((0, 1), .arr false 1 (dU 0) (ML dU (mEnc k b)))]) k b) :=
  mkCon_fn (fun x y h _ => c26_inj x y h) ((k, b) : Int × (List Int)) (by simp [nz, nz1, ML_nil, encLU]) rfl
@[simp] theorem c26_fn1 (k : Int) (s_b : Nat) (z_b : D) : c26.fn [.lit (.int .i64 k), .sl false s_b z_b []] [] = some ((fun (k : Int) (b : List Int) => b.length ≤ 1073741822 ∧ ∀ x ∈ b, 0 ≤ x ∧ x ≤ 255) k [], (fun (k : Int) (b : List Int) => (.own (0, 1) 1 0 (mEnc k b).length : D)) k [], (fun (k : Int) (b : List Int) => [((0, 1), .arr false 1 (dU 0) (ML dU (mEnc k b)))]) k []) :=
  mkCon_fn (fun x y h _ => c26_inj x y h) ((k, []) : Int × (List Int)) (by simp [nz, nz1, ML_nil, encLU]) rfl
theorem c26_pc (k : Int) (b : List Int) (hpre : b.length ≤ 1073741822 ∧ ∀ x ∈ b, 0 ≤ x ∧ x ≤ 255) : PCo Try.prog 26 [dI k, encLU b] (Tab.of []) (.own (0, 1) 1 0 (mEnc k b).length) (Tab.of [((0, 1), .arr false 1 (dU 0) (ML dU (mEnc k b)))]) := by
  refine pco_of_run [] (E := ⟨[c121, c209], []⟩) (m := false) (base := 0) (Env.ok_cons c121_ok (Env.ok_cons c209_ok Env.ok_nil)) G_ok mix 300 6 Try.func26 (by kernel_rfl) rfl (by kernel_rfl) (by kernel_rfl) rfl ?_
  simp [Try.f26]
  obtain ⟨hl, hx⟩ := hpre
  refine ⟨by omega, ?_⟩
  refine loop_inv (fun p : Nat => p ≤ b.length) (fun p => [(5, .fn (.func 209) [] [.el (dI (hStep 11 (k % 2147483647))), .el (dI (k % 2147483647))]), (6, .own (0, 1) 1 0 b.length), (14, encLU b), (15, dI b.length), (16, dI p)]) (fun p => [((0, 1), .arr false 1 (dU 0) (ML dU (gen (encAt k b) p ++ List.replicate (b.length - p) 0)))]) 2 (fun p => b.length - p) 0 400 (by simp) (by simp) (by simp) ?_
  intro p hp
  simp
  refine ⟨fun hlt => ?_, fun hge => ?_⟩
  · have hb := hx _ (getD_mem (d := 0) hlt)
    have hm := emod_bd k (show (0 : Int) < 2147483647 by omega)
    have hs := hStep_bd 11 (k % 2147483647)
    have ha : encAt k b p = ((b[p]?.getD 0) + mKeyed k [(p : Int)] % 256) % 256 := rfl
    rw [keyed_step] at ha
    have hf := gen_fill0 (f := encAt k b) (d := (0 : Int)) hlt
    simp only [wrap_u8]
    repeat' (first | omega | refine And.intro ?_ ?_ | intro _)
    exact Again.mk (p + 1) (by omega) (by simp [← ha, hf]) (by first | omega | (simp; omega))
  · have : p = b.length := by omega
    subst this; simp [mEnc, mDec]
theorem c26_ok : c26.ok Try.prog := mkCon_ok fun ⟨k, b⟩ hpre => c26_pc k b hpre
/-- loop.example/g03007/impl.Decrypt -/
noncomputable def c31 : Con := mkCon 31 false (α := Int × (List Int)) (fun x => (fun (k : Int) (b : List Int) => [dI k, encLU b]) x.1 x.2) (fun _ => []) (fun x => (fun (k : Int) (b : List Int) => b.length ≤ 1073741822 ∧ ∀ x ∈ b, 0 ≤ x ∧ x ≤ 255) x.1 x.2) (fun x => (fun (k : Int) (b : List Int) => (.own (0, 1) 1 0 (mDec k b).length : D)) x.1 x.2) (fun x => (fun (k : Int) (b : List Int) => [((0, 1), .arr false 1 (dU 0) (ML dU (mDec k b)))]) x.1 x.2)
@[simp] theorem c31_f : c31.f = 31 := rfl
@[simp] theorem c31_own : c31.own = false := rfl
theorem c31_inj : ∀ u_ v_ : Int × (List Int), ((fun x => (fun (k : Int) (b : List Int) => [dI k, encLU b]) x.1 x.2) u_).map nz = ((fun x => (fun (k : Int) (b : List Int) => [dI k, encLU b]) x.1 x.2) v_).map nz → u_ = v_ := by
  intro u_ v_ h
  obtain ⟨k, b⟩ := u_
  obtain ⟨k', b'⟩ := v_
  simp [nz_lit, nz1_lit, nz_agg, nz_sl, nz1_sl, encLU] at h
  first | (simp [h]; done) | (obtain ⟨⟩ := h; simp_all; done) | simp_all
@[simp] theorem c31_fn (k : Int) (b : List Int) : c31.fn [.lit (.int .i64 k), .sl false 1 (.lit (.int .u8 0)) (ML dU b)] [] = some ((fun (k : Int) (b : List Int) => b.length ≤ 1073741822 ∧ ∀ x ∈ b, 0 ≤ x ∧ x ≤ 255) k b, (fun (k : Int) (b : List Int) => (.own (0, 1) 1 0 (mDec k b).length : D)) k b, (fun (k : Int) (b : List Int) => [((0, 1), .arr false 1 (dU 0) (ML dU (mDec k b)))]) k b) :=
  mkCon_fn (fun x y h _ => c31_inj x y h) ((k, b) : Int × (List Int)) (by simp [nz, nz1, ML_nil, encLU]) rfl
@[simp] theorem c31_fn1 (k : Int) (s_b : Nat) (z_b : D) : c31.fn [.lit (.int .i64 k), .sl false s_b z_b []] [] = some ((fun (k : Int) (b : List Int) => b.length ≤ 1073741822 ∧ ∀ x ∈ b, 0 ≤ x ∧ x ≤ 255) k [], (fun (k : Int) (b : List Int) => (.own (0, 1) 1 0 (mDec k b).length : D)) k [], (fun (k : Int) (b : List Int) => [((0, 1), .arr false 1 (dU 0) (ML dU (mDec k b)))]) k []) :=
  mkCon_fn (fun x y h _ => c31_inj x y h) ((k, []) : Int × (List Int)) (by simp [nz, nz1, ML_nil, encLU]) rfl
theorem c31_pc (k : Int) (b : List Int) (hpre : b.length ≤ 1073741822 ∧ ∀ x ∈ b, 0 ≤ x ∧ x ≤ 255) : PCo Try.prog 31 [dI k, encLU b] (Tab.of []) (.own (0, 1) 1 0 (mDec k b).length) (Tab.of [((0, 1), .arr false 1 (dU 0) (ML dU (mDec k b)))]) := by
  refine pco_of_run [] (E := ⟨[c121, c209], []⟩) (m := false) (base := 0) (Env.ok_cons c121_ok (Env.ok_cons c209_ok Env.ok_nil)) G_ok mix 300 6 Try.func31 (by kernel_rfl) rfl (by kernel_rfl) (by kernel_rfl) rfl ?_
  simp [Try.f31]
  obtain ⟨hl, hx⟩ := hpre
  refine ⟨by omega, ?_⟩
  refine loop_inv (fun p : Nat => p ≤ b.length) (fun p => [(5, .fn (.func 209) [] [.el (dI (hStep 11 (k % 2147483647))), .el (dI (k % 2147483647))]), (6, .own (0, 1) 1 0 b.length), (14, encLU b), (15, dI b.length), (16, dI p)]) (fun p => [((0, 1), .arr false 1 (dU 0) (ML dU (gen (decAt k b) p ++ List.replicate (b.length - p) 0)))]) 2 (fun p => b.length - p) 0 400 (by simp) (by simp) (by simp) ?_
  intro p hp
  simp
  refine ⟨fun hlt => ?_, fun hge => ?_⟩
  · have hb := hx _ (getD_mem (d := 0) hlt)
    have hm := emod_bd k (show (0 : Int) < 2147483647 by omega)
    have hs := hStep_bd 11 (k % 2147483647)
    have ha : decAt k b p = ((b[p]?.getD 0) - mKeyed k [(p : Int)] % 256) % 256 := rfl
    rw [keyed_step] at ha
    have hf := gen_fill0 (f := decAt k b) (d := (0 : Int)) hlt
    simp only [wrap_u8]
    repeat' (first | omega | refine And.intro ?_ ?_ | intro _)
    exact Again.mk (p + 1) (by omega) (by simp [← ha, hf]) (by first | omega | (simp; omega))
  · have : p = b.length := by omega
    subst this; simp [mEnc, mDec]
theorem c31_ok : c31.ok Try.prog := mkCon_ok fun ⟨k, b⟩ hpre => c31_pc k b hpre

end Go.Proofs.Ytmbgihklhmhilaa
