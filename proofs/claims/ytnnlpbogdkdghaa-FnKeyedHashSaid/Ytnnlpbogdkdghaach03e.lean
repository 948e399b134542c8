/- Contracts of the functions that the laws run. -/
import Derived.Test.Ytnnlpbogdkdghaach03b
import Derived.Test.Ytnnlpbogdkdghaagen
import Derived.Test.YtnnlpbogdkdghaaEngB
namespace Go.Proofs.Ytnnlpbogdkdghaa
open Go Go.Eng
set_option linter.unusedSimpArgs false
set_option linter.unusedVariables false
set_option maxRecDepth 10000
set_option maxHeartbeats 1000000
def encAt (k : Int) (b : List Int) (i : Nat) : Int := ((b[i]?.getD 0) + mKeyed k [(i : Int)] % 256) % 256
def decAt (k : Int) (b : List Int) (i : Nat) : Int := ((b[i]?.getD 0) - mKeyed k [(i : Int)] % 256) % 256
def mEnc (k : Int) (b : List Int) : List Int := gen (encAt k b) b.length
def mDec (k : Int) (b : List Int) : List Int := gen (decAt k b) b.length
theorem mEnc_len (k : Int) (b : List Int) : (mEnc k b).length = b.length := by simp [mEnc]
theorem mDec_len (k : Int) (b : List Int) : (mDec k b).length = b.length := by simp [mDec]
theorem keyed_step (k i : Int) : mKeyed k [i] = hStep (hStep (hStep 11 (k % 2147483647)) (i % 2147483647)) (k % 2147483647) := by simp [mKeyed, mHash]
theorem mKeyed_bd (k : Int) (l : List Int) : 0 ≤ mKeyed k l ∧ mKeyed k l < 2147483647 := mHash_bd _
/-- loop.example/g03007/impl.keyStream -/
noncomputable def c44 : Con := mkCon 44 false (α := Int) (fun x => (fun (key : Int) => [dI key]) x) (fun _ => []) (fun x => (fun (key : Int) => True) x) (fun x => (fun (key : Int) => (.fn (.func 58) [] [.el (dI (hStep 11 (key % 2147483647))), .el (dI (key % 2147483647))] : D)) x) (fun x => (fun (key : Int) => []) x)
@[simp] theorem c44_f : c44.f = 44 := rfl
@[simp] theorem c44_own : c44.own = false := rfl
theorem c44_inj : ∀ u_ v_ : Int, ((fun x => (fun (key : Int) => [dI key]) x) u_).map nz = ((fun x => (fun (key : Int) => [dI key]) x) v_).map nz → u_ = v_ := by
  intro u_ v_ h
  obtain key := u_
  obtain key' := v_
  simp [nz_lit, nz1_lit, nz_agg, nz_sl, nz1_sl] at h
  first | (simp [h]; done) | (obtain ⟨⟩ := h; simp_all; done) | simp_all
@[simp] theorem c44_fn (key : Int) : c44.fn [.lit (.int .i64 key)] [] = some ((fun (key : Int) => True) key, (fun (key : Int) => (.fn (.func 58) [] [.el (dI (hStep 11 (key % 2147483647))), .el (dI (key % 2147483647))] : D)) key, (fun (key : Int) => []) key) :=
  mkCon_fn (fun x y h _ => c44_inj x y h) (key : Int) (by simp [nz, nz1, ML_nil]) rfl
theorem c44_pc (key : Int) : PCo Try.prog 44 [dI key] (Tab.of []) (.fn (.func 58) [] [.el (dI (hStep 11 (key % 2147483647))), .el (dI (key % 2147483647))]) (Tab.of []) := by
  refine pco_of_run [] (E := ⟨[c48, c57], [], []⟩) (m := false) (base := 0) (Env.ok_cons c48_ok (Env.ok_cons c57_ok Env.ok_nil)) G_ok mix 300 6 Try.func44 (by kernel_rfl) rfl (by kernel_rfl) (by kernel_rfl) rfl ?_
  simp [Try.f44]
  have hm := emod_bd key (show (0 : Int) < 2147483647 by omega)
  have hb := hStep_bd 11 (key % 2147483647)
  simp only [mMod_M]
  repeat' (first | trivial | omega | refine And.intro ?_ ?_ | intro _)
theorem c44_ok : c44.ok Try.prog := mkCon_ok fun key hpre => c44_pc key
/-- loop.example/g03007/impl.keyStream$1 -/
noncomputable def c58 : Con := mkCon 58 false (α := Int × Int × Int) (fun x => (fun (i : Int) (s : Int) (e : Int) => ([dI i, .el (dI s), .el (dI e)] : List D)) x.1 x.2.1 x.2.2) (fun x => (fun (i : Int) (s : Int) (e : Int) => ([] : List (Nm × OO))) x.1 x.2.1 x.2.2) (fun x => (fun (i : Int) (s : Int) (e : Int) => 0 ≤ s ∧ s < 2147483647 ∧ 0 ≤ e ∧ e < 2147483647) x.1 x.2.1 x.2.2) (fun x => (fun (i : Int) (s : Int) (e : Int) => (dU (hStep (hStep s (i % 2147483647)) e % 256) : D)) x.1 x.2.1 x.2.2) (fun x => (fun (i : Int) (s : Int) (e : Int) => ([] : List (Nm × OO))) x.1 x.2.1 x.2.2)
@[simp] theorem c58_f : c58.f = 58 := rfl
@[simp] theorem c58_own : c58.own = false := rfl
theorem c58_inj : ∀ u_ v_ : Int × Int × Int, ((fun x => (fun (i : Int) (s : Int) (e : Int) => ([dI i, .el (dI s), .el (dI e)] : List D)) x.1 x.2.1 x.2.2) u_).map nz = ((fun x => (fun (i : Int) (s : Int) (e : Int) => ([dI i, .el (dI s), .el (dI e)] : List D)) x.1 x.2.1 x.2.2) v_).map nz → (fun x => (fun (i : Int) (s : Int) (e : Int) => ([] : List (Nm × OO))) x.1 x.2.1 x.2.2) u_ = (fun x => (fun (i : Int) (s : Int) (e : Int) => ([] : List (Nm × OO))) x.1 x.2.1 x.2.2) v_ → u_ = v_ := by
  intro u_ v_ h h2_
  obtain ⟨i, s, e⟩ := u_
  obtain ⟨i', s', e'⟩ := v_
  simp [nz_lit, nz1_lit, nz_agg, nz_sl, nz1_sl, nz_sx, nz_el, nz1_el, nz_own, nz1_own, nz_ptr, nz_fn, nz_iface] at h h2_
  first | (simp [h, h2_]; done) | (obtain ⟨h3_, h4_⟩ := List.append_inj h2_ h.1; simp_all; done) | simp_all | grind
@[simp] theorem c58_fn (i : Int) (s : Int) (e : Int) : c58.fn ([dI i, .el (dI s), .el (dI e)]) ([]) = some (0 ≤ s ∧ s < 2147483647 ∧ 0 ≤ e ∧ e < 2147483647, dU (hStep (hStep s (i % 2147483647)) e % 256), []) :=
  mkCon_fn c58_inj ((i, s, e) : Int × Int × Int) rfl rfl
theorem c58_pc (i : Int) (s : Int) (e : Int) (hpre : 0 ≤ s ∧ s < 2147483647 ∧ 0 ≤ e ∧ e < 2147483647) : PCo Try.prog 58 ([dI i, .el (dI s), .el (dI e)]) (Tab.of ([])) (dU (hStep (hStep s (i % 2147483647)) e % 256)) (Tab.of ([])) := by
  refine pco_of_run [1] (E := ⟨[c48, c57], [], []⟩) (m := false) (base := 0) (Env.ok_cons c48_ok (Env.ok_cons c57_ok Env.ok_nil)) G_ok mix 300 6 Try.func58 (by kernel_rfl) rfl (by kernel_rfl) (by kernel_rfl) rfl ?_
  simp [Try.f58]
  have hm := emod_bd i (show (0 : Int) < 2147483647 by omega)
  have hb := hStep_bd s (i % 2147483647)
  simp only [mMod_M, wrap_u8]
  repeat' (first | trivial | omega | refine And.intro ?_ ?_ | intro _)
theorem c58_ok : c58.ok Try.prog := mkCon_ok fun ⟨i, s, e⟩ hpre => c58_pc i s e hpre
/-- loop.example/g03007/impl.Encrypt -/
noncomputable def c23 : Con := mkCon 23 false (α := Int × (List Int)) (fun x => (fun (k : Int) (b : List Int) => [dI k, encLU b]) x.1 x.2) (fun _ => []) (fun x => (fun (k : Int) (b : List Int) => b.length ≤ 1073741822 ∧ ∀ x ∈ b, 0 ≤ x ∧ x ≤ 255) x.1 x.2) (fun x => (fun (k : Int) (b : List Int) => (.own (0, 1) 1 0 (mEnc k b).length : D)) x.1 x.2) (fun x => (fun (k : Int) (b : List Int) => [((0, 1), .arr false 1 (dU 0) (ML dU (mEnc k b)))]) x.1 x.2)
@[simp] theorem c23_f : c23.f = 23 := rfl
@[simp] theorem c23_own : c23.own = false := rfl
theorem c23_inj : ∀ u_ v_ : Int × (List Int), ((fun x => (fun (k : Int) (b : List Int) => [dI k, encLU b]) x.1 x.2) u_).map nz = ((fun x => (fun (k : Int) (b : List Int) => [dI k, encLU b]) x.1 x.2) v_).map nz → u_ = v_ := by
  intro u_ v_ h
  obtain ⟨k, b⟩ := u_
  obtain ⟨k', b'⟩ := v_
  simp [nz_lit, nz1_lit, nz_agg, nz_sl, nz1_sl, encLU] at h
  first | (simp [h]; done) | (obtain ⟨⟩ := h; simp_all; done) | simp_all
@[simp] theorem c23_fn (k : Int) (b : List Int) : c23.fn [.lit (.int .i64 k), .sl false 1 (.lit (.int .u8 0)) (ML dU b)] [] = some ((fun (k : Int) (b : List Int) => b.length ≤ 1073741822 ∧ ∀ x ∈ b, 0 ≤ x ∧ x ≤ 255) k b, (fun (k : Int) (b : List Int) => (.own (0, 1) 1 0 (mEnc k b).length : D)) k b, (fun (k : Int) (b : List Int) => [((0, 1), .arr false 1 (dU 0) (ML dU (mEnc k b)))]) k b) :=
  mkCon_fn (fun x y h _ => c23_inj x y h) ((k, b) : Int × (List Int)) (by simp [nz, nz1, ML_nil, encLU]) rfl
@[simp] theorem c23_fn1 (k : Int) (s_b : Nat) (z_b : D) : c23.fn [.lit (.int .i64 k), .sl false s_b z_b []] [] = some ((fun (k : Int) (b : List Int) => b.length ≤ 1073741822 ∧ ∀ x ∈ b, 0 ≤ x ∧ x ≤ 255) k [], (fun (k : Int) (b : List Int) => (.own (0, 1) 1 0 (mEnc k b).length : D)) k [], (fun (k : Int) (b : List Int) => [((0, 1), .arr false 1 (dU 0) (ML dU (mEnc k b)))]) k []) :=
  mkCon_fn (fun x y h _ => c23_inj x y h) ((k, []) : Int × (List Int)) (by simp [nz, nz1, ML_nil, encLU]) rfl
theorem c23_pc (k : Int) (b : List Int) (hpre : b.length ≤ 1073741822 ∧ ∀ x ∈ b, 0 ≤ x ∧ x ≤ 255) : PCo Try.prog 23 [dI k, encLU b] (Tab.of []) (.own (0, 1) 1 0 (mEnc k b).length) (Tab.of [((0, 1), .arr false 1 (dU 0) (ML dU (mEnc k b)))]) := by
  refine pco_of_run [] (E := ⟨[c44, c58], [], []⟩) (m := false) (base := 0) (Env.ok_cons c44_ok (Env.ok_cons c58_ok Env.ok_nil)) G_ok mix 300 6 Try.func23 (by kernel_rfl) rfl (by kernel_rfl) (by kernel_rfl) rfl ?_
  simp [Try.f23]
  obtain ⟨hl, hx⟩ := hpre
  refine ⟨by omega, ?_⟩
  refine loop_inv (fun p : Nat => p ≤ b.length) (fun p => [(5, .fn (.func 58) [] [.el (dI (hStep 11 (k % 2147483647))), .el (dI (k % 2147483647))]), (6, .own (0, 1) 1 0 b.length), (14, encLU b), (15, dI b.length), (16, dI p)]) (fun p => [((0, 1), .arr false 1 (dU 0) (ML dU (gen (encAt k b) p ++ List.replicate (b.length - p) 0)))]) 2 (fun p => b.length - p) 0 400 (by simp) (by simp) (by simp) ?_
  intro p hp
  simp
  refine ⟨fun hlt => ?_, fun hge => ?_⟩
  · have hb := hx _ (getD_mem (d := 0) hlt)
    have hm := emod_bd k (show (0 : Int) < 2147483647 by omega)
    have hs := hStep_bd 11 (k % 2147483647)
    have ha : encAt k b p = ((b[p]?.getD 0) + mKeyed k [(p : Int)] % 256) % 256 := rfl
    rw [keyed_step] at ha
    have hf := gen_fill0 (f := encAt k b) (d := (0 : Int)) hlt
    simp only [wrap_u8]
    repeat' (first | omega | refine And.intro ?_ ?_ | intro _)
    exact Again.mk (p + 1) (by omega) (by simp [← ha, hf]) (by first | omega | (simp; omega))
  · have : p = b.length := by omega
    subst this; simp [mEnc, mDec]
theorem c23_ok : c23.ok Try.prog := mkCon_ok fun ⟨k, b⟩ hpre => c23_pc k b hpre
/-- loop.example/g03007/impl.Decrypt -/
noncomputable def c22 : Con := mkCon 22 false (α := Int × (List Int)) (fun x => (fun (k : Int) (b : List Int) => [dI k, encLU b]) x.1 x.2) (fun _ => []) (fun x => (fun (k : Int) (b : List Int) => b.length ≤ 1073741822 ∧ ∀ x ∈ b, 0 ≤ x ∧ x ≤ 255) x.1 x.2) (fun x => (fun (k : Int) (b : List Int) => (.own (0, 1) 1 0 (mDec k b).length : D)) x.1 x.2) (fun x => (fun (k : Int) (b : List Int) => [((0, 1), .arr false 1 (dU 0) (ML dU (mDec k b)))]) x.1 x.2)
@[simp] theorem c22_f : c22.f = 22 := rfl
@[simp] theorem c22_own : c22.own = false := rfl
theorem c22_inj : ∀ u_ v_ : Int × (List Int), ((fun x => (fun (k : Int) (b : List Int) => [dI k, encLU b]) x.1 x.2) u_).map nz = ((fun x => (fun (k : Int) (b : List Int) => [dI k, encLU b]) x.1 x.2) v_).map nz → u_ = v_ := by
  intro u_ v_ h
  obtain ⟨k, b⟩ := u_
  obtain ⟨k', b'⟩ := v_
  simp [nz_lit, nz1_lit, nz_agg, nz_sl, nz1_sl, encLU] at h
  first | (simp [h]; done) | (obtain ⟨⟩ := h; simp_all; done) | simp_all
@[simp] theorem c22_fn (k : Int) (b : List Int) : c22.fn [.lit (.int .i64 k), .sl false 1 (.lit (.int .u8 0)) (ML dU b)] [] = some ((fun (k : Int) (b : List Int) => b.length ≤ 1073741822 ∧ ∀ x ∈ b, 0 ≤ x ∧ x ≤ 255) k b, (fun (k : Int) (b : List Int) => (.own (0, 1) 1 0 (mDec k b).length : D)) k b, (fun (k : Int) (b : List Int) => [((0, 1), .arr false 1 (dU 0) (ML dU (mDec k b)))]) k b) :=
  mkCon_fn (fun x y h _ => c22_inj x y h) ((k, b) : Int × (List Int)) (by simp [nz, nz1, ML_nil, encLU]) rfl
@[simp] theorem c22_fn1 (k : Int) (s_b : Nat) (z_b : D) : c22.fn [.lit (.int .i64 k), .sl false s_b z_b []] [] = some ((fun (k : Int) (b : List Int) => b.length ≤ 1073741822 ∧ ∀ x ∈ b, 0 ≤ x ∧ x ≤ 255) k [], (fun (k : Int) (b : List Int) => (.own (0, 1) 1 0 (mDec k b).length : D)) k [], (fun (k : Int) (b : List Int) => [((0, 1), .arr false 1 (dU 0) (ML dU (mDec k b)))]) k []) :=
  mkCon_fn (fun x y h _ => c22_inj x y h) ((k, []) : Int × (List Int)) (by simp [nz, nz1, ML_nil, encLU]) rfl
theorem c22_pc (k : Int) (b : List Int) (hpre : b.length ≤ 1073741822 ∧ ∀ x ∈ b, 0 ≤ x ∧ x ≤ 255) : PCo Try.prog 22 [dI k, encLU b] (Tab.of []) (.own (0, 1) 1 0 (mDec k b).length) (Tab.of [((0, 1), .arr false 1 (dU 0) (ML dU (mDec k b)))]) := by
  refine pco_of_run [] (E := ⟨[c44, c58], [], []⟩) (m := false) (base := 0) (Env.ok_cons c44_ok (Env.ok_cons c58_ok Env.ok_nil)) G_ok mix 300 6 Try.func22 (by kernel_rfl) rfl (by kernel_rfl) (by kernel_rfl) rfl ?_
  simp [Try.f22]
  obtain ⟨hl, hx⟩ := hpre
  refine ⟨by omega, ?_⟩
  refine loop_inv (fun p : Nat => p ≤ b.length) (fun p => [(5, .fn (.func 58) [] [.el (dI (hStep 11 (k % 2147483647))), .el (dI (k % 2147483647))]), (6, .own (0, 1) 1 0 b.length), (14, encLU b), (15, dI b.length), (16, dI p)]) (fun p => [((0, 1), .arr false 1 (dU 0) (ML dU (gen (decAt k b) p ++ List.replicate (b.length - p) 0)))]) 2 (fun p => b.length - p) 0 400 (by simp) (by simp) (by simp) ?_
  intro p hp
  simp
  refine ⟨fun hlt => ?_, fun hge => ?_⟩
  · have hb := hx _ (getD_mem (d := 0) hlt)
    have hm := emod_bd k (show (0 : Int) < 2147483647 by omega)
    have hs := hStep_bd 11 (k % 2147483647)
    have ha : decAt k b p = ((b[p]?.getD 0) - mKeyed k [(p : Int)] % 256) % 256 := rfl
    rw [keyed_step] at ha
    have hf := gen_fill0 (f := decAt k b) (d := (0 : Int)) hlt
    simp only [wrap_u8]
    repeat' (first | omega | refine And.intro ?_ ?_ | intro _)
    exact Again.mk (p + 1) (by omega) (by simp [← ha, hf]) (by first | omega | (simp; omega))
  · have : p = b.length := by omega
    subst this; simp [mEnc, mDec]
theorem c22_ok : c22.ok Try.prog := mkCon_ok fun ⟨k, b⟩ hpre => c22_pc k b hpre

end Go.Proofs.Ytnnlpbogdkdghaa
