/- Contracts of the functions that the laws run. -/
import Derived.Test.Ytnnlpbogdkdghaach03e
import Derived.Test.Ytnnlpbogdkdghaach00c
import Derived.Test.YtnnlpbogdkdghaaEngB
namespace Go.Proofs.Ytnnlpbogdkdghaa
open Go Go.Eng
set_option linter.unusedSimpArgs false
set_option linter.unusedVariables false
set_option maxRecDepth 10000
set_option maxHeartbeats 1000000
/-- loop.example/g03007/laws.big -/
noncomputable def c7 : Con := mkCon 7 false (α := (List Int)) (fun x => (fun (l : List Int) => [encLU l]) x) (fun _ => []) (fun x => (fun (l : List Int) => True) x) (fun x => (fun (l : List Int) => (dB (decide (1048576 < l.length)) : D)) x) (fun x => (fun (l : List Int) => []) x)
@[simp] theorem c7_f : c7.f = 7 := rfl
@[simp] theorem c7_own : c7.own = false := rfl
theorem c7_inj : ∀ u_ v_ : (List Int), ((fun x => (fun (l : List Int) => [encLU l]) x) u_).map nz = ((fun x => (fun (l : List Int) => [encLU l]) x) v_).map nz → u_ = v_ := by
  intro u_ v_ h
  obtain l := u_
  obtain l' := v_
  simp [nz_lit, nz1_lit, nz_agg, nz_sl, nz1_sl, encLU] at h
  first | (simp [h]; done) | (obtain ⟨⟩ := h; simp_all; done) | simp_all
@[simp] theorem c7_fn (l : List Int) : c7.fn [.sl false 1 (.lit (.int .u8 0)) (ML dU l)] [] = some ((fun (l : List Int) => True) l, (fun (l : List Int) => (dB (decide (1048576 < l.length)) : D)) l, (fun (l : List Int) => []) l) :=
  mkCon_fn (fun x y h _ => c7_inj x y h) (l : (List Int)) (by simp [nz, nz1, ML_nil, encLU]) rfl
@[simp] theorem c7_fn1 (s_l : Nat) (z_l : D) : c7.fn [.sl false s_l z_l []] [] = some ((fun (l : List Int) => True) [], (fun (l : List Int) => (dB (decide (1048576 < l.length)) : D)) [], (fun (l : List Int) => []) []) :=
  mkCon_fn (fun x y h _ => c7_inj x y h) ([] : (List Int)) (by simp [nz, nz1, ML_nil, encLU]) rfl
theorem c7_pc (l : List Int) : PCo Try.prog 7 [encLU l] (Tab.of []) (dB (decide (1048576 < l.length))) (Tab.of []) := by
  refine pco_of_run [] (E := ⟨[], [], []⟩) (m := false) (base := 0) Env.ok_nil G_ok mix 300 6 Try.func7 (by kernel_rfl) rfl (by kernel_rfl) (by kernel_rfl) rfl ?_
  simp [Try.f7]
  all_goals first | omega | (rw [Bool.eq_iff_iff]; simp; omega) | grind
theorem c7_ok : c7.ok Try.prog := mkCon_ok fun l hpre => c7_pc l
/-- loop.example/g03007/laws.sameBytes -/
noncomputable def c11 : Con := mkCon 11 false (α := (List Int) × (List Int)) (fun x => (fun (a : List Int) (b : List Int) => [encLU a, encLU b]) x.1 x.2) (fun _ => []) (fun x => (fun (a : List Int) (b : List Int) => a.length ≤ 1099511627776 ∧ b.length ≤ 1099511627776) x.1 x.2) (fun x => (fun (a : List Int) (b : List Int) => (dB (decide (a = b)) : D)) x.1 x.2) (fun x => (fun (a : List Int) (b : List Int) => []) x.1 x.2)
@[simp] theorem c11_f : c11.f = 11 := rfl
@[simp] theorem c11_own : c11.own = false := rfl
theorem c11_inj : ∀ u_ v_ : (List Int) × (List Int), ((fun x => (fun (a : List Int) (b : List Int) => [encLU a, encLU b]) x.1 x.2) u_).map nz = ((fun x => (fun (a : List Int) (b : List Int) => [encLU a, encLU b]) x.1 x.2) v_).map nz → u_ = v_ := by
  intro u_ v_ h
  obtain ⟨a, b⟩ := u_
  obtain ⟨a', b'⟩ := v_
  simp [nz_lit, nz1_lit, nz_agg, nz_sl, nz1_sl, encLU] at h
  first | (simp [h]; done) | (obtain ⟨⟩ := h; simp_all; done) | simp_all
@[simp] theorem c11_fn (a : List Int) (b : List Int) : c11.fn [.sl false 1 (.lit (.int .u8 0)) (ML dU a), .sl false 1 (.lit (.int .u8 0)) (ML dU b)] [] = some ((fun (a : List Int) (b : List Int) => a.length ≤ 1099511627776 ∧ b.length ≤ 1099511627776) a b, (fun (a : List Int) (b : List Int) => (dB (decide (a = b)) : D)) a b, (fun (a : List Int) (b : List Int) => []) a b) :=
  mkCon_fn (fun x y h _ => c11_inj x y h) ((a, b) : (List Int) × (List Int)) (by simp [nz, nz1, ML_nil, encLU]) rfl
@[simp] theorem c11_fn1 (s_a : Nat) (z_a : D) (b : List Int) : c11.fn [.sl false s_a z_a [], .sl false 1 (.lit (.int .u8 0)) (ML dU b)] [] = some ((fun (a : List Int) (b : List Int) => a.length ≤ 1099511627776 ∧ b.length ≤ 1099511627776) [] b, (fun (a : List Int) (b : List Int) => (dB (decide (a = b)) : D)) [] b, (fun (a : List Int) (b : List Int) => []) [] b) :=
  mkCon_fn (fun x y h _ => c11_inj x y h) (([], b) : (List Int) × (List Int)) (by simp [nz, nz1, ML_nil, encLU]) rfl
@[simp] theorem c11_fn2 (a : List Int) (s_b : Nat) (z_b : D) : c11.fn [.sl false 1 (.lit (.int .u8 0)) (ML dU a), .sl false s_b z_b []] [] = some ((fun (a : List Int) (b : List Int) => a.length ≤ 1099511627776 ∧ b.length ≤ 1099511627776) a [], (fun (a : List Int) (b : List Int) => (dB (decide (a = b)) : D)) a [], (fun (a : List Int) (b : List Int) => []) a []) :=
  mkCon_fn (fun x y h _ => c11_inj x y h) ((a, []) : (List Int) × (List Int)) (by simp [nz, nz1, ML_nil, encLU]) rfl
@[simp] theorem c11_fn3 (s_a : Nat) (z_a : D) (s_b : Nat) (z_b : D) : c11.fn [.sl false s_a z_a [], .sl false s_b z_b []] [] = some ((fun (a : List Int) (b : List Int) => a.length ≤ 1099511627776 ∧ b.length ≤ 1099511627776) [] [], (fun (a : List Int) (b : List Int) => (dB (decide (a = b)) : D)) [] [], (fun (a : List Int) (b : List Int) => []) [] []) :=
  mkCon_fn (fun x y h _ => c11_inj x y h) (([], []) : (List Int) × (List Int)) (by simp [nz, nz1, ML_nil, encLU]) rfl
theorem c11_pc (a : List Int) (b : List Int) (hpre : a.length ≤ 1099511627776 ∧ b.length ≤ 1099511627776) : PCo Try.prog 11 [encLU a, encLU b] (Tab.of []) (dB (decide (a = b))) (Tab.of []) := by
  refine pco_of_run [] (E := ⟨[], [], []⟩) (m := false) (base := 0) Env.ok_nil G_ok mix 300 6 Try.func11 (by kernel_rfl) rfl (by kernel_rfl) (by kernel_rfl) rfl ?_
  simp [Try.f11]
  obtain ⟨pre1, pre2⟩ := hpre
  refine ⟨fun h => ?_, fun h => by intro e; subst e; exact absurd rfl h⟩
  refine loop_inv (fun p : Nat => p ≤ a.length ∧ a.take p = b.take p) (fun p => [(0, encLU a), (1, encLU b), (5, dI p)]) (fun _ => []) 1 (fun p => a.length - p) 0 100 (by simp) (by simp) (by simp) ?_
  intro p ⟨hp, hi⟩
  simp
  refine ⟨fun hlt => ⟨by omega, fun h2 => ⟨by omega, Again.mk (p + 1) ⟨by omega, take_eq_step hi (by omega) (by omega) h2⟩ (by simp) (by first | omega | (simp; omega))⟩, fun h2 => by intro e; subst e; exact absurd rfl h2⟩, fun hge => ?_⟩
  exact take_eq_full hi (by omega) (by omega)
theorem c11_ok : c11.ok Try.prog := mkCon_ok fun ⟨a, b⟩ hpre => c11_pc a b hpre
/-- loop.example/g03007/impl.Encrypt -/
noncomputable def c23f : Con := mkCon 23 false (α := Int × (List Int)) (fun x => (fun (k : Int) (b : List Int) => [dI k, encLU b]) x.1 x.2) (fun _ => []) (fun x => (fun (k : Int) (b : List Int) => b.length ≤ 1073741822 ∧ ∀ x ∈ b, 0 ≤ x ∧ x ≤ 255) x.1 x.2) (fun x => (fun (k : Int) (b : List Int) => (.sl false 1 (dU 0) (ML dU (mEnc k b)) : D)) x.1 x.2) (fun x => (fun (k : Int) (b : List Int) => []) x.1 x.2)
@[simp] theorem c23f_f : c23f.f = 23 := rfl
@[simp] theorem c23f_own : c23f.own = false := rfl
theorem c23f_inj : ∀ u_ v_ : Int × (List Int), ((fun x => (fun (k : Int) (b : List Int) => [dI k, encLU b]) x.1 x.2) u_).map nz = ((fun x => (fun (k : Int) (b : List Int) => [dI k, encLU b]) x.1 x.2) v_).map nz → u_ = v_ := by
  intro u_ v_ h
  obtain ⟨k, b⟩ := u_
  obtain ⟨k', b'⟩ := v_
  simp [nz_lit, nz1_lit, nz_agg, nz_sl, nz1_sl, encLU] at h
  first | (simp [h]; done) | (obtain ⟨⟩ := h; simp_all; done) | simp_all
@[simp] theorem c23f_fn (k : Int) (b : List Int) : c23f.fn [.lit (.int .i64 k), .sl false 1 (.lit (.int .u8 0)) (ML dU b)] [] = some ((fun (k : Int) (b : List Int) => b.length ≤ 1073741822 ∧ ∀ x ∈ b, 0 ≤ x ∧ x ≤ 255) k b, (fun (k : Int) (b : List Int) => (.sl false 1 (dU 0) (ML dU (mEnc k b)) : D)) k b, (fun (k : Int) (b : List Int) => []) k b) :=
  mkCon_fn (fun x y h _ => c23f_inj x y h) ((k, b) : Int × (List Int)) (by simp [nz, nz1, ML_nil, encLU]) rfl
@[simp] theorem c23f_fn1 (k : Int) (s_b : Nat) (z_b : D) : c23f.fn [.lit (.int .i64 k), .sl false s_b z_b []] [] = some ((fun (k : Int) (b : List Int) => b.length ≤ 1073741822 ∧ ∀ x ∈ b, 0 ≤ x ∧ x ≤ 255) k [], (fun (k : Int) (b : List Int) => (.sl false 1 (dU 0) (ML dU (mEnc k b)) : D)) k [], (fun (k : Int) (b : List Int) => []) k []) :=
  mkCon_fn (fun x y h _ => c23f_inj x y h) ((k, []) : Int × (List Int)) (by simp [nz, nz1, ML_nil, encLU]) rfl
theorem c23f_pc (k : Int) (b : List Int) (hpre : b.length ≤ 1073741822 ∧ ∀ x ∈ b, 0 ≤ x ∧ x ≤ 255) : PCo Try.prog 23 [dI k, encLU b] (Tab.of []) (.sl false 1 (dU 0) (ML dU (mEnc k b))) (Tab.of []) := by
  refine pco_of_run [] (E := ⟨[c44, c58], [], []⟩) (m := false) (base := 0) (Env.ok_cons c44_ok (Env.ok_cons c58_ok Env.ok_nil)) G_ok mix 300 6 Try.func23 (by kernel_rfl) rfl (by kernel_rfl) (by kernel_rfl) rfl ?_
  simp [Try.f23]
  obtain ⟨hl, hx⟩ := hpre
  refine ⟨by omega, ?_⟩
  refine loop_inv (fun p : Nat => p ≤ b.length) (fun p => [(5, .fn (.func 58) [] [.el (dI (hStep 11 (k % 2147483647))), .el (dI (k % 2147483647))]), (6, .own (0, 1) 1 0 b.length), (14, encLU b), (15, dI b.length), (16, dI p)]) (fun p => [((0, 1), .arr false 1 (dU 0) (ML dU (gen (encAt k b) p ++ List.replicate (b.length - p) 0)))]) 2 (fun p => b.length - p) 0 400 (by simp) (by simp) (by simp) ?_
  intro p hp
  simp
  refine ⟨fun hlt => ?_, fun hge => ?_⟩
  · have hb := hx _ (getD_mem (d := 0) hlt)
    have hm := emod_bd k (show (0 : Int) < 2147483647 by omega)
    have hs := hStep_bd 11 (k % 2147483647)
    have ha : encAt k b p = ((b[p]?.getD 0) + mKeyed k [(p : Int)] % 256) % 256 := rfl
    rw [keyed_step] at ha
    have hf := gen_fill0 (f := encAt k b) (d := (0 : Int)) hlt
    simp only [wrap_u8]
    repeat' (first | omega | refine And.intro ?_ ?_ | intro _)
    exact Again.mk (p + 1) (by omega) (by simp [← ha, hf]) (by first | omega | (simp; omega))
  · have : p = b.length := by omega
    subst this; simp [mEnc, mDec]
theorem c23f_ok : c23f.ok Try.prog := mkCon_ok fun ⟨k, b⟩ hpre => c23f_pc k b hpre
/-- loop.example/g03007/impl.Decrypt -/
noncomputable def c22f : Con := mkCon 22 false (α := Int × (List Int)) (fun x => (fun (k : Int) (b : List Int) => [dI k, encLU b]) x.1 x.2) (fun _ => []) (fun x => (fun (k : Int) (b : List Int) => b.length ≤ 1073741822 ∧ ∀ x ∈ b, 0 ≤ x ∧ x ≤ 255) x.1 x.2) (fun x => (fun (k : Int) (b : List Int) => (.sl false 1 (dU 0) (ML dU (mDec k b)) : D)) x.1 x.2) (fun x => (fun (k : Int) (b : List Int) => []) x.1 x.2)
@[simp] theorem c22f_f : c22f.f = 22 := rfl
@[simp] theorem c22f_own : c22f.own = false := rfl
theorem c22f_inj : ∀ u_ v_ : Int × (List Int), ((fun x => (fun (k : Int) (b : List Int) => [dI k, encLU b]) x.1 x.2) u_).map nz = ((fun x => (fun (k : Int) (b : List Int) => [dI k, encLU b]) x.1 x.2) v_).map nz → u_ = v_ := by
  intro u_ v_ h
  obtain ⟨k, b⟩ := u_
  obtain ⟨k', b'⟩ := v_
  simp [nz_lit, nz1_lit, nz_agg, nz_sl, nz1_sl, encLU] at h
  first | (simp [h]; done) | (obtain ⟨⟩ := h; simp_all; done) | simp_all
@[simp] theorem c22f_fn (k : Int) (b : List Int) : c22f.fn [.lit (.int .i64 k), .sl false 1 (.lit (.int .u8 0)) (ML dU b)] [] = some ((fun (k : Int) (b : List Int) => b.length ≤ 1073741822 ∧ ∀ x ∈ b, 0 ≤ x ∧ x ≤ 255) k b, (fun (k : Int) (b : List Int) => (.sl false 1 (dU 0) (ML dU (mDec k b)) : D)) k b, (fun (k : Int) (b : List Int) => []) k b) :=
  mkCon_fn (fun x y h _ => c22f_inj x y h) ((k, b) : Int × (List Int)) (by simp [nz, nz1, ML_nil, encLU]) rfl
@[simp] theorem c22f_fn1 (k : Int) (s_b : Nat) (z_b : D) : c22f.fn [.lit (.int .i64 k), .sl false s_b z_b []] [] = some ((fun (k : Int) (b : List Int) => b.length ≤ 1073741822 ∧ ∀ x ∈ b, 0 ≤ x ∧ x ≤ 255) k [], (fun (k : Int) (b : List Int) => (.sl false 1 (dU 0) (ML dU (mDec k b)) : D)) k [], (fun (k : Int) (b : List Int) => []) k []) :=
  mkCon_fn (fun x y h _ => c22f_inj x y h) ((k, []) : Int × (List Int)) (by simp [nz, nz1, ML_nil, encLU]) rfl
theorem c22f_pc (k : Int) (b : List Int) (hpre : b.length ≤ 1073741822 ∧ ∀ x ∈ b, 0 ≤ x ∧ x ≤ 255) : PCo Try.prog 22 [dI k, encLU b] (Tab.of []) (.sl false 1 (dU 0) (ML dU (mDec k b))) (Tab.of []) := by
  refine pco_of_run [] (E := ⟨[c44, c58], [], []⟩) (m := false) (base := 0) (Env.ok_cons c44_ok (Env.ok_cons c58_ok Env.ok_nil)) G_ok mix 300 6 Try.func22 (by kernel_rfl) rfl (by kernel_rfl) (by kernel_rfl) rfl ?_
  simp [Try.f22]
  obtain ⟨hl, hx⟩ := hpre
  refine ⟨by omega, ?_⟩
  refine loop_inv (fun p : Nat => p ≤ b.length) (fun p => [(5, .fn (.func 58) [] [.el (dI (hStep 11 (k % 2147483647))), .el (dI (k % 2147483647))]), (6, .own (0, 1) 1 0 b.length), (14, encLU b), (15, dI b.length), (16, dI p)]) (fun p => [((0, 1), .arr false 1 (dU 0) (ML dU (gen (decAt k b) p ++ List.replicate (b.length - p) 0)))]) 2 (fun p => b.length - p) 0 400 (by simp) (by simp) (by simp) ?_
  intro p hp
  simp
  refine ⟨fun hlt => ?_, fun hge => ?_⟩
  · have hb := hx _ (getD_mem (d := 0) hlt)
    have hm := emod_bd k (show (0 : Int) < 2147483647 by omega)
    have hs := hStep_bd 11 (k % 2147483647)
    have ha : decAt k b p = ((b[p]?.getD 0) - mKeyed k [(p : Int)] % 256) % 256 := rfl
    rw [keyed_step] at ha
    have hf := gen_fill0 (f := decAt k b) (d := (0 : Int)) hlt
    simp only [wrap_u8]
    repeat' (first | omega | refine And.intro ?_ ?_ | intro _)
    exact Again.mk (p + 1) (by omega) (by simp [← ha, hf]) (by first | omega | (simp; omega))
  · have : p = b.length := by omega
    subst this; simp [mEnc, mDec]
theorem c22f_ok : c22f.ok Try.prog := mkCon_ok fun ⟨k, b⟩ hpre => c22f_pc k b hpre
theorem enc_bd (k : Int) (b : List Int) : ∀ x ∈ mEnc k b, 0 ≤ x ∧ x ≤ 255 := by
  intro x hx
  simp only [mEnc, gen, List.mem_map] at hx
  obtain ⟨i, _, rfl⟩ := hx
  simp only [encAt]; omega
theorem dec_bd (k : Int) (b : List Int) : ∀ x ∈ mDec k b, 0 ≤ x ∧ x ≤ 255 := by
  intro x hx
  simp only [mDec, gen, List.mem_map] at hx
  obtain ⟨i, _, rfl⟩ := hx
  simp only [decAt]; omega
theorem gen_at (f : Nat → Int) (n i : Nat) (h : i < n) : (gen f n)[i]?.getD 0 = f i := by
  simp [gen, h]
theorem ext_gen {f : Nat → Int} {b : List Int} (h : ∀ i, i < b.length → f i = b[i]?.getD 0) : gen f b.length = b := by
  apply List.ext_getElem?
  intro i
  by_cases hi : i < b.length
  · have := h i hi
    simp [gen, hi] at this ⊢
    exact this
  · simp [gen, hi]; try omega
theorem dec_enc {k : Int} {b : List Int} (hb : ∀ x ∈ b, 0 ≤ x ∧ x ≤ 255) : mDec k (mEnc k b) = b := by
  rw [mDec, mEnc_len]
  refine ext_gen fun i hi => ?_
  have h1 := hb _ (getD_mem (d := 0) hi)
  have h2 : (mEnc k b)[i]?.getD 0 = encAt k b i := gen_at _ _ _ hi
  simp only [decAt, h2, encAt]
  omega
theorem enc_dec {k : Int} {b : List Int} (hb : ∀ x ∈ b, 0 ≤ x ∧ x ≤ 255) : mEnc k (mDec k b) = b := by
  rw [mEnc, mDec_len]
  refine ext_gen fun i hi => ?_
  have h1 := hb _ (getD_mem (d := 0) hi)
  have h2 : (mDec k b)[i]?.getD 0 = decAt k b i := gen_at _ _ _ hi
  simp only [encAt, h2, decAt]
  omega
theorem exDE : ∃ (K : List Int → Int) (B : List Int → List Int), (∀ l, c21.fn [.sl false 1 (.lit (.int .u8 0)) (ML dU l)] [] = some (l.length ≤ 2097152, .tup [dI (K l), .sl false 1 (.lit (.int .u8 0)) (ML dU (B l))], [])) ∧ ∀ l, (B l).length ≤ 8 ∧ ∀ x ∈ B l, 0 ≤ x ∧ x ≤ 255 :=
  ⟨dEk, dEb, fun l => c21_fn l, fun l => ⟨by
    have := bV_bd (dEc l) 8 (by omega)
    rw [dEb, bsV_len]; omega, bsV_bd _ _⟩⟩
/-- loop.example/g03007/laws.FnCipher -/
theorem law5 (l : List Int) (wl : wfLU l) : PCo Try.prog 5 [encLU l] (Tab.of []) (dB true) (Tab.of []) := by
  refine pco_of_run [] (E := ⟨[c7, c11, c21, c22f, c23f], [], []⟩) (m := false) (base := 0) (Env.ok_cons c7_ok (Env.ok_cons c11_ok (Env.ok_cons c21_ok (Env.ok_cons c22f_ok (Env.ok_cons c23f_ok Env.ok_nil))))) G_ok mix 400 6 Try.func5 (by kernel_rfl) rfl (by kernel_rfl) (by kernel_rfl) rfl ?_
  have hl : l.length ≤ maxLen := wl.1
  by_cases hbig : 1048576 < l.length
  · simp [Try.f5, hbig]
  · have hp : l.length ≤ 2097152 := by omega
    obtain ⟨K, B, h1, h2⟩ := exDE
    have h1 := h1 l; obtain ⟨h2, h3⟩ := h2 l
    generalize K l = k at *
    generalize B l = b at *
    have e1 := dec_enc (k := k) h3
    have e2 := enc_dec (k := k) h3
    have d1 := enc_bd k b
    have d2 := dec_bd k b
    have l1 := mEnc_len k b
    have l2 := mDec_len k b
    simp (config := {maxSteps := 3000000}) [Try.f5, hbig, h1, -c21_fn, e1, e2, l1, l2]
    repeat' (first | exact h3 | exact d1 | exact d2 | omega | assumption | refine And.intro ?_ ?_ | intro _)
    all_goals (first | done | trace_state)
theorem law5_pc (D0 : D) (h0 : Sh G 9 22 D0) : PC Try.prog 5 [D0] (dB true) [] := by
  obtain ⟨l, rfl, wl⟩ := sh22 (n := 7) h0
  exact law5 l wl

end Go.Proofs.Ytnnlpbogdkdghaa
