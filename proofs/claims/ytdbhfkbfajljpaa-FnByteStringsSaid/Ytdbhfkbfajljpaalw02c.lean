/- Contracts of the functions that the laws run. -/
import Derived.Test.YtdbhfkbfajljpaaEngB
import Derived.Test.YtdbhfkbfajljpaaEngB
import Derived.Test.YtdbhfkbfajljpaaEngB
import Derived.Test.Ytdbhfkbfajljpaalw02b
import Derived.Test.Ytdbhfkbfajljpaadr2b
import Derived.Test.YtdbhfkbfajljpaaEngB
namespace Go.Proofs.Ytdbhfkbfajljpaa
open Go Go.Eng
set_option linter.unusedSimpArgs false
set_option linter.unusedVariables false
set_option maxRecDepth 10000
set_option maxHeartbeats 1000000
def mAt (l : List Int) (i : Int) : Int := if i < l.length then l[i.toNat]?.getD 0 else (i * 31 + l.length * 7).tmod 256
theorem mAt_bd {l : List Int} {i : Int} (hi : 0 ≤ i) (h : ∀ x ∈ l, 0 ≤ x ∧ x ≤ 255) : 0 ≤ mAt l i ∧ mAt l i ≤ 255 := by
  simp only [mAt]; split
  · exact h _ (getD_mem (by omega))
  · have h1 : 0 ≤ i * 31 + l.length * 7 := by omega
    have h2 := Int.tmod_nonneg 256 h1
    have h3 := Int.tmod_lt_of_pos (i * 31 + (l.length : Int) * 7) (show (0 : Int) < 256 by omega)
    omega
/-- loop.example/g03007/laws.at -/
noncomputable def c16 : Con := mkCon 16 false (α := (List Int) × Int) (fun x => (fun (l : List Int) (i : Int) => [encLU l, dI i]) x.1 x.2) (fun _ => []) (fun x => (fun (l : List Int) (i : Int) => 0 ≤ i ∧ i ≤ 1000 ∧ l.length ≤ 2097152 ∧ ∀ x ∈ l, 0 ≤ x ∧ x ≤ 255) x.1 x.2) (fun x => (fun (l : List Int) (i : Int) => (dI (mAt l i) : D)) x.1 x.2) (fun x => (fun (l : List Int) (i : Int) => []) x.1 x.2)
@[simp] theorem c16_f : c16.f = 16 := rfl
@[simp] theorem c16_own : c16.own = false := rfl
theorem c16_inj : ∀ u_ v_ : (List Int) × Int, ((fun x => (fun (l : List Int) (i : Int) => [encLU l, dI i]) x.1 x.2) u_).map nz = ((fun x => (fun (l : List Int) (i : Int) => [encLU l, dI i]) x.1 x.2) v_).map nz → u_ = v_ := by
  intro u_ v_ h
  obtain ⟨l, i⟩ := u_
  obtain ⟨l', i'⟩ := v_
  simp [nz_lit, nz1_lit, nz_agg, nz_sl, nz1_sl, encLU] at h
  first | (simp [h]; done) | (obtain ⟨⟩ := h; simp_all; done) | simp_all
@[simp] theorem c16_fn (l : List Int) (i : Int) : c16.fn [.sl false 1 (.lit (.int .u8 0)) (ML dU l), .lit (.int .i64 i)] [] = some ((fun (l : List Int) (i : Int) => 0 ≤ i ∧ i ≤ 1000 ∧ l.length ≤ 2097152 ∧ ∀ x ∈ l, 0 ≤ x ∧ x ≤ 255) l i, (fun (l : List Int) (i : Int) => (dI (mAt l i) : D)) l i, (fun (l : List Int) (i : Int) => []) l i) :=
  mkCon_fn (fun x y h _ => c16_inj x y h) ((l, i) : (List Int) × Int) (by simp [nz, nz1, ML_nil, encLU]) rfl
@[simp] theorem c16_fn1 (s_l : Nat) (z_l : D) (i : Int) : c16.fn [.sl false s_l z_l [], .lit (.int .i64 i)] [] = some ((fun (l : List Int) (i : Int) => 0 ≤ i ∧ i ≤ 1000 ∧ l.length ≤ 2097152 ∧ ∀ x ∈ l, 0 ≤ x ∧ x ≤ 255) [] i, (fun (l : List Int) (i : Int) => (dI (mAt l i) : D)) [] i, (fun (l : List Int) (i : Int) => []) [] i) :=
  mkCon_fn (fun x y h _ => c16_inj x y h) (([], i) : (List Int) × Int) (by simp [nz, nz1, ML_nil, encLU]) rfl
theorem c16_pc (l : List Int) (i : Int) (hpre : 0 ≤ i ∧ i ≤ 1000 ∧ l.length ≤ 2097152 ∧ ∀ x ∈ l, 0 ≤ x ∧ x ≤ 255) : PCo Try.prog 16 [encLU l, dI i] (Tab.of []) (dI (mAt l i)) (Tab.of []) := by
  refine pco_of_run [] (E := ⟨[], [], []⟩) (m := false) (base := 0) Env.ok_nil G_ok mix 300 6 Try.func16 (by kernel_rfl) rfl (by kernel_rfl) (by kernel_rfl) rfl ?_
  simp [Try.f16]
  obtain ⟨h1, h2, h3, h4⟩ := hpre
  refine ⟨fun hlt => ?_, fun hge => ?_⟩
  · have hb := h4 _ (getD_mem (d := 0) (show i.toNat < l.length by omega))
    rw [mAt, if_pos hlt]
    exact ⟨⟨⟨h1, hlt⟩, by omega, by omega⟩, rfl⟩
  · rw [mAt, if_neg (by omega)]
    exact ⟨⟨⟨by omega, by omega⟩, ⟨by omega, by omega⟩, by omega, by omega⟩, rfl⟩
theorem c16_ok : c16.ok Try.prog := mkCon_ok fun ⟨l, i⟩ hpre => c16_pc l i hpre
/-- loop.example/g03007/impl.AppendBytes -/
noncomputable def c14f : Con := mkCon 14 false (α := (List Int) × (List Int)) (fun x => (fun (l : List Int) (d : List Int) => [encLU l, encLU d]) x.1 x.2) (fun _ => []) (fun x => (fun (l : List Int) (d : List Int) => l.length ≤ 1073741823 ∧ d.length ≤ 1073741823) x.1 x.2) (fun x => (fun (l : List Int) (d : List Int) => (encLU (mAppB l d) : D)) x.1 x.2) (fun x => (fun (l : List Int) (d : List Int) => []) x.1 x.2)
@[simp] theorem c14f_f : c14f.f = 14 := rfl
@[simp] theorem c14f_own : c14f.own = false := rfl
theorem c14f_inj : ∀ u_ v_ : (List Int) × (List Int), ((fun x => (fun (l : List Int) (d : List Int) => [encLU l, encLU d]) x.1 x.2) u_).map nz = ((fun x => (fun (l : List Int) (d : List Int) => [encLU l, encLU d]) x.1 x.2) v_).map nz → u_ = v_ := by
  intro u_ v_ h
  obtain ⟨l, d⟩ := u_
  obtain ⟨l', d'⟩ := v_
  simp [nz_lit, nz1_lit, nz_agg, nz_sl, nz1_sl, encLU] at h
  first | (simp [h]; done) | (obtain ⟨⟩ := h; simp_all; done) | simp_all
@[simp] theorem c14f_fn (l : List Int) (d : List Int) : c14f.fn [.sl false 1 (.lit (.int .u8 0)) (ML dU l), .sl false 1 (.lit (.int .u8 0)) (ML dU d)] [] = some ((fun (l : List Int) (d : List Int) => l.length ≤ 1073741823 ∧ d.length ≤ 1073741823) l d, (fun (l : List Int) (d : List Int) => (encLU (mAppB l d) : D)) l d, (fun (l : List Int) (d : List Int) => []) l d) :=
  mkCon_fn (fun x y h _ => c14f_inj x y h) ((l, d) : (List Int) × (List Int)) (by simp [nz, nz1, ML_nil, encLU]) rfl
@[simp] theorem c14f_fn1 (s_l : Nat) (z_l : D) (d : List Int) : c14f.fn [.sl false s_l z_l [], .sl false 1 (.lit (.int .u8 0)) (ML dU d)] [] = some ((fun (l : List Int) (d : List Int) => l.length ≤ 1073741823 ∧ d.length ≤ 1073741823) [] d, (fun (l : List Int) (d : List Int) => (encLU (mAppB l d) : D)) [] d, (fun (l : List Int) (d : List Int) => []) [] d) :=
  mkCon_fn (fun x y h _ => c14f_inj x y h) (([], d) : (List Int) × (List Int)) (by simp [nz, nz1, ML_nil, encLU]) rfl
@[simp] theorem c14f_fn2 (l : List Int) (s_d : Nat) (z_d : D) : c14f.fn [.sl false 1 (.lit (.int .u8 0)) (ML dU l), .sl false s_d z_d []] [] = some ((fun (l : List Int) (d : List Int) => l.length ≤ 1073741823 ∧ d.length ≤ 1073741823) l [], (fun (l : List Int) (d : List Int) => (encLU (mAppB l d) : D)) l [], (fun (l : List Int) (d : List Int) => []) l []) :=
  mkCon_fn (fun x y h _ => c14f_inj x y h) ((l, []) : (List Int) × (List Int)) (by simp [nz, nz1, ML_nil, encLU]) rfl
@[simp] theorem c14f_fn3 (s_l : Nat) (z_l : D) (s_d : Nat) (z_d : D) : c14f.fn [.sl false s_l z_l [], .sl false s_d z_d []] [] = some ((fun (l : List Int) (d : List Int) => l.length ≤ 1073741823 ∧ d.length ≤ 1073741823) [] [], (fun (l : List Int) (d : List Int) => (encLU (mAppB l d) : D)) [] [], (fun (l : List Int) (d : List Int) => []) [] []) :=
  mkCon_fn (fun x y h _ => c14f_inj x y h) (([], []) : (List Int) × (List Int)) (by simp [nz, nz1, ML_nil, encLU]) rfl
theorem c14f_pc (l : List Int) (d : List Int) (hpre : l.length ≤ 1073741823 ∧ d.length ≤ 1073741823) : PCo Try.prog 14 [encLU l, encLU d] (Tab.of []) (encLU (mAppB l d)) (Tab.of []) := by
  exact pco_frz1 (by simp) (c14_pc l d hpre)
theorem c14f_ok : c14f.ok Try.prog := mkCon_ok fun ⟨l, d⟩ hpre => c14f_pc l d hpre
/-- loop.example/g03007/impl.EncodeInts -/
noncomputable def c17f : Con := mkCon 17 false (α := (List Int)) (fun x => (fun (l : List Int) => [encLI l]) x) (fun _ => []) (fun x => (fun (l : List Int) => l.length ≤ 16777216) x) (fun x => (fun (l : List Int) => (encLU (encAll l) : D)) x) (fun x => (fun (l : List Int) => []) x)
@[simp] theorem c17f_f : c17f.f = 17 := rfl
@[simp] theorem c17f_own : c17f.own = false := rfl
theorem c17f_inj : ∀ u_ v_ : (List Int), ((fun x => (fun (l : List Int) => [encLI l]) x) u_).map nz = ((fun x => (fun (l : List Int) => [encLI l]) x) v_).map nz → u_ = v_ := by
  intro u_ v_ h
  obtain l := u_
  obtain l' := v_
  simp [nz_lit, nz1_lit, nz_agg, nz_sl, nz1_sl, encLI] at h
  first | (simp [h]; done) | (obtain ⟨⟩ := h; simp_all; done) | simp_all
@[simp] theorem c17f_fn (l : List Int) : c17f.fn [.sl false 1 (.lit (.int .i64 0)) (ML dI l)] [] = some ((fun (l : List Int) => l.length ≤ 16777216) l, (fun (l : List Int) => (encLU (encAll l) : D)) l, (fun (l : List Int) => []) l) :=
  mkCon_fn (fun x y h _ => c17f_inj x y h) (l : (List Int)) (by simp [nz, nz1, ML_nil, encLI]) rfl
@[simp] theorem c17f_fn1 (s_l : Nat) (z_l : D) : c17f.fn [.sl false s_l z_l []] [] = some ((fun (l : List Int) => l.length ≤ 16777216) [], (fun (l : List Int) => (encLU (encAll l) : D)) [], (fun (l : List Int) => []) []) :=
  mkCon_fn (fun x y h _ => c17f_inj x y h) ([] : (List Int)) (by simp [nz, nz1, ML_nil, encLI]) rfl
theorem c17f_pc (l : List Int) (hpre : l.length ≤ 16777216) : PCo Try.prog 17 [encLI l] (Tab.of []) (encLU (encAll l)) (Tab.of []) := by
  exact pco_frz1 (by simp) (c17_pc l hpre)
theorem c17f_ok : c17f.ok Try.prog := mkCon_ok fun l hpre => c17f_pc l hpre
/-- loop.example/g03007/impl.ReadBytes -/
noncomputable def c15f : Con := mkCon 15 false (α := (List Int) × Int × Int) (fun x => (fun (b : List Int) (at_ : Int) (most : Int) => [encLU b, dI at_, dI most]) x.1 x.2.1 x.2.2) (fun _ => []) (fun x => (fun (b : List Int) (at_ : Int) (most : Int) => b.length ≤ 1073741823 ∧ ∀ x ∈ b, 0 ≤ x ∧ x ≤ 255) x.1 x.2.1 x.2.2) (fun x => (fun (b : List Int) (at_ : Int) (most : Int) => (.tup [encLU ((mRB b at_ most).getD ([], 0)).1, dI ((mRB b at_ most).getD ([], 0)).2, dB (mRB b at_ most).isSome] : D)) x.1 x.2.1 x.2.2) (fun x => (fun (b : List Int) (at_ : Int) (most : Int) => []) x.1 x.2.1 x.2.2)
@[simp] theorem c15f_f : c15f.f = 15 := rfl
@[simp] theorem c15f_own : c15f.own = false := rfl
theorem c15f_inj : ∀ u_ v_ : (List Int) × Int × Int, ((fun x => (fun (b : List Int) (at_ : Int) (most : Int) => [encLU b, dI at_, dI most]) x.1 x.2.1 x.2.2) u_).map nz = ((fun x => (fun (b : List Int) (at_ : Int) (most : Int) => [encLU b, dI at_, dI most]) x.1 x.2.1 x.2.2) v_).map nz → u_ = v_ := by
  intro u_ v_ h
  obtain ⟨b, at_, most⟩ := u_
  obtain ⟨b', at_', most'⟩ := v_
  simp [nz_lit, nz1_lit, nz_agg, nz_sl, nz1_sl, encLU] at h
  first | (simp [h]; done) | (obtain ⟨⟩ := h; simp_all; done) | simp_all
@[simp] theorem c15f_fn (b : List Int) (at_ : Int) (most : Int) : c15f.fn [.sl false 1 (.lit (.int .u8 0)) (ML dU b), .lit (.int .i64 at_), .lit (.int .i64 most)] [] = some ((fun (b : List Int) (at_ : Int) (most : Int) => b.length ≤ 1073741823 ∧ ∀ x ∈ b, 0 ≤ x ∧ x ≤ 255) b at_ most, (fun (b : List Int) (at_ : Int) (most : Int) => (.tup [encLU ((mRB b at_ most).getD ([], 0)).1, dI ((mRB b at_ most).getD ([], 0)).2, dB (mRB b at_ most).isSome] : D)) b at_ most, (fun (b : List Int) (at_ : Int) (most : Int) => []) b at_ most) :=
  mkCon_fn (fun x y h _ => c15f_inj x y h) ((b, at_, most) : (List Int) × Int × Int) (by simp [nz, nz1, ML_nil, encLU]) rfl
@[simp] theorem c15f_fn1 (s_b : Nat) (z_b : D) (at_ : Int) (most : Int) : c15f.fn [.sl false s_b z_b [], .lit (.int .i64 at_), .lit (.int .i64 most)] [] = some ((fun (b : List Int) (at_ : Int) (most : Int) => b.length ≤ 1073741823 ∧ ∀ x ∈ b, 0 ≤ x ∧ x ≤ 255) [] at_ most, (fun (b : List Int) (at_ : Int) (most : Int) => (.tup [encLU ((mRB b at_ most).getD ([], 0)).1, dI ((mRB b at_ most).getD ([], 0)).2, dB (mRB b at_ most).isSome] : D)) [] at_ most, (fun (b : List Int) (at_ : Int) (most : Int) => []) [] at_ most) :=
  mkCon_fn (fun x y h _ => c15f_inj x y h) (([], at_, most) : (List Int) × Int × Int) (by simp [nz, nz1, ML_nil, encLU]) rfl
theorem c15f_pc (b : List Int) (at_ : Int) (most : Int) (hpre : b.length ≤ 1073741823 ∧ ∀ x ∈ b, 0 ≤ x ∧ x ≤ 255) : PCo Try.prog 15 [encLU b, dI at_, dI most] (Tab.of []) (.tup [encLU ((mRB b at_ most).getD ([], 0)).1, dI ((mRB b at_ most).getD ([], 0)).2, dB (mRB b at_ most).isSome]) (Tab.of []) := by
  exact pco_frz2 (by simp) (c15_pc b at_ most hpre)
theorem c15f_ok : c15f.ok Try.prog := mkCon_ok fun ⟨b, at_, most⟩ hpre => c15f_pc b at_ most hpre
/-- loop.example/g03007/impl.DecodeInts -/
noncomputable def c18f : Con := mkCon 18 false (α := (List Int) × Int × Int) (fun x => (fun (b : List Int) (a : Int) (n : Int) => [encLU b, dI a, dI n]) x.1 x.2.1 x.2.2) (fun _ => []) (fun x => (fun (b : List Int) (a : Int) (n : Int) => b.length ≤ 1073741823 ∧ ∀ x ∈ b, 0 ≤ x ∧ x ≤ 255) x.1 x.2.1 x.2.2) (fun x => (fun (b : List Int) (a : Int) (n : Int) => (.tup [encLI ((mDecI b a n).getD ([], 0)).1, dI ((mDecI b a n).getD ([], 0)).2, dB (mDecI b a n).isSome] : D)) x.1 x.2.1 x.2.2) (fun x => (fun (b : List Int) (a : Int) (n : Int) => []) x.1 x.2.1 x.2.2)
@[simp] theorem c18f_f : c18f.f = 18 := rfl
@[simp] theorem c18f_own : c18f.own = false := rfl
theorem c18f_inj : ∀ u_ v_ : (List Int) × Int × Int, ((fun x => (fun (b : List Int) (a : Int) (n : Int) => [encLU b, dI a, dI n]) x.1 x.2.1 x.2.2) u_).map nz = ((fun x => (fun (b : List Int) (a : Int) (n : Int) => [encLU b, dI a, dI n]) x.1 x.2.1 x.2.2) v_).map nz → u_ = v_ := by
  intro u_ v_ h
  obtain ⟨b, a, n⟩ := u_
  obtain ⟨b', a', n'⟩ := v_
  simp [nz_lit, nz1_lit, nz_agg, nz_sl, nz1_sl, encLU] at h
  first | (simp [h]; done) | (obtain ⟨⟩ := h; simp_all; done) | simp_all
@[simp] theorem c18f_fn (b : List Int) (a : Int) (n : Int) : c18f.fn [.sl false 1 (.lit (.int .u8 0)) (ML dU b), .lit (.int .i64 a), .lit (.int .i64 n)] [] = some ((fun (b : List Int) (a : Int) (n : Int) => b.length ≤ 1073741823 ∧ ∀ x ∈ b, 0 ≤ x ∧ x ≤ 255) b a n, (fun (b : List Int) (a : Int) (n : Int) => (.tup [encLI ((mDecI b a n).getD ([], 0)).1, dI ((mDecI b a n).getD ([], 0)).2, dB (mDecI b a n).isSome] : D)) b a n, (fun (b : List Int) (a : Int) (n : Int) => []) b a n) :=
  mkCon_fn (fun x y h _ => c18f_inj x y h) ((b, a, n) : (List Int) × Int × Int) (by simp [nz, nz1, ML_nil, encLU]) rfl
@[simp] theorem c18f_fn1 (s_b : Nat) (z_b : D) (a : Int) (n : Int) : c18f.fn [.sl false s_b z_b [], .lit (.int .i64 a), .lit (.int .i64 n)] [] = some ((fun (b : List Int) (a : Int) (n : Int) => b.length ≤ 1073741823 ∧ ∀ x ∈ b, 0 ≤ x ∧ x ≤ 255) [] a n, (fun (b : List Int) (a : Int) (n : Int) => (.tup [encLI ((mDecI b a n).getD ([], 0)).1, dI ((mDecI b a n).getD ([], 0)).2, dB (mDecI b a n).isSome] : D)) [] a n, (fun (b : List Int) (a : Int) (n : Int) => []) [] a n) :=
  mkCon_fn (fun x y h _ => c18f_inj x y h) (([], a, n) : (List Int) × Int × Int) (by simp [nz, nz1, ML_nil, encLU]) rfl
theorem c18f_pc (b : List Int) (a : Int) (n : Int) (hpre : b.length ≤ 1073741823 ∧ ∀ x ∈ b, 0 ≤ x ∧ x ≤ 255) : PCo Try.prog 18 [encLU b, dI a, dI n] (Tab.of []) (.tup [encLI ((mDecI b a n).getD ([], 0)).1, dI ((mDecI b a n).getD ([], 0)).2, dB (mDecI b a n).isSome]) (Tab.of []) := by
  exact pco_frz2 (by simp) (c18_pc b a n hpre)
theorem c18f_ok : c18f.ok Try.prog := mkCon_ok fun ⟨b, a, n⟩ hpre => c18f_pc b a n hpre
/-- loop.example/g03007/laws.sameInts -/
noncomputable def c19 : Con := mkCon 19 false (α := (List Int) × (List Int)) (fun x => (fun (a : List Int) (b : List Int) => [encLI a, encLI b]) x.1 x.2) (fun _ => []) (fun x => (fun (a : List Int) (b : List Int) => a.length ≤ 1099511627776 ∧ b.length ≤ 1099511627776) x.1 x.2) (fun x => (fun (a : List Int) (b : List Int) => (dB (decide (a = b)) : D)) x.1 x.2) (fun x => (fun (a : List Int) (b : List Int) => []) x.1 x.2)
@[simp] theorem c19_f : c19.f = 19 := rfl
@[simp] theorem c19_own : c19.own = false := rfl
theorem c19_inj : ∀ u_ v_ : (List Int) × (List Int), ((fun x => (fun (a : List Int) (b : List Int) => [encLI a, encLI b]) x.1 x.2) u_).map nz = ((fun x => (fun (a : List Int) (b : List Int) => [encLI a, encLI b]) x.1 x.2) v_).map nz → u_ = v_ := by
  intro u_ v_ h
  obtain ⟨a, b⟩ := u_
  obtain ⟨a', b'⟩ := v_
  simp [nz_lit, nz1_lit, nz_agg, nz_sl, nz1_sl, encLI] at h
  first | (simp [h]; done) | (obtain ⟨⟩ := h; simp_all; done) | simp_all
@[simp] theorem c19_fn (a : List Int) (b : List Int) : c19.fn [.sl false 1 (.lit (.int .i64 0)) (ML dI a), .sl false 1 (.lit (.int .i64 0)) (ML dI b)] [] = some ((fun (a : List Int) (b : List Int) => a.length ≤ 1099511627776 ∧ b.length ≤ 1099511627776) a b, (fun (a : List Int) (b : List Int) => (dB (decide (a = b)) : D)) a b, (fun (a : List Int) (b : List Int) => []) a b) :=
  mkCon_fn (fun x y h _ => c19_inj x y h) ((a, b) : (List Int) × (List Int)) (by simp [nz, nz1, ML_nil, encLI]) rfl
@[simp] theorem c19_fn1 (s_a : Nat) (z_a : D) (b : List Int) : c19.fn [.sl false s_a z_a [], .sl false 1 (.lit (.int .i64 0)) (ML dI b)] [] = some ((fun (a : List Int) (b : List Int) => a.length ≤ 1099511627776 ∧ b.length ≤ 1099511627776) [] b, (fun (a : List Int) (b : List Int) => (dB (decide (a = b)) : D)) [] b, (fun (a : List Int) (b : List Int) => []) [] b) :=
  mkCon_fn (fun x y h _ => c19_inj x y h) (([], b) : (List Int) × (List Int)) (by simp [nz, nz1, ML_nil, encLI]) rfl
@[simp] theorem c19_fn2 (a : List Int) (s_b : Nat) (z_b : D) : c19.fn [.sl false 1 (.lit (.int .i64 0)) (ML dI a), .sl false s_b z_b []] [] = some ((fun (a : List Int) (b : List Int) => a.length ≤ 1099511627776 ∧ b.length ≤ 1099511627776) a [], (fun (a : List Int) (b : List Int) => (dB (decide (a = b)) : D)) a [], (fun (a : List Int) (b : List Int) => []) a []) :=
  mkCon_fn (fun x y h _ => c19_inj x y h) ((a, []) : (List Int) × (List Int)) (by simp [nz, nz1, ML_nil, encLI]) rfl
@[simp] theorem c19_fn3 (s_a : Nat) (z_a : D) (s_b : Nat) (z_b : D) : c19.fn [.sl false s_a z_a [], .sl false s_b z_b []] [] = some ((fun (a : List Int) (b : List Int) => a.length ≤ 1099511627776 ∧ b.length ≤ 1099511627776) [] [], (fun (a : List Int) (b : List Int) => (dB (decide (a = b)) : D)) [] [], (fun (a : List Int) (b : List Int) => []) [] []) :=
  mkCon_fn (fun x y h _ => c19_inj x y h) (([], []) : (List Int) × (List Int)) (by simp [nz, nz1, ML_nil, encLI]) rfl
theorem c19_pc (a : List Int) (b : List Int) (hpre : a.length ≤ 1099511627776 ∧ b.length ≤ 1099511627776) : PCo Try.prog 19 [encLI a, encLI b] (Tab.of []) (dB (decide (a = b))) (Tab.of []) := by
  refine pco_of_run [] (E := ⟨[], [], []⟩) (m := false) (base := 0) Env.ok_nil G_ok mix 300 6 Try.func19 (by kernel_rfl) rfl (by kernel_rfl) (by kernel_rfl) rfl ?_
  simp [Try.f19]
  obtain ⟨pre1, pre2⟩ := hpre
  refine ⟨fun h => ?_, fun h => by intro e; subst e; exact absurd rfl h⟩
  refine loop_inv (fun p : Nat => p ≤ a.length ∧ a.take p = b.take p) (fun p => [(0, encLI a), (1, encLI b), (5, dI p)]) (fun _ => []) 1 (fun p => a.length - p) 0 100 (by simp) (by simp) (by simp) ?_
  intro p ⟨hp, hi⟩
  simp
  refine ⟨fun hlt => ⟨by omega, fun h2 => ⟨by omega, Again.mk (p + 1) ⟨by omega, take_eq_step hi (by omega) (by omega) h2⟩ (by simp) (by first | omega | (simp; omega))⟩, fun h2 => by intro e; subst e; exact absurd rfl h2⟩, fun hge => ?_⟩
  exact take_eq_full hi (by omega) (by omega)
theorem c19_ok : c19.ok Try.prog := mkCon_ok fun ⟨a, b⟩ hpre => c19_pc a b hpre
def okS (l : List Int) : Prop := ∀ x ∈ l, 0 ≤ x ∧ x ≤ 16581375
theorem okS_nil : okS [] := by simp [okS]
theorem okS_snoc {l : List Int} {x : Int} (h : okS l) (hx : 0 ≤ x ∧ x ≤ 16581375) : okS (l ++ [x]) := by
  intro y hy
  rcases List.mem_append.1 hy with hy | hy
  · exact h y hy
  · simp at hy; rw [hy]; exact hx
theorem okN_S {l : List Int} (h : okS l) : okN l := fun x hx => by have := h x hx; omega
theorem okBy_enc {l : List Int} (h : okN l) : okBy (encAll l) := by
  have e : encAll l = [] ++ flatU l := enc_flat h []
  rw [e]
  intro y hy
  simp only [List.nil_append, flatU, List.mem_flatMap] at hy
  obtain ⟨x, _, hx⟩ := hy
  exact okBy_uv _ _ y hx
theorem mul3 {a b c : Int} (ha : 0 ≤ a ∧ a ≤ 255) (hb : 0 ≤ b ∧ b ≤ 255) (hc : 0 ≤ c ∧ c ≤ 255) : (0 ≤ a * b ∧ a * b ≤ 65025) ∧ 0 ≤ a * b * c ∧ a * b * c ≤ 16581375 := by
  have h1 := Int.mul_nonneg ha.1 hb.1
  have h2 := Int.mul_le_mul ha.2 hb.2 hb.1 (by omega)
  have h3 := Int.mul_nonneg h1 hc.1
  have h4 := Int.mul_le_mul (show a * b ≤ 65025 by omega) hc.2 hc.1 (by omega)
  omega
/-- loop.example/g03007/laws.FnByteStrings -/
theorem law4 (l : List Int) (wl : wfLU l) : PCo Try.prog 4 [encLU l] (Tab.of []) (dB true) (Tab.of []) := by
  refine pco_of_run [] (E := ⟨[c6, c10, c13, c14f, c15f, c16, c17, c18, c19], [], []⟩) (m := false) (base := 0) (Env.ok_cons c6_ok (Env.ok_cons c10_ok (Env.ok_cons c13_ok (Env.ok_cons c14f_ok (Env.ok_cons c15f_ok (Env.ok_cons c16_ok (Env.ok_cons c17_ok (Env.ok_cons c18_ok (Env.ok_cons c19_ok Env.ok_nil))))))))) G_ok mix 400 6 Try.func4 (by kernel_rfl) rfl (by kernel_rfl) (by kernel_rfl) rfl ?_
  have hl : l.length ≤ maxLen := wl.1
  by_cases hbig : 1048576 < l.length
  · simp [Try.f4, hbig]
  · have hp : l.length ≤ 2097152 := by omega
    have hlb : ∀ x ∈ l, 0 ≤ x ∧ x ≤ 255 := fun x hx => by have := wl.2 x hx; simpa [inR] using this
    have b1 := v13_ok l hp
    have h1 := c13_fn l
    generalize v13 l = X at *
    obtain ⟨b, d⟩ := X
    simp only at b1 h1
    obtain ⟨b11, b12, b13, b14⟩ := b1
    obtain ⟨r1, r2⟩ := rb_app (b := b) (d := d) (by omega)
    have hA : ∀ x ∈ mAppB b d, 0 ≤ x ∧ x ≤ 255 := okBy_app (okBy_put b12 _) b14
    have hAl : (mAppB b d).length ≤ 13 := by
      have := mPutU_len b d.length
      simp only [mAppB, List.length_append]; omega
    simp (config := {maxSteps := 3000000}) [Try.f4, hbig, h1, -c13_fn, r1, r2]
    repeat' (with_reducible first | apply And.intro | intro _)
    all_goals try (first | omega | assumption | (simp; done) | (simp only [below_eq, Int.reduceLT]; omega))
    all_goals try (first | exact (hA _ (by assumption)).1 | exact (hA _ (by assumption)).2)
    refine loop_inv (fun p : Nat × List Int => p.1 ≤ 5 ∧ p.2.length = p.1 ∧ okS p.2) (fun p => [(0, encLU l), (12, .own (0, 1) 1 0 p.2.length), (13, dI p.1)]) (fun p => [((0, 1), .arr false 1 (dI 0) (ML dI p.2))]) 2 (fun p => 6 - p.1) (0, []) 400 (by simp) (by simp [okS_nil]) (by simp) ?_
    rintro ⟨p, q⟩ ⟨hp5, hq, hok⟩
    simp only at hp5 hq hok
    have a0 := mAt_bd (i := 0) (by omega) hlb
    have a1 := mAt_bd (i := (p : Int) + 1) (by omega) hlb
    have a2 := mAt_bd (i := (p : Int) + 2) (by omega) hlb
    have a3 := mAt_bd (i := (p : Int) + 3) (by omega) hlb
    obtain ⟨m1, m2⟩ := mul3 a1 a2 a3
    have hap := okS_snoc hok m2
    have hN := okN_S hok
    obtain ⟨g1, g2⟩ := dec_enc_all hN (by omega)
    have hEb : ∀ x ∈ encAll q, 0 ≤ x ∧ x ≤ 255 := okBy_enc hN
    have hEl := encAll_len q q.length (Nat.le_refl _)
    rw [List.take_length] at hEl
    have hm6 := Int.tmod_nonneg 6 a0.1
    have hm7 := Int.tmod_lt_of_pos (mAt l 0) (show (0 : Int) < 6 by omega)
    simp (config := {maxSteps := 3000000}) [hbig, g1, g2]
    refine ⟨⟨by omega, hlb⟩, fun h => ?_, fun h => ?_⟩
    · skip
      repeat' (with_reducible first | apply And.intro | intro _)
      all_goals try (first | omega | assumption | (simp; done) | (simp only [below_eq, Int.reduceLT]; omega))
      all_goals try (first | exact (hlb _ (by assumption)).1 | exact (hlb _ (by assumption)).2)
      exact Again.mk (p + 1, q ++ [mAt l ((p : Int) + 1) * mAt l ((p : Int) + 2) * mAt l ((p : Int) + 3)]) ⟨by simp; omega, by simp; omega, hap⟩ (by simp) (by simp; omega)
    · skip
      repeat' (with_reducible first | apply And.intro | intro _)
      all_goals try (first | omega | assumption | (simp; done) | (simp only [below_eq, Int.reduceLT]; omega))
      all_goals first | exact (hEb _ (by assumption)).1 | exact (hEb _ (by assumption)).2 | omega | trace_state
theorem law4_pc (D0 : D) (h0 : Sh G 9 22 D0) : PC Try.prog 4 [D0] (dB true) [] := by
  obtain ⟨l, rfl, wl⟩ := sh22 (n := 7) h0
  exact law4 l wl

end Go.Proofs.Ytdbhfkbfajljpaa
