/- Contracts of the functions that the laws run. -/
import Derived.Test.YtdbhfkbfajljpaahelpA
import Derived.Test.Ytdbhfkbfajljpaabits
import Derived.Test.YtdbhfkbfajljpaaEngB
namespace Go.Proofs.Ytdbhfkbfajljpaa
open Go Go.Eng
set_option linter.unusedSimpArgs false
set_option linter.unusedVariables false
set_option maxRecDepth 10000
set_option maxHeartbeats 1000000
/-- slices.Clone[[]byt -/
noncomputable def c35 : Con := mkCon 35 false (α := (List Int)) (fun x => (fun (l : List Int) => [encLU l]) x) (fun _ => []) (fun x => (fun (l : List Int) => l.length ≤ 1073741824) x) (fun x => (fun (l : List Int) => (.own (0, 1) 1 0 l.length : D)) x) (fun x => (fun (l : List Int) => [((0, 1), .arr false 1 (dU 0) (ML dU l))]) x)
@[simp] theorem c35_f : c35.f = 35 := rfl
@[simp] theorem c35_own : c35.own = false := rfl
theorem c35_inj : ∀ u_ v_ : (List Int), ((fun x => (fun (l : List Int) => [encLU l]) x) u_).map nz = ((fun x => (fun (l : List Int) => [encLU l]) x) v_).map nz → u_ = v_ := by
  intro u_ v_ h
  obtain l := u_
  obtain l' := v_
  simp [nz_lit, nz1_lit, nz_agg, nz_sl, nz1_sl, encLU] at h
  first | (simp [h]; done) | (obtain ⟨⟩ := h; simp_all; done) | simp_all
@[simp] theorem c35_fn (l : List Int) : c35.fn [.sl false 1 (.lit (.int .u8 0)) (ML dU l)] [] = some ((fun (l : List Int) => l.length ≤ 1073741824) l, (fun (l : List Int) => (.own (0, 1) 1 0 l.length : D)) l, (fun (l : List Int) => [((0, 1), .arr false 1 (dU 0) (ML dU l))]) l) :=
  mkCon_fn (fun x y h _ => c35_inj x y h) (l : (List Int)) (by simp [nz, nz1, ML_nil, encLU]) rfl
@[simp] theorem c35_fn1 (s_l : Nat) (z_l : D) : c35.fn [.sl false s_l z_l []] [] = some ((fun (l : List Int) => l.length ≤ 1073741824) [], (fun (l : List Int) => (.own (0, 1) 1 0 l.length : D)) [], (fun (l : List Int) => [((0, 1), .arr false 1 (dU 0) (ML dU l))]) []) :=
  mkCon_fn (fun x y h _ => c35_inj x y h) ([] : (List Int)) (by simp [nz, nz1, ML_nil, encLU]) rfl
theorem c35_pc (l : List Int) (hpre : l.length ≤ 1073741824) : PCo Try.prog 35 [encLU l] (Tab.of []) (.own (0, 1) 1 0 l.length) (Tab.of [((0, 1), .arr false 1 (dU 0) (ML dU l))]) := by
  by_cases hl : l = []
  · subst hl
    show PCo Try.prog 35 [.sl false 1 (dU 0) []] Tab.nil (.own (0, 1) 1 0 0) (Tab.of [((0, 1), .arr false 1 (dU 0) [])])
    refine pco_slice fun a cap => ?_
    cases a with
    | none =>
      refine pc_ghost (s' := 0) (z' := .any) ?_
      refine pco_of_run [] (tin := []) (E := ⟨[], [], []⟩) (m := false) (base := 0) Env.ok_nil G_ok mix 300 6 Try.func35 (by kernel_rfl) rfl (by kernel_rfl) (by kernel_rfl) rfl ?_
      simp [Try.f35]
    | some q =>
      refine pco_of_run [] (tin := []) (E := ⟨[], [], []⟩) (m := false) (base := 0) Env.ok_nil G_ok mix 300 6 Try.func35 (by kernel_rfl) rfl (by kernel_rfl) (by kernel_rfl) rfl ?_
      simp [Try.f35]
  · refine pco_of_run [] (E := ⟨[], [], []⟩) (m := false) (base := 0) Env.ok_nil G_ok mix 300 6 Try.func35 (by kernel_rfl) rfl (by kernel_rfl) (by kernel_rfl) rfl ?_
    simp [Try.f35, -nilS, nilS_ML hl]
    omega
theorem c35_ok : c35.ok Try.prog := mkCon_ok fun l hpre => c35_pc l hpre
noncomputable def hiB (m : Int) : Int := IntKind.u8.wrap (orK .i64 (andK .i64 m 127) 128)
theorem shr7 (m : Int) : shrK .i64 m 7 = m.fdiv 128 := by rw [shrK_eq]; rfl
noncomputable def uv : Nat → Int → List Int
  | 0, m => [IntKind.u8.wrap m]
  | f + 1, m => if 127 < m then hiB m :: uv f (m.fdiv 128) else [IntKind.u8.wrap m]
theorem uv_len : ∀ (f : Nat) (m : Int), (uv f m).length ≤ f + 1
  | 0, m => by simp [uv]
  | f + 1, m => by
    simp only [uv]; split
    · have := uv_len f (m.fdiv 128); simp; omega
    · simp
noncomputable def mPutU (l : List Int) (n : Int) : List Int := if mIn n 0 1000000000000 then l ++ uv 5 n else l
theorem mPutU_len (l : List Int) (n : Int) : (mPutU l n).length ≤ l.length + 6 := by
  have := uv_len 5 n
  simp only [mPutU]; split <;> simp; omega
theorem fdiv_bd {m : Int} {f : Nat} (h : 0 ≤ m) (h2 : m < 128 ^ (f + 2)) : 0 ≤ m.fdiv 128 ∧ m.fdiv 128 < 128 ^ (f + 1) := by
  rw [Int.fdiv_eq_ediv_of_nonneg _ (by omega)]
  refine ⟨Int.ediv_nonneg h (by omega), Int.ediv_lt_of_lt_mul (by omega) ?_⟩
  rw [Int.pow_succ] at h2; exact h2
/-- loop.example/g03007/impl.putUvarint -/
noncomputable def c34 : Con := mkCon 34 true (α := (List Int) × Int) (fun x => (fun (l : List Int) (n : Int) => ([.own (0, 0) 1 0 l.length, dI n] : List D)) x.1 x.2) (fun x => (fun (l : List Int) (n : Int) => ([((0, 0), .arr false 1 (dU 0) (ML dU l))] : List (Nm × OO))) x.1 x.2) (fun x => (fun (l : List Int) (n : Int) => l.length ≤ 1099511627776) x.1 x.2) (fun x => (fun (l : List Int) (n : Int) => (.own (0, 1) 1 0 (mPutU l n).length : D)) x.1 x.2) (fun x => (fun (l : List Int) (n : Int) => ([((0, 1), .arr false 1 (dU 0) (ML dU (mPutU l n)))] : List (Nm × OO))) x.1 x.2)
@[simp] theorem c34_f : c34.f = 34 := rfl
@[simp] theorem c34_own : c34.own = true := rfl
theorem c34_inj : ∀ u_ v_ : (List Int) × Int, ((fun x => (fun (l : List Int) (n : Int) => ([.own (0, 0) 1 0 l.length, dI n] : List D)) x.1 x.2) u_).map nz = ((fun x => (fun (l : List Int) (n : Int) => ([.own (0, 0) 1 0 l.length, dI n] : List D)) x.1 x.2) v_).map nz → (fun x => (fun (l : List Int) (n : Int) => ([((0, 0), .arr false 1 (dU 0) (ML dU l))] : List (Nm × OO))) x.1 x.2) u_ = (fun x => (fun (l : List Int) (n : Int) => ([((0, 0), .arr false 1 (dU 0) (ML dU l))] : List (Nm × OO))) x.1 x.2) v_ → u_ = v_ := by
  intro u_ v_ h h2_
  obtain ⟨l, n⟩ := u_
  obtain ⟨l', n'⟩ := v_
  simp [nz_lit, nz1_lit, nz_agg, nz_sl, nz1_sl, nz_sx, nz_el, nz1_el, nz_own, nz1_own, nz_ptr, nz_fn, nz_iface] at h h2_
  first | (simp [h, h2_]; done) | (obtain ⟨h3_, h4_⟩ := List.append_inj h2_ h.1; simp_all; done) | simp_all | grind
@[simp] theorem c34_fn (l : List Int) (n : Int) : c34.fn ([.own (0, 0) 1 0 l.length, dI n]) ([((0, 0), .arr false 1 (dU 0) (ML dU l))]) = some (l.length ≤ 1099511627776, .own (0, 1) 1 0 (mPutU l n).length, [((0, 1), .arr false 1 (dU 0) (ML dU (mPutU l n)))]) :=
  mkCon_fn c34_inj ((l, n) : (List Int) × Int) rfl rfl
theorem c34_pc (l : List Int) (n : Int) (hpre : l.length ≤ 1099511627776) : PCo Try.prog 34 ([.own (0, 0) 1 0 l.length, dI n]) (Tab.of ([((0, 0), .arr false 1 (dU 0) (ML dU l))])) (.own (0, 1) 1 0 (mPutU l n).length) (Tab.of ([((0, 1), .arr false 1 (dU 0) (ML dU (mPutU l n)))])) := by
  refine pco_of_run [] (E := ⟨[c36], [], []⟩) (m := false) (base := 0) (Env.ok_cons c36_ok Env.ok_nil) G_ok mix 300 6 Try.func34 (by kernel_rfl) rfl (by kernel_rfl) (by kernel_rfl) rfl ?_
  cases h : mIn n 0 1000000000000 with
  | false =>
    have he : mPutU l n = l := by simp [mPutU, h]
    simp [Try.f34, h, he]
  | true =>
  simp [Try.f34, h]
  refine loop_inv (fun q : Nat × List Int × Int => q.1 ≤ 5 ∧ 0 ≤ q.2.2 ∧ q.2.2 < 128 ^ (q.1 + 1) ∧ l ++ uv 5 n = q.2.1 ++ uv q.1 q.2.2 ∧ q.2.1.length + q.1 ≤ l.length + 5) (fun q => [(0, .own (0, 1) 1 0 q.2.1.length), (1, dI q.2.2)]) (fun q => [((0, 1), .arr false 1 (dU 0) (ML dU q.2.1))]) 2 (fun q => q.1) (5, l, n) 400 (by simp) (by have := mIn_iff.1 h; simp; omega) (by simp) ?_
  intro ⟨f, a, m⟩ ⟨hf, hm, hm2, he, hl⟩
  obtain ⟨fA, hA, hA2⟩ := exAnd
  obtain ⟨fO, hO, hO2⟩ := exOr
  obtain ⟨fS, hS, hS2⟩ := exShr
  have hh : IntKind.u8.wrap (fO .i64 (fA .i64 m 127) 128) = hiB m := by rw [hO2, hA2]; rfl
  have hs7 : fS .i64 m 7 = m.fdiv 128 := by rw [hS2, shr7]
  simp [-binI, hA, hO, hS, bAdd, bSub, bMul, bQuo, bRem, bEql, bNeq, bLss, bLeq, bGtr, bGeq, hh, hs7]
  simp only at hf hm hm2 he hl
  refine ⟨fun h1 => ⟨by omega, ?_⟩, fun h1 => ⟨by omega, ?_⟩⟩
  · cases f with
    | zero => omega
    | succ f =>
      have hb := fdiv_bd hm hm2
      have hu : uv (f + 1) m = hiB m :: uv f (m.fdiv 128) := by rw [uv, if_pos h1]
      rw [hu] at he
      refine Again.mk (f, a ++ [hiB m], m.fdiv 128) ⟨by simp; omega, by simp; omega, by simpa using hb.2, by rw [he]; simp, by simp; omega⟩ ?_ (by first | omega | (simp; omega))
      simp
  · have hu : uv f m = [IntKind.u8.wrap m] := by cases f <;> simp [uv]; omega
    rw [hu] at he
    have he2 : mPutU l n = a ++ [IntKind.u8.wrap m] := by rw [mPutU, if_pos h, he]
    rw [he2]; simp
theorem c34_ok : c34.ok Try.prog := mkCon_ok fun ⟨l, n⟩ hpre => c34_pc l n hpre
/-- loop.example/g03007/spec.AppendUvarint -/
noncomputable def c39 : Con := mkCon 39 false (α := (List Int) × Int) (fun x => (fun (l : List Int) (n : Int) => [encLU l, dI n]) x.1 x.2) (fun _ => []) (fun x => (fun (l : List Int) (n : Int) => l.length ≤ 1073741823) x.1 x.2) (fun x => (fun (l : List Int) (n : Int) => (.own (0, 1) 1 0 (mPutU l n).length : D)) x.1 x.2) (fun x => (fun (l : List Int) (n : Int) => [((0, 1), .arr false 1 (dU 0) (ML dU (mPutU l n)))]) x.1 x.2)
@[simp] theorem c39_f : c39.f = 39 := rfl
@[simp] theorem c39_own : c39.own = false := rfl
theorem c39_inj : ∀ u_ v_ : (List Int) × Int, ((fun x => (fun (l : List Int) (n : Int) => [encLU l, dI n]) x.1 x.2) u_).map nz = ((fun x => (fun (l : List Int) (n : Int) => [encLU l, dI n]) x.1 x.2) v_).map nz → u_ = v_ := by
  intro u_ v_ h
  obtain ⟨l, n⟩ := u_
  obtain ⟨l', n'⟩ := v_
  simp [nz_lit, nz1_lit, nz_agg, nz_sl, nz1_sl, encLU] at h
  first | (simp [h]; done) | (obtain ⟨⟩ := h; simp_all; done) | simp_all
@[simp] theorem c39_fn (l : List Int) (n : Int) : c39.fn [.sl false 1 (.lit (.int .u8 0)) (ML dU l), .lit (.int .i64 n)] [] = some ((fun (l : List Int) (n : Int) => l.length ≤ 1073741823) l n, (fun (l : List Int) (n : Int) => (.own (0, 1) 1 0 (mPutU l n).length : D)) l n, (fun (l : List Int) (n : Int) => [((0, 1), .arr false 1 (dU 0) (ML dU (mPutU l n)))]) l n) :=
  mkCon_fn (fun x y h _ => c39_inj x y h) ((l, n) : (List Int) × Int) (by simp [nz, nz1, ML_nil, encLU]) rfl
@[simp] theorem c39_fn1 (s_l : Nat) (z_l : D) (n : Int) : c39.fn [.sl false s_l z_l [], .lit (.int .i64 n)] [] = some ((fun (l : List Int) (n : Int) => l.length ≤ 1073741823) [] n, (fun (l : List Int) (n : Int) => (.own (0, 1) 1 0 (mPutU l n).length : D)) [] n, (fun (l : List Int) (n : Int) => [((0, 1), .arr false 1 (dU 0) (ML dU (mPutU l n)))]) [] n) :=
  mkCon_fn (fun x y h _ => c39_inj x y h) (([], n) : (List Int) × Int) (by simp [nz, nz1, ML_nil, encLU]) rfl
theorem c39_pc (l : List Int) (n : Int) (hpre : l.length ≤ 1073741823) : PCo Try.prog 39 [encLU l, dI n] (Tab.of []) (.own (0, 1) 1 0 (mPutU l n).length) (Tab.of [((0, 1), .arr false 1 (dU 0) (ML dU (mPutU l n)))]) := by
  refine pco_of_run [] (E := ⟨[c56], [], []⟩) (m := false) (base := 0) (Env.ok_cons c56_ok Env.ok_nil) G_ok mix 300 6 Try.func39 (by kernel_rfl) rfl (by kernel_rfl) (by kernel_rfl) rfl ?_
  cases h : mIn n 0 1000000000000 with
  | false =>
    have he : mPutU l n = l := by simp [mPutU, h]
    simp [Try.f39, h, he]
    omega
  | true =>
  simp [Try.f39, h]
  refine ⟨by omega, ?_⟩
  refine loop_inv (fun q : Nat × List Int × Int => q.1 ≤ 5 ∧ 0 ≤ q.2.2 ∧ q.2.2 < 128 ^ (q.1 + 1) ∧ l ++ uv 5 n = q.2.1 ++ uv q.1 q.2.2 ∧ q.2.1.length + q.1 ≤ l.length + 5) (fun q => [(5, .own (0, 1) 1 0 q.2.1.length), (1, dI q.2.2)]) (fun q => [((0, 1), .arr false 1 (dU 0) (ML dU q.2.1))]) 2 (fun q => q.1) (5, l, n) 400 (by simp) (by have := mIn_iff.1 h; simp; omega) (by simp) ?_
  intro ⟨f, a, m⟩ ⟨hf, hm, hm2, he, hl⟩
  obtain ⟨fA, hA, hA2⟩ := exAnd
  obtain ⟨fO, hO, hO2⟩ := exOr
  obtain ⟨fS, hS, hS2⟩ := exShr
  have hh : IntKind.u8.wrap (fO .i64 (fA .i64 m 127) 128) = hiB m := by rw [hO2, hA2]; rfl
  have hs7 : fS .i64 m 7 = m.fdiv 128 := by rw [hS2, shr7]
  simp [-binI, hA, hO, hS, bAdd, bSub, bMul, bQuo, bRem, bEql, bNeq, bLss, bLeq, bGtr, bGeq, hh, hs7]
  simp only at hf hm hm2 he hl
  refine ⟨fun h1 => ⟨by omega, ?_⟩, fun h1 => ⟨by omega, ?_⟩⟩
  · cases f with
    | zero => omega
    | succ f =>
      have hb := fdiv_bd hm hm2
      have hu : uv (f + 1) m = hiB m :: uv f (m.fdiv 128) := by rw [uv, if_pos h1]
      rw [hu] at he
      refine Again.mk (f, a ++ [hiB m], m.fdiv 128) ⟨by simp; omega, by simp; omega, by simpa using hb.2, by rw [he]; simp, by simp; omega⟩ ?_ (by first | omega | (simp; omega))
      simp
  · have hu : uv f m = [IntKind.u8.wrap m] := by cases f <;> simp [uv]; omega
    rw [hu] at he
    have he2 : mPutU l n = a ++ [IntKind.u8.wrap m] := by rw [mPutU, if_pos h, he]
    rw [he2]; simp
theorem c39_ok : c39.ok Try.prog := mkCon_ok fun ⟨l, n⟩ hpre => c39_pc l n hpre
/-- loop.example/g03007/impl.AppendUvarint -/
noncomputable def c8 : Con := mkCon 8 false (α := (List Int) × Int) (fun x => (fun (l : List Int) (n : Int) => [encLU l, dI n]) x.1 x.2) (fun _ => []) (fun x => (fun (l : List Int) (n : Int) => l.length ≤ 1073741823) x.1 x.2) (fun x => (fun (l : List Int) (n : Int) => (.own (0, 1) 1 0 (mPutU l n).length : D)) x.1 x.2) (fun x => (fun (l : List Int) (n : Int) => [((0, 1), .arr false 1 (dU 0) (ML dU (mPutU l n)))]) x.1 x.2)
@[simp] theorem c8_f : c8.f = 8 := rfl
@[simp] theorem c8_own : c8.own = false := rfl
theorem c8_inj : ∀ u_ v_ : (List Int) × Int, ((fun x => (fun (l : List Int) (n : Int) => [encLU l, dI n]) x.1 x.2) u_).map nz = ((fun x => (fun (l : List Int) (n : Int) => [encLU l, dI n]) x.1 x.2) v_).map nz → u_ = v_ := by
  intro u_ v_ h
  obtain ⟨l, n⟩ := u_
  obtain ⟨l', n'⟩ := v_
  simp [nz_lit, nz1_lit, nz_agg, nz_sl, nz1_sl, encLU] at h
  first | (simp [h]; done) | (obtain ⟨⟩ := h; simp_all; done) | simp_all
@[simp] theorem c8_fn (l : List Int) (n : Int) : c8.fn [.sl false 1 (.lit (.int .u8 0)) (ML dU l), .lit (.int .i64 n)] [] = some ((fun (l : List Int) (n : Int) => l.length ≤ 1073741823) l n, (fun (l : List Int) (n : Int) => (.own (0, 1) 1 0 (mPutU l n).length : D)) l n, (fun (l : List Int) (n : Int) => [((0, 1), .arr false 1 (dU 0) (ML dU (mPutU l n)))]) l n) :=
  mkCon_fn (fun x y h _ => c8_inj x y h) ((l, n) : (List Int) × Int) (by simp [nz, nz1, ML_nil, encLU]) rfl
@[simp] theorem c8_fn1 (s_l : Nat) (z_l : D) (n : Int) : c8.fn [.sl false s_l z_l [], .lit (.int .i64 n)] [] = some ((fun (l : List Int) (n : Int) => l.length ≤ 1073741823) [] n, (fun (l : List Int) (n : Int) => (.own (0, 1) 1 0 (mPutU l n).length : D)) [] n, (fun (l : List Int) (n : Int) => [((0, 1), .arr false 1 (dU 0) (ML dU (mPutU l n)))]) [] n) :=
  mkCon_fn (fun x y h _ => c8_inj x y h) (([], n) : (List Int) × Int) (by simp [nz, nz1, ML_nil, encLU]) rfl
theorem c8_pc (l : List Int) (n : Int) (hpre : l.length ≤ 1073741823) : PCo Try.prog 8 [encLU l, dI n] (Tab.of []) (.own (0, 1) 1 0 (mPutU l n).length) (Tab.of [((0, 1), .arr false 1 (dU 0) (ML dU (mPutU l n)))]) := by
  refine pco_of_run [] (E := ⟨[c34, c35], [], []⟩) (m := false) (base := 0) (Env.ok_cons c34_ok (Env.ok_cons c35_ok Env.ok_nil)) G_ok mix 300 6 Try.func8 (by kernel_rfl) rfl (by kernel_rfl) (by kernel_rfl) rfl ?_
  simp [Try.f8]
  omega
theorem c8_ok : c8.ok Try.prog := mkCon_ok fun ⟨l, n⟩ hpre => c8_pc l n hpre
noncomputable def mAppB (l d : List Int) : List Int := mPutU l d.length ++ d
/-- loop.example/g03007/impl.AppendBytes -/
noncomputable def c14 : Con := mkCon 14 false (α := (List Int) × (List Int)) (fun x => (fun (l : List Int) (d : List Int) => [encLU l, encLU d]) x.1 x.2) (fun _ => []) (fun x => (fun (l : List Int) (d : List Int) => l.length ≤ 1073741823 ∧ d.length ≤ 1073741823) x.1 x.2) (fun x => (fun (l : List Int) (d : List Int) => (.own (0, 1) 1 0 (mAppB l d).length : D)) x.1 x.2) (fun x => (fun (l : List Int) (d : List Int) => [((0, 1), .arr false 1 (dU 0) (ML dU (mAppB l d)))]) x.1 x.2)
@[simp] theorem c14_f : c14.f = 14 := rfl
@[simp] theorem c14_own : c14.own = false := rfl
theorem c14_inj : ∀ u_ v_ : (List Int) × (List Int), ((fun x => (fun (l : List Int) (d : List Int) => [encLU l, encLU d]) x.1 x.2) u_).map nz = ((fun x => (fun (l : List Int) (d : List Int) => [encLU l, encLU d]) x.1 x.2) v_).map nz → u_ = v_ := by
  intro u_ v_ h
  obtain ⟨l, d⟩ := u_
  obtain ⟨l', d'⟩ := v_
  simp [nz_lit, nz1_lit, nz_agg, nz_sl, nz1_sl, encLU] at h
  first | (simp [h]; done) | (obtain ⟨⟩ := h; simp_all; done) | simp_all
@[simp] theorem c14_fn (l : List Int) (d : List Int) : c14.fn [.sl false 1 (.lit (.int .u8 0)) (ML dU l), .sl false 1 (.lit (.int .u8 0)) (ML dU d)] [] = some ((fun (l : List Int) (d : List Int) => l.length ≤ 1073741823 ∧ d.length ≤ 1073741823) l d, (fun (l : List Int) (d : List Int) => (.own (0, 1) 1 0 (mAppB l d).length : D)) l d, (fun (l : List Int) (d : List Int) => [((0, 1), .arr false 1 (dU 0) (ML dU (mAppB l d)))]) l d) :=
  mkCon_fn (fun x y h _ => c14_inj x y h) ((l, d) : (List Int) × (List Int)) (by simp [nz, nz1, ML_nil, encLU]) rfl
@[simp] theorem c14_fn1 (s_l : Nat) (z_l : D) (d : List Int) : c14.fn [.sl false s_l z_l [], .sl false 1 (.lit (.int .u8 0)) (ML dU d)] [] = some ((fun (l : List Int) (d : List Int) => l.length ≤ 1073741823 ∧ d.length ≤ 1073741823) [] d, (fun (l : List Int) (d : List Int) => (.own (0, 1) 1 0 (mAppB l d).length : D)) [] d, (fun (l : List Int) (d : List Int) => [((0, 1), .arr false 1 (dU 0) (ML dU (mAppB l d)))]) [] d) :=
  mkCon_fn (fun x y h _ => c14_inj x y h) (([], d) : (List Int) × (List Int)) (by simp [nz, nz1, ML_nil, encLU]) rfl
@[simp] theorem c14_fn2 (l : List Int) (s_d : Nat) (z_d : D) : c14.fn [.sl false 1 (.lit (.int .u8 0)) (ML dU l), .sl false s_d z_d []] [] = some ((fun (l : List Int) (d : List Int) => l.length ≤ 1073741823 ∧ d.length ≤ 1073741823) l [], (fun (l : List Int) (d : List Int) => (.own (0, 1) 1 0 (mAppB l d).length : D)) l [], (fun (l : List Int) (d : List Int) => [((0, 1), .arr false 1 (dU 0) (ML dU (mAppB l d)))]) l []) :=
  mkCon_fn (fun x y h _ => c14_inj x y h) ((l, []) : (List Int) × (List Int)) (by simp [nz, nz1, ML_nil, encLU]) rfl
@[simp] theorem c14_fn3 (s_l : Nat) (z_l : D) (s_d : Nat) (z_d : D) : c14.fn [.sl false s_l z_l [], .sl false s_d z_d []] [] = some ((fun (l : List Int) (d : List Int) => l.length ≤ 1073741823 ∧ d.length ≤ 1073741823) [] [], (fun (l : List Int) (d : List Int) => (.own (0, 1) 1 0 (mAppB l d).length : D)) [] [], (fun (l : List Int) (d : List Int) => [((0, 1), .arr false 1 (dU 0) (ML dU (mAppB l d)))]) [] []) :=
  mkCon_fn (fun x y h _ => c14_inj x y h) (([], []) : (List Int) × (List Int)) (by simp [nz, nz1, ML_nil, encLU]) rfl
theorem c14_pc (l : List Int) (d : List Int) (hpre : l.length ≤ 1073741823 ∧ d.length ≤ 1073741823) : PCo Try.prog 14 [encLU l, encLU d] (Tab.of []) (.own (0, 1) 1 0 (mAppB l d).length) (Tab.of [((0, 1), .arr false 1 (dU 0) (ML dU (mAppB l d)))]) := by
  refine pco_of_run [] (E := ⟨[c8], [], []⟩) (m := false) (base := 0) (Env.ok_cons c8_ok Env.ok_nil) G_ok mix 300 6 Try.func14 (by kernel_rfl) rfl (by kernel_rfl) (by kernel_rfl) rfl ?_
  simp [Try.f14]
  have hb := mPutU_len l d.length
  simp [mAppB]
  omega
theorem c14_ok : c14.ok Try.prog := mkCon_ok fun ⟨l, d⟩ hpre => c14_pc l d hpre
noncomputable def encAll (l : List Int) : List Int := l.foldl mPutU []
theorem encAll_at {l : List Int} {p : Nat} (h : p < l.length) : encAll (l.take (p + 1)) = mPutU (encAll (l.take p)) (l[p]?.getD 0) := foldl_at h
theorem encAll_len (l : List Int) : ∀ (p : Nat), p ≤ l.length → (encAll (l.take p)).length ≤ 6 * p
  | 0, _ => by simp [encAll]
  | p + 1, h => by
    rw [encAll_at (by omega)]
    have h1 := encAll_len l p (by omega)
    have h2 := mPutU_len (encAll (l.take p)) (l[p]?.getD 0)
    omega
/-- loop.example/g03007/impl.EncodeInts -/
noncomputable def c17 : Con := mkCon 17 false (α := (List Int)) (fun x => (fun (l : List Int) => [encLI l]) x) (fun _ => []) (fun x => (fun (l : List Int) => l.length ≤ 16777216) x) (fun x => (fun (l : List Int) => (.own (0, 1) 1 0 (encAll l).length : D)) x) (fun x => (fun (l : List Int) => [((0, 1), .arr false 1 (dU 0) (ML dU (encAll l)))]) x)
@[simp] theorem c17_f : c17.f = 17 := rfl
@[simp] theorem c17_own : c17.own = false := rfl
theorem c17_inj : ∀ u_ v_ : (List Int), ((fun x => (fun (l : List Int) => [encLI l]) x) u_).map nz = ((fun x => (fun (l : List Int) => [encLI l]) x) v_).map nz → u_ = v_ := by
  intro u_ v_ h
  obtain l := u_
  obtain l' := v_
  simp [nz_lit, nz1_lit, nz_agg, nz_sl, nz1_sl, encLI] at h
  first | (simp [h]; done) | (obtain ⟨⟩ := h; simp_all; done) | simp_all
@[simp] theorem c17_fn (l : List Int) : c17.fn [.sl false 1 (.lit (.int .i64 0)) (ML dI l)] [] = some ((fun (l : List Int) => l.length ≤ 16777216) l, (fun (l : List Int) => (.own (0, 1) 1 0 (encAll l).length : D)) l, (fun (l : List Int) => [((0, 1), .arr false 1 (dU 0) (ML dU (encAll l)))]) l) :=
  mkCon_fn (fun x y h _ => c17_inj x y h) (l : (List Int)) (by simp [nz, nz1, ML_nil, encLI]) rfl
@[simp] theorem c17_fn1 (s_l : Nat) (z_l : D) : c17.fn [.sl false s_l z_l []] [] = some ((fun (l : List Int) => l.length ≤ 16777216) [], (fun (l : List Int) => (.own (0, 1) 1 0 (encAll l).length : D)) [], (fun (l : List Int) => [((0, 1), .arr false 1 (dU 0) (ML dU (encAll l)))]) []) :=
  mkCon_fn (fun x y h _ => c17_inj x y h) ([] : (List Int)) (by simp [nz, nz1, ML_nil, encLI]) rfl
theorem c17_pc (l : List Int) (hpre : l.length ≤ 16777216) : PCo Try.prog 17 [encLI l] (Tab.of []) (.own (0, 1) 1 0 (encAll l).length) (Tab.of [((0, 1), .arr false 1 (dU 0) (ML dU (encAll l)))]) := by
  refine pco_of_run [] (E := ⟨[c34], [], []⟩) (m := false) (base := 0) (Env.ok_cons c34_ok Env.ok_nil) G_ok mix 300 6 Try.func17 (by kernel_rfl) rfl (by kernel_rfl) (by kernel_rfl) rfl ?_
  simp [Try.f17]
  refine loop_inv (fun p : Nat => p ≤ l.length) (fun p => [(3, .own (0, 1) 1 0 (encAll (l.take p)).length), (7, encLI l), (8, dI l.length), (9, dI p)]) (fun p => [((0, 1), .arr false 1 (dU 0) (ML dU (encAll (l.take p))))]) 2 (fun p => l.length - p) 0 400 (by simp) (by simp) (by simp [encAll]) ?_
  intro p hp
  simp
  have hb := encAll_len l p hp
  refine ⟨fun hlt => ?_, fun hge => by rw [List.take_of_length_le hge]; exact ⟨rfl, rfl⟩⟩
  have hs := encAll_at hlt
  repeat' (first | omega | refine And.intro ?_ ?_ | intro _)
  exact Again.mk (p + 1) (by omega) (by simp [hs]) (by first | omega | (simp; omega))
theorem c17_ok : c17.ok Try.prog := mkCon_ok fun l hpre => c17_pc l hpre
theorem hi0 : ∀ n : Fin 256, (IntKind.i64.wrap (BitVec.ofInt IntKind.i64.bits ((n.val : Nat) : Int) &&& BitVec.ofInt IntKind.i64.bits 128).toNat = 0) ↔ n.val < 128 := by decide +kernel
theorem hi_iff {x : Int} (h : 0 ≤ x ∧ x ≤ 255) : (andK .i64 x 128 = 0) ↔ x < 128 := by
  have := hi0 ⟨x.toNat, by omega⟩
  simp only [Int.toNat_of_nonneg h.1] at this
  rw [andK_eq, this]; omega
noncomputable def stepU (n x : Int) (k : Nat) : Int := orK .i64 n (shlK .i64 (andK .i64 x 127) (7 * (k : Int)))
noncomputable def rdU (b : List Int) (at_ : Int) : Nat → Nat → Int → Option (Int × Int)
  | 0, _, _ => none
  | f + 1, k, n => if (b.length : Int) ≤ at_ + k then none else if b[(at_ + k).toNat]?.getD 0 < 128 then (if (b[(at_ + k).toNat]?.getD 0 = 0 ∧ ¬ k = 0) ∨ 1000000000000 < stepU n (b[(at_ + k).toNat]?.getD 0) k then none else some (stepU n (b[(at_ + k).toNat]?.getD 0) k, at_ + k + 1)) else rdU b at_ f (k + 1) (stepU n (b[(at_ + k).toNat]?.getD 0) k)
noncomputable def mRead (b : List Int) (at_ : Int) : Option (Int × Int) := if at_ < 0 then none else rdU b at_ 6 0 0
@[simp] def rV (o : Option (Int × Int)) : D := .tup [dI (o.getD (0, 0)).1, dI (o.getD (0, 0)).2, dB o.isSome]
theorem rdU_end (b : List Int) (at_ : Int) (f k : Nat) (n : Int) (h : (b.length : Int) ≤ at_ + k) : rdU b at_ f k n = none := by
  cases f <;> simp [rdU]; omega
/-- loop.example/g03007/impl.ReadUvarint -/
noncomputable def c9 : Con := mkCon 9 false (α := (List Int) × Int) (fun x => (fun (b : List Int) (at_ : Int) => [encLU b, dI at_]) x.1 x.2) (fun _ => []) (fun x => (fun (b : List Int) (at_ : Int) => b.length ≤ 1099511627776 ∧ ∀ x ∈ b, 0 ≤ x ∧ x ≤ 255) x.1 x.2) (fun x => (fun (b : List Int) (at_ : Int) => (rV (mRead b at_) : D)) x.1 x.2) (fun x => (fun (b : List Int) (at_ : Int) => []) x.1 x.2)
@[simp] theorem c9_f : c9.f = 9 := rfl
@[simp] theorem c9_own : c9.own = false := rfl
theorem c9_inj : ∀ u_ v_ : (List Int) × Int, ((fun x => (fun (b : List Int) (at_ : Int) => [encLU b, dI at_]) x.1 x.2) u_).map nz = ((fun x => (fun (b : List Int) (at_ : Int) => [encLU b, dI at_]) x.1 x.2) v_).map nz → u_ = v_ := by
  intro u_ v_ h
  obtain ⟨b, at_⟩ := u_
  obtain ⟨b', at_'⟩ := v_
  simp [nz_lit, nz1_lit, nz_agg, nz_sl, nz1_sl, encLU] at h
  first | (simp [h]; done) | (obtain ⟨⟩ := h; simp_all; done) | simp_all
@[simp] theorem c9_fn (b : List Int) (at_ : Int) : c9.fn [.sl false 1 (.lit (.int .u8 0)) (ML dU b), .lit (.int .i64 at_)] [] = some ((fun (b : List Int) (at_ : Int) => b.length ≤ 1099511627776 ∧ ∀ x ∈ b, 0 ≤ x ∧ x ≤ 255) b at_, (fun (b : List Int) (at_ : Int) => (rV (mRead b at_) : D)) b at_, (fun (b : List Int) (at_ : Int) => []) b at_) :=
  mkCon_fn (fun x y h _ => c9_inj x y h) ((b, at_) : (List Int) × Int) (by simp [nz, nz1, ML_nil, encLU]) rfl
@[simp] theorem c9_fn1 (s_b : Nat) (z_b : D) (at_ : Int) : c9.fn [.sl false s_b z_b [], .lit (.int .i64 at_)] [] = some ((fun (b : List Int) (at_ : Int) => b.length ≤ 1099511627776 ∧ ∀ x ∈ b, 0 ≤ x ∧ x ≤ 255) [] at_, (fun (b : List Int) (at_ : Int) => (rV (mRead b at_) : D)) [] at_, (fun (b : List Int) (at_ : Int) => []) [] at_) :=
  mkCon_fn (fun x y h _ => c9_inj x y h) (([], at_) : (List Int) × Int) (by simp [nz, nz1, ML_nil, encLU]) rfl
theorem c9_pc (b : List Int) (at_ : Int) (hpre : b.length ≤ 1099511627776 ∧ ∀ x ∈ b, 0 ≤ x ∧ x ≤ 255) : PCo Try.prog 9 [encLU b, dI at_] (Tab.of []) (rV (mRead b at_)) (Tab.of []) := by
  refine pco_of_run [] (E := ⟨[c36, c37], [], []⟩) (m := false) (base := 0) (Env.ok_cons c36_ok (Env.ok_cons c37_ok Env.ok_nil)) G_ok mix 300 6 Try.func9 (by kernel_rfl) rfl (by kernel_rfl) (by kernel_rfl) rfl ?_
  obtain ⟨hp, hx⟩ := hpre
  cases h : mIn at_ 0 b.length with
  | false =>
    have hm : mRead b at_ = none := by
      simp only [mRead]; split
      · rfl
      · refine rdU_end _ _ _ _ _ ?_
        rw [← Bool.not_eq_true, mIn_iff] at h; simp; omega
    simp [Try.f9, h, hm]
  | true =>
  have hh := mIn_iff.1 h
  have hm : mRead b at_ = rdU b at_ 6 0 0 := by rw [mRead, if_neg (by omega)]
  simp [Try.f9, h]
  refine ⟨by omega, ?_⟩
  refine loop_inv (fun q : Nat × Int => (q.1 : Int) ≤ min (b.length - at_) 6 ∧ mRead b at_ = rdU b at_ (6 - q.1) q.1 q.2) (fun q => [(0, encLU b), (1, dI at_), (7, dI q.2), (20, dI (min (b.length - at_) 6)), (21, dI q.1)]) (fun _ => []) 1 (fun q => 6 - q.1) (0, 0) 400 (by simp) (by simp [hm]; omega) (by simp) ?_
  intro ⟨k, n⟩ ⟨hq, hi⟩
  simp only at hq hi
  simp [-binI, bAnd, bOr, bShl, bShr, bAdd, bSub, bMul, bQuo, bRem, bEql, bNeq, bLss, bLeq, bGtr, bGeq]
  refine ⟨fun hlt => ?_, fun hge => ?_⟩
  · have hb := hx _ (getD_mem (d := 0) (show (at_ + (k : Int)).toNat < b.length by omega))
    obtain ⟨f, hf⟩ : ∃ f, 6 - k = f + 1 := ⟨5 - k, by omega⟩
    rw [hf] at hi
    have hf2 : 6 - (k + 1) = f := by omega
    simp only [rdU] at hi
    rw [if_neg (by omega)] at hi
    have hs : stepU n (b[(at_ + (k : Int)).toNat]?.getD 0) k = orK .i64 n (shlK .i64 (andK .i64 (b[(at_ + (k : Int)).toNat]?.getD 0) 127) (7 * (k : Int))) := rfl
    simp only [hi_iff hb, ← hs]
    refine ⟨⟨by omega, by omega, by omega⟩, by omega, fun h1 => ?_, fun h1 => ?_⟩
    · rw [if_pos h1] at hi
      refine ⟨fun h2 => ?_, fun h2 h3 => ?_⟩
      · rw [if_pos (by rcases h2 with h2 | h2; exact .inl ⟨h2.1, by omega⟩; exact .inr h2)] at hi
        simp [hi]
      · rw [if_neg (by rintro (h4 | h4); exact h4.2 (h2 h4.1); omega)] at hi
        simp [hi]; omega
    · rw [if_neg h1] at hi
      exact ⟨by omega, Again.mk (k + 1, stepU n (b[(at_ + (k : Int)).toNat]?.getD 0) k) ⟨by simp; omega, by simp only [hf2]; exact hi⟩ (by simp [hs]) (by first | omega | (simp; omega))⟩
  · have : rdU b at_ (6 - k) k n = none := by
      by_cases h6 : k = 6
      · subst h6; rfl
      · exact rdU_end _ _ _ _ _ (by omega)
    simp [hi, this]
theorem c9_ok : c9.ok Try.prog := mkCon_ok fun ⟨b, at_⟩ hpre => c9_pc b at_ hpre
/-- loop.example/g03007/spec.ReadUvarint -/
noncomputable def c12 : Con := mkCon 12 false (α := (List Int) × Int) (fun x => (fun (b : List Int) (at_ : Int) => [encLU b, dI at_]) x.1 x.2) (fun _ => []) (fun x => (fun (b : List Int) (at_ : Int) => b.length ≤ 1099511627776 ∧ ∀ x ∈ b, 0 ≤ x ∧ x ≤ 255) x.1 x.2) (fun x => (fun (b : List Int) (at_ : Int) => (rV (mRead b at_) : D)) x.1 x.2) (fun x => (fun (b : List Int) (at_ : Int) => []) x.1 x.2)
@[simp] theorem c12_f : c12.f = 12 := rfl
@[simp] theorem c12_own : c12.own = false := rfl
theorem c12_inj : ∀ u_ v_ : (List Int) × Int, ((fun x => (fun (b : List Int) (at_ : Int) => [encLU b, dI at_]) x.1 x.2) u_).map nz = ((fun x => (fun (b : List Int) (at_ : Int) => [encLU b, dI at_]) x.1 x.2) v_).map nz → u_ = v_ := by
  intro u_ v_ h
  obtain ⟨b, at_⟩ := u_
  obtain ⟨b', at_'⟩ := v_
  simp [nz_lit, nz1_lit, nz_agg, nz_sl, nz1_sl, encLU] at h
  first | (simp [h]; done) | (obtain ⟨⟩ := h; simp_all; done) | simp_all
@[simp] theorem c12_fn (b : List Int) (at_ : Int) : c12.fn [.sl false 1 (.lit (.int .u8 0)) (ML dU b), .lit (.int .i64 at_)] [] = some ((fun (b : List Int) (at_ : Int) => b.length ≤ 1099511627776 ∧ ∀ x ∈ b, 0 ≤ x ∧ x ≤ 255) b at_, (fun (b : List Int) (at_ : Int) => (rV (mRead b at_) : D)) b at_, (fun (b : List Int) (at_ : Int) => []) b at_) :=
  mkCon_fn (fun x y h _ => c12_inj x y h) ((b, at_) : (List Int) × Int) (by simp [nz, nz1, ML_nil, encLU]) rfl
@[simp] theorem c12_fn1 (s_b : Nat) (z_b : D) (at_ : Int) : c12.fn [.sl false s_b z_b [], .lit (.int .i64 at_)] [] = some ((fun (b : List Int) (at_ : Int) => b.length ≤ 1099511627776 ∧ ∀ x ∈ b, 0 ≤ x ∧ x ≤ 255) [] at_, (fun (b : List Int) (at_ : Int) => (rV (mRead b at_) : D)) [] at_, (fun (b : List Int) (at_ : Int) => []) [] at_) :=
  mkCon_fn (fun x y h _ => c12_inj x y h) (([], at_) : (List Int) × Int) (by simp [nz, nz1, ML_nil, encLU]) rfl
theorem c12_pc (b : List Int) (at_ : Int) (hpre : b.length ≤ 1099511627776 ∧ ∀ x ∈ b, 0 ≤ x ∧ x ≤ 255) : PCo Try.prog 12 [encLU b, dI at_] (Tab.of []) (rV (mRead b at_)) (Tab.of []) := by
  refine pco_of_run [] (E := ⟨[], [], []⟩) (m := false) (base := 0) Env.ok_nil G_ok mix 300 6 Try.func12 (by kernel_rfl) rfl (by kernel_rfl) (by kernel_rfl) rfl ?_
  simp [Try.f12]
  obtain ⟨hp, hx⟩ := hpre
  refine loop_inv (fun q : Nat × Int => q.1 ≤ 6 ∧ mRead b at_ = (if at_ < 0 then none else rdU b at_ (6 - q.1) q.1 q.2)) (fun q => [(0, encLU b), (1, dI at_), (7, dI q.2), (8, dI q.1)]) (fun _ => []) 1 (fun q => 6 - q.1) (0, 0) 400 (by simp) (by simp [mRead]) (by simp) ?_
  intro ⟨k, n⟩ ⟨hq, hi⟩
  simp only at hq hi
  simp [-binI, bAnd, bOr, bShl, bShr, bAdd, bSub, bMul, bQuo, bRem, bEql, bNeq, bLss, bLeq, bGtr, bGeq]
  refine ⟨fun hlt => ⟨fun _ => by omega, fun h1 => ?_, fun h1 h2 => ?_⟩, fun hge => ?_⟩
  · have hm : mRead b at_ = none := by
      rw [hi]; split
      · rfl
      · exact rdU_end _ _ _ _ _ (by omega)
    simp [hm]
  · have hb := hx _ (getD_mem (d := 0) (show (at_ + (k : Int)).toNat < b.length by omega))
    obtain ⟨f, hf⟩ : ∃ f, 6 - k = f + 1 := ⟨5 - k, by omega⟩
    rw [hf, if_neg (by omega)] at hi
    have hf2 : 6 - (k + 1) = f := by omega
    simp only [rdU] at hi
    rw [if_neg (by omega)] at hi
    have hs : stepU n (b[(at_ + (k : Int)).toNat]?.getD 0) k = orK .i64 n (shlK .i64 (andK .i64 (b[(at_ + (k : Int)).toNat]?.getD 0) 127) (7 * (k : Int))) := rfl
    simp only [← hs]
    refine ⟨⟨by omega, by omega, by omega⟩, by omega, fun h1 => ?_, fun h1 => ?_⟩
    · rw [if_pos h1] at hi
      refine ⟨fun h2 => ?_, fun h2 h3 => ?_⟩
      · rw [if_pos (by rcases h2 with h2 | h2; exact .inl ⟨h2.1, by omega⟩; exact .inr h2)] at hi
        simp [hi]
      · rw [if_neg (by rintro (h4 | h4); exact h4.2 (h2 h4.1); omega)] at hi
        simp [hi]; omega
    · rw [if_neg (by omega)] at hi
      exact ⟨by omega, Again.mk (k + 1, stepU n (b[(at_ + (k : Int)).toNat]?.getD 0) k) ⟨by simp; omega, by simp only [hf2]; rw [if_neg (by omega)]; exact hi⟩ (by simp [hs]) (by first | omega | (simp; omega))⟩
  · have h6 : k = 6 := by omega
    subst h6
    have hm : mRead b at_ = none := by
      rw [hi]; split <;> rfl
    simp [hm]
theorem c12_ok : c12.ok Try.prog := mkCon_ok fun ⟨b, at_⟩ hpre => c12_pc b at_ hpre

end Go.Proofs.Ytdbhfkbfajljpaa
