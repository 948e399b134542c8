/- Contracts of the functions that the laws run. -/
import Derived.Test.YtnkggfhgmdbfpaahelpA
import Derived.Test.Ytnkggfhgmdbfpaabits
import Derived.Test.YtnkggfhgmdbfpaaEngB
namespace Go.Proofs.Ytnkggfhgmdbfpaa
open Go Go.Eng
set_option linter.unusedSimpArgs false
set_option linter.unusedVariables false
set_option maxRecDepth 10000
set_option maxHeartbeats 1000000
/-- slices.Clone[[]byt -/
noncomputable def c107 : Con := mkCon 107 false (α := (List Int)) (fun x => (fun (l : List Int) => [encLU l]) x) (fun _ => []) (fun x => (fun (l : List Int) => l.length ≤ 1073741824) x) (fun x => (fun (l : List Int) => (.own (0, 1) 1 0 l.length : D)) x) (fun x => (fun (l : List Int) => [((0, 1), .arr false 1 (dU 0) (ML dU l))]) x)
@[simp] theorem c107_f : c107.f = 107 := rfl
@[simp] theorem c107_own : c107.own = false := rfl
theorem c107_inj : ∀ u_ v_ : (List Int), ((fun x => (fun (l : List Int) => [encLU l]) x) u_).map nz = ((fun x => (fun (l : List Int) => [encLU l]) x) v_).map nz → u_ = v_ := by
  intro u_ v_ h
  obtain l := u_
  obtain l' := v_
  simp [nz_lit, nz1_lit, nz_agg, nz_sl, nz1_sl, encLU] at h
  first | (simp [h]; done) | (obtain ⟨⟩ := h; simp_all; done) | simp_all
@[simp] theorem c107_fn (l : List Int) : c107.fn [.sl false 1 (.lit (.int .u8 0)) (ML dU l)] [] = some ((fun (l : List Int) => l.length ≤ 1073741824) l, (fun (l : List Int) => (.own (0, 1) 1 0 l.length : D)) l, (fun (l : List Int) => [((0, 1), .arr false 1 (dU 0) (ML dU l))]) l) :=
  mkCon_fn (fun x y h _ => c107_inj x y h) (l : (List Int)) (by simp [nz, nz1, ML_nil, encLU]) rfl
@[simp] theorem c107_fn1 (s_l : Nat) (z_l : D) : c107.fn [.sl false s_l z_l []] [] = some ((fun (l : List Int) => l.length ≤ 1073741824) [], (fun (l : List Int) => (.own (0, 1) 1 0 l.length : D)) [], (fun (l : List Int) => [((0, 1), .arr false 1 (dU 0) (ML dU l))]) []) :=
  mkCon_fn (fun x y h _ => c107_inj x y h) ([] : (List Int)) (by simp [nz, nz1, ML_nil, encLU]) rfl
theorem c107_pc (l : List Int) (hpre : l.length ≤ 1073741824) : PCo Try.prog 107 [encLU l] (Tab.of []) (.own (0, 1) 1 0 l.length) (Tab.of [((0, 1), .arr false 1 (dU 0) (ML dU l))]) := by
  by_cases hl : l = []
  · subst hl
    show PCo Try.prog 107 [.sl false 1 (dU 0) []] Tab.nil (.own (0, 1) 1 0 0) (Tab.of [((0, 1), .arr false 1 (dU 0) [])])
    refine pco_slice fun a cap => ?_
    cases a with
    | none =>
      refine pc_ghost (s' := 0) (z' := .any) ?_
      refine pco_of_run [] (tin := []) (E := ⟨[], []⟩) (m := false) (base := 0) Env.ok_nil G_ok mix 300 6 Try.func107 (by kernel_rfl) rfl (by kernel_rfl) (by kernel_rfl) rfl ?_
      simp [Try.f107]
    | some q =>
      refine pco_of_run [] (tin := []) (E := ⟨[], []⟩) (m := false) (base := 0) Env.ok_nil G_ok mix 300 6 Try.func107 (by kernel_rfl) rfl (by kernel_rfl) (by kernel_rfl) rfl ?_
      simp [Try.f107]
  · refine pco_of_run [] (E := ⟨[], []⟩) (m := false) (base := 0) Env.ok_nil G_ok mix 300 6 Try.func107 (by kernel_rfl) rfl (by kernel_rfl) (by kernel_rfl) rfl ?_
    simp [Try.f107, -nilS, nilS_ML hl]
    omega
theorem c107_ok : c107.ok Try.prog := mkCon_ok fun l hpre => c107_pc l hpre
noncomputable def hiB (m : Int) : Int := IntKind.u8.wrap (orK .i64 (andK .i64 m 127) 128)
theorem shr7 (m : Int) : shrK .i64 m 7 = m.fdiv 128 := by rw [shrK_eq]; rfl
noncomputable def uv : Nat → Int → List Int
  | 0, m => [IntKind.u8.wrap m]
  | f + 1, m => if 127 < m then hiB m :: uv f (m.fdiv 128) else [IntKind.u8.wrap m]
theorem uv_len : ∀ (f : Nat) (m : Int), (uv f m).length ≤ f + 1
  | 0, m => by simp [uv]
  | f + 1, m => by
    simp only [uv]; split
    · have := uv_len f (m.fdiv 128); simp; omega
    · simp
noncomputable def mPutU (l : List Int) (n : Int) : List Int := if mIn n 0 1000000000000 then l ++ uv 5 n else l
theorem mPutU_len (l : List Int) (n : Int) : (mPutU l n).length ≤ l.length + 6 := by
  have := uv_len 5 n
  simp only [mPutU]; split <;> simp; omega
theorem fdiv_bd {m : Int} {f : Nat} (h : 0 ≤ m) (h2 : m < 128 ^ (f + 2)) : 0 ≤ m.fdiv 128 ∧ m.fdiv 128 < 128 ^ (f + 1) := by
  rw [Int.fdiv_eq_ediv_of_nonneg _ (by omega)]
  refine ⟨Int.ediv_nonneg h (by omega), Int.ediv_lt_of_lt_mul (by omega) ?_⟩
  rw [Int.pow_succ] at h2; exact h2
/-- loop.example/g03007/impl.putUvarint -/
noncomputable def c106 : Con := mkCon 106 true (α := (List Int) × Int) (fun x => (fun (l : List Int) (n : Int) => ([.own (0, 0) 1 0 l.length, dI n] : List D)) x.1 x.2) (fun x => (fun (l : List Int) (n : Int) => ([((0, 0), .arr false 1 (dU 0) (ML dU l))] : List (Nm × OO))) x.1 x.2) (fun x => (fun (l : List Int) (n : Int) => l.length ≤ 1099511627776) x.1 x.2) (fun x => (fun (l : List Int) (n : Int) => (.own (0, 1) 1 0 (mPutU l n).length : D)) x.1 x.2) (fun x => (fun (l : List Int) (n : Int) => ([((0, 1), .arr false 1 (dU 0) (ML dU (mPutU l n)))] : List (Nm × OO))) x.1 x.2)
@[simp] theorem c106_f : c106.f = 106 := rfl
@[simp] theorem c106_own : c106.own = true := rfl
theorem c106_inj : ∀ u_ v_ : (List Int) × Int, ((fun x => (fun (l : List Int) (n : Int) => ([.own (0, 0) 1 0 l.length, dI n] : List D)) x.1 x.2) u_).map nz = ((fun x => (fun (l : List Int) (n : Int) => ([.own (0, 0) 1 0 l.length, dI n] : List D)) x.1 x.2) v_).map nz → (fun x => (fun (l : List Int) (n : Int) => ([((0, 0), .arr false 1 (dU 0) (ML dU l))] : List (Nm × OO))) x.1 x.2) u_ = (fun x => (fun (l : List Int) (n : Int) => ([((0, 0), .arr false 1 (dU 0) (ML dU l))] : List (Nm × OO))) x.1 x.2) v_ → u_ = v_ := by
  intro u_ v_ h h2_
  obtain ⟨l, n⟩ := u_
  obtain ⟨l', n'⟩ := v_
  simp [nz_lit, nz1_lit, nz_agg, nz_sl, nz1_sl, nz_sx, nz_el, nz1_el, nz_own, nz1_own, nz_ptr, nz_fn, nz_iface] at h h2_
  first | (simp [h, h2_]; done) | (obtain ⟨h3_, h4_⟩ := List.append_inj h2_ h.1; simp_all; done) | simp_all | grind
@[simp] theorem c106_fn (l : List Int) (n : Int) : c106.fn ([.own (0, 0) 1 0 l.length, dI n]) ([((0, 0), .arr false 1 (dU 0) (ML dU l))]) = some (l.length ≤ 1099511627776, .own (0, 1) 1 0 (mPutU l n).length, [((0, 1), .arr false 1 (dU 0) (ML dU (mPutU l n)))]) :=
  mkCon_fn c106_inj ((l, n) : (List Int) × Int) rfl rfl
theorem c106_pc (l : List Int) (n : Int) (hpre : l.length ≤ 1099511627776) : PCo Try.prog 106 ([.own (0, 0) 1 0 l.length, dI n]) (Tab.of ([((0, 0), .arr false 1 (dU 0) (ML dU l))])) (.own (0, 1) 1 0 (mPutU l n).length) (Tab.of ([((0, 1), .arr false 1 (dU 0) (ML dU (mPutU l n)))])) := by
  refine pco_of_run [] (E := ⟨[c108], []⟩) (m := false) (base := 0) (Env.ok_cons c108_ok Env.ok_nil) G_ok mix 300 6 Try.func106 (by kernel_rfl) rfl (by kernel_rfl) (by kernel_rfl) rfl ?_
  cases h : mIn n 0 1000000000000 with
  | false =>
    have he : mPutU l n = l := by simp [mPutU, h]
    simp [Try.f106, h, he]
  | true =>
  simp [Try.f106, h]
  refine loop_inv (fun q : Nat × List Int × Int => q.1 ≤ 5 ∧ 0 ≤ q.2.2 ∧ q.2.2 < 128 ^ (q.1 + 1) ∧ l ++ uv 5 n = q.2.1 ++ uv q.1 q.2.2 ∧ q.2.1.length + q.1 ≤ l.length + 5) (fun q => [(0, .own (0, 1) 1 0 q.2.1.length), (1, dI q.2.2)]) (fun q => [((0, 1), .arr false 1 (dU 0) (ML dU q.2.1))]) 2 (fun q => q.1) (5, l, n) 400 (by simp) (by have := mIn_iff.1 h; simp; omega) (by simp) ?_
  intro ⟨f, a, m⟩ ⟨hf, hm, hm2, he, hl⟩
  obtain ⟨fA, hA, hA2⟩ := exAnd
  obtain ⟨fO, hO, hO2⟩ := exOr
  obtain ⟨fS, hS, hS2⟩ := exShr
  have hh : IntKind.u8.wrap (fO .i64 (fA .i64 m 127) 128) = hiB m := by rw [hO2, hA2]; rfl
  have hs7 : fS .i64 m 7 = m.fdiv 128 := by rw [hS2, shr7]
  simp [-binI, hA, hO, hS, bAdd, bSub, bMul, bQuo, bRem, bEql, bNeq, bLss, bLeq, bGtr, bGeq, hh, hs7]
  simp only at hf hm hm2 he hl
  refine ⟨fun h1 => ⟨by omega, ?_⟩, fun h1 => ⟨by omega, ?_⟩⟩
  · cases f with
    | zero => omega
    | succ f =>
      have hb := fdiv_bd hm hm2
      have hu : uv (f + 1) m = hiB m :: uv f (m.fdiv 128) := by rw [uv, if_pos h1]
      rw [hu] at he
      refine Again.mk (f, a ++ [hiB m], m.fdiv 128) ⟨by simp; omega, by simp; omega, by simpa using hb.2, by rw [he]; simp, by simp; omega⟩ ?_ (by first | omega | (simp; omega))
      simp
  · have hu : uv f m = [IntKind.u8.wrap m] := by cases f <;> simp [uv]; omega
    rw [hu] at he
    have he2 : mPutU l n = a ++ [IntKind.u8.wrap m] := by rw [mPutU, if_pos h, he]
    rw [he2]; simp
theorem c106_ok : c106.ok Try.prog := mkCon_ok fun ⟨l, n⟩ hpre => c106_pc l n hpre
/-- loop.example/g03007/spec.AppendUvarint -/
noncomputable def c24 : Con := mkCon 24 false (α := (List Int) × Int) (fun x => (fun (l : List Int) (n : Int) => [encLU l, dI n]) x.1 x.2) (fun _ => []) (fun x => (fun (l : List Int) (n : Int) => l.length ≤ 1073741823) x.1 x.2) (fun x => (fun (l : List Int) (n : Int) => (.own (0, 1) 1 0 (mPutU l n).length : D)) x.1 x.2) (fun x => (fun (l : List Int) (n : Int) => [((0, 1), .arr false 1 (dU 0) (ML dU (mPutU l n)))]) x.1 x.2)
@[simp] theorem c24_f : c24.f = 24 := rfl
@[simp] theorem c24_own : c24.own = false := rfl
theorem c24_inj : ∀ u_ v_ : (List Int) × Int, ((fun x => (fun (l : List Int) (n : Int) => [encLU l, dI n]) x.1 x.2) u_).map nz = ((fun x => (fun (l : List Int) (n : Int) => [encLU l, dI n]) x.1 x.2) v_).map nz → u_ = v_ := by
  intro u_ v_ h
  obtain ⟨l, n⟩ := u_
  obtain ⟨l', n'⟩ := v_
  simp [nz_lit, nz1_lit, nz_agg, nz_sl, nz1_sl, encLU] at h
  first | (simp [h]; done) | (obtain ⟨⟩ := h; simp_all; done) | simp_all
@[simp] theorem c24_fn (l : List Int) (n : Int) : c24.fn [.sl false 1 (.lit (.int .u8 0)) (ML dU l), .lit (.int .i64 n)] [] = some ((fun (l : List Int) (n : Int) => l.length ≤ 1073741823) l n, (fun (l : List Int) (n : Int) => (.own (0, 1) 1 0 (mPutU l n).length : D)) l n, (fun (l : List Int) (n : Int) => [((0, 1), .arr false 1 (dU 0) (ML dU (mPutU l n)))]) l n) :=
  mkCon_fn (fun x y h _ => c24_inj x y h) ((l, n) : (List Int) × Int) (by simp [nz, nz1, ML_nil, encLU]) rfl
@[simp] theorem c24_fn1 (s_l : Nat) (z_l : D) (n : Int) : c24.fn [.sl false s_l z_l [], .lit (.int .i64 n)] [] = some ((fun (l : List Int) (n : Int) => l.length ≤ 1073741823) [] n, (fun (l : List Int) (n : Int) => (.own (0, 1) 1 0 (mPutU l n).length : D)) [] n, (fun (l : List Int) (n : Int) => [((0, 1), .arr false 1 (dU 0) (ML dU (mPutU l n)))]) [] n) :=
  mkCon_fn (fun x y h _ => c24_inj x y h) (([], n) : (List Int) × Int) (by simp [nz, nz1, ML_nil, encLU]) rfl
theorem c24_pc (l : List Int) (n : Int) (hpre : l.length ≤ 1073741823) : PCo Try.prog 24 [encLU l, dI n] (Tab.of []) (.own (0, 1) 1 0 (mPutU l n).length) (Tab.of [((0, 1), .arr false 1 (dU 0) (ML dU (mPutU l n)))]) := by
  refine pco_of_run [] (E := ⟨[c105], []⟩) (m := false) (base := 0) (Env.ok_cons c105_ok Env.ok_nil) G_ok mix 300 6 Try.func24 (by kernel_rfl) rfl (by kernel_rfl) (by kernel_rfl) rfl ?_
  cases h : mIn n 0 1000000000000 with
  | false =>
    have he : mPutU l n = l := by simp [mPutU, h]
    simp [Try.f24, h, he]
    omega
  | true =>
  simp [Try.f24, h]
  refine ⟨by omega, ?_⟩
  refine loop_inv (fun q : Nat × List Int × Int => q.1 ≤ 5 ∧ 0 ≤ q.2.2 ∧ q.2.2 < 128 ^ (q.1 + 1) ∧ l ++ uv 5 n = q.2.1 ++ uv q.1 q.2.2 ∧ q.2.1.length + q.1 ≤ l.length + 5) (fun q => [(5, .own (0, 1) 1 0 q.2.1.length), (1, dI q.2.2)]) (fun q => [((0, 1), .arr false 1 (dU 0) (ML dU q.2.1))]) 2 (fun q => q.1) (5, l, n) 400 (by simp) (by have := mIn_iff.1 h; simp; omega) (by simp) ?_
  intro ⟨f, a, m⟩ ⟨hf, hm, hm2, he, hl⟩
  obtain ⟨fA, hA, hA2⟩ := exAnd
  obtain ⟨fO, hO, hO2⟩ := exOr
  obtain ⟨fS, hS, hS2⟩ := exShr
  have hh : IntKind.u8.wrap (fO .i64 (fA .i64 m 127) 128) = hiB m := by rw [hO2, hA2]; rfl
  have hs7 : fS .i64 m 7 = m.fdiv 128 := by rw [hS2, shr7]
  simp [-binI, hA, hO, hS, bAdd, bSub, bMul, bQuo, bRem, bEql, bNeq, bLss, bLeq, bGtr, bGeq, hh, hs7]
  simp only at hf hm hm2 he hl
  refine ⟨fun h1 => ⟨by omega, ?_⟩, fun h1 => ⟨by omega, ?_⟩⟩
  · cases f with
    | zero => omega
    | succ f =>
      have hb := fdiv_bd hm hm2
      have hu : uv (f + 1) m = hiB m :: uv f (m.fdiv 128) := by rw [uv, if_pos h1]
      rw [hu] at he
      refine Again.mk (f, a ++ [hiB m], m.fdiv 128) ⟨by simp; omega, by simp; omega, by simpa using hb.2, by rw [he]; simp, by simp; omega⟩ ?_ (by first | omega | (simp; omega))
      simp
  · have hu : uv f m = [IntKind.u8.wrap m] := by cases f <;> simp [uv]; omega
    rw [hu] at he
    have he2 : mPutU l n = a ++ [IntKind.u8.wrap m] := by rw [mPutU, if_pos h, he]
    rw [he2]; simp
theorem c24_ok : c24.ok Try.prog := mkCon_ok fun ⟨l, n⟩ hpre => c24_pc l n hpre
/-- loop.example/g03007/impl.AppendUvarint -/
noncomputable def c26 : Con := mkCon 26 false (α := (List Int) × Int) (fun x => (fun (l : List Int) (n : Int) => [encLU l, dI n]) x.1 x.2) (fun _ => []) (fun x => (fun (l : List Int) (n : Int) => l.length ≤ 1073741823) x.1 x.2) (fun x => (fun (l : List Int) (n : Int) => (.own (0, 1) 1 0 (mPutU l n).length : D)) x.1 x.2) (fun x => (fun (l : List Int) (n : Int) => [((0, 1), .arr false 1 (dU 0) (ML dU (mPutU l n)))]) x.1 x.2)
@[simp] theorem c26_f : c26.f = 26 := rfl
@[simp] theorem c26_own : c26.own = false := rfl
theorem c26_inj : ∀ u_ v_ : (List Int) × Int, ((fun x => (fun (l : List Int) (n : Int) => [encLU l, dI n]) x.1 x.2) u_).map nz = ((fun x => (fun (l : List Int) (n : Int) => [encLU l, dI n]) x.1 x.2) v_).map nz → u_ = v_ := by
  intro u_ v_ h
  obtain ⟨l, n⟩ := u_
  obtain ⟨l', n'⟩ := v_
  simp [nz_lit, nz1_lit, nz_agg, nz_sl, nz1_sl, encLU] at h
  first | (simp [h]; done) | (obtain ⟨⟩ := h; simp_all; done) | simp_all
@[simp] theorem c26_fn (l : List Int) (n : Int) : c26.fn [.sl false 1 (.lit (.int .u8 0)) (ML dU l), .lit (.int .i64 n)] [] = some ((fun (l : List Int) (n : Int) => l.length ≤ 1073741823) l n, (fun (l : List Int) (n : Int) => (.own (0, 1) 1 0 (mPutU l n).length : D)) l n, (fun (l : List Int) (n : Int) => [((0, 1), .arr false 1 (dU 0) (ML dU (mPutU l n)))]) l n) :=
  mkCon_fn (fun x y h _ => c26_inj x y h) ((l, n) : (List Int) × Int) (by simp [nz, nz1, ML_nil, encLU]) rfl
@[simp] theorem c26_fn1 (s_l : Nat) (z_l : D) (n : Int) : c26.fn [.sl false s_l z_l [], .lit (.int .i64 n)] [] = some ((fun (l : List Int) (n : Int) => l.length ≤ 1073741823) [] n, (fun (l : List Int) (n : Int) => (.own (0, 1) 1 0 (mPutU l n).length : D)) [] n, (fun (l : List Int) (n : Int) => [((0, 1), .arr false 1 (dU 0) (ML dU (mPutU l n)))]) [] n) :=
  mkCon_fn (fun x y h _ => c26_inj x y h) (([], n) : (List Int) × Int) (by simp [nz, nz1, ML_nil, encLU]) rfl
theorem c26_pc (l : List Int) (n : Int) (hpre : l.length ≤ 1073741823) : PCo Try.prog 26 [encLU l, dI n] (Tab.of []) (.own (0, 1) 1 0 (mPutU l n).length) (Tab.of [((0, 1), .arr false 1 (dU 0) (ML dU (mPutU l n)))]) := by
  refine pco_of_run [] (E := ⟨[c106, c107], []⟩) (m := false) (base := 0) (Env.ok_cons c106_ok (Env.ok_cons c107_ok Env.ok_nil)) G_ok mix 300 6 Try.func26 (by kernel_rfl) rfl (by kernel_rfl) (by kernel_rfl) rfl ?_
  simp [Try.f26]
  omega
theorem c26_ok : c26.ok Try.prog := mkCon_ok fun ⟨l, n⟩ hpre => c26_pc l n hpre
noncomputable def mAppB (l d : List Int) : List Int := mPutU l d.length ++ d
/-- loop.example/g03007/spec.AppendBytes -/
noncomputable def c32 : Con := mkCon 32 false (α := (List Int) × (List Int)) (fun x => (fun (l : List Int) (d : List Int) => [encLU l, encLU d]) x.1 x.2) (fun _ => []) (fun x => (fun (l : List Int) (d : List Int) => l.length ≤ 1073741823 ∧ d.length ≤ 1073741823) x.1 x.2) (fun x => (fun (l : List Int) (d : List Int) => (.own (0, 1) 1 0 (mAppB l d).length : D)) x.1 x.2) (fun x => (fun (l : List Int) (d : List Int) => [((0, 1), .arr false 1 (dU 0) (ML dU (mAppB l d)))]) x.1 x.2)
@[simp] theorem c32_f : c32.f = 32 := rfl
@[simp] theorem c32_own : c32.own = false := rfl
theorem c32_inj : ∀ u_ v_ : (List Int) × (List Int), ((fun x => (fun (l : List Int) (d : List Int) => [encLU l, encLU d]) x.1 x.2) u_).map nz = ((fun x => (fun (l : List Int) (d : List Int) => [encLU l, encLU d]) x.1 x.2) v_).map nz → u_ = v_ := by
  intro u_ v_ h
  obtain ⟨l, d⟩ := u_
  obtain ⟨l', d'⟩ := v_
  simp [nz_lit, nz1_lit, nz_agg, nz_sl, nz1_sl, encLU] at h
  first | (simp [h]; done) | (obtain ⟨⟩ := h; simp_all; done) | simp_all
@[simp] theorem c32_fn (l : List Int) (d : List Int) : c32.fn [.sl false 1 (.lit (.int .u8 0)) (ML dU l), .sl false 1 (.lit (.int .u8 0)) (ML dU d)] [] = some ((fun (l : List Int) (d : List Int) => l.length ≤ 1073741823 ∧ d.length ≤ 1073741823) l d, (fun (l : List Int) (d : List Int) => (.own (0, 1) 1 0 (mAppB l d).length : D)) l d, (fun (l : List Int) (d : List Int) => [((0, 1), .arr false 1 (dU 0) (ML dU (mAppB l d)))]) l d) :=
  mkCon_fn (fun x y h _ => c32_inj x y h) ((l, d) : (List Int) × (List Int)) (by simp [nz, nz1, ML_nil, encLU]) rfl
@[simp] theorem c32_fn1 (s_l : Nat) (z_l : D) (d : List Int) : c32.fn [.sl false s_l z_l [], .sl false 1 (.lit (.int .u8 0)) (ML dU d)] [] = some ((fun (l : List Int) (d : List Int) => l.length ≤ 1073741823 ∧ d.length ≤ 1073741823) [] d, (fun (l : List Int) (d : List Int) => (.own (0, 1) 1 0 (mAppB l d).length : D)) [] d, (fun (l : List Int) (d : List Int) => [((0, 1), .arr false 1 (dU 0) (ML dU (mAppB l d)))]) [] d) :=
  mkCon_fn (fun x y h _ => c32_inj x y h) (([], d) : (List Int) × (List Int)) (by simp [nz, nz1, ML_nil, encLU]) rfl
@[simp] theorem c32_fn2 (l : List Int) (s_d : Nat) (z_d : D) : c32.fn [.sl false 1 (.lit (.int .u8 0)) (ML dU l), .sl false s_d z_d []] [] = some ((fun (l : List Int) (d : List Int) => l.length ≤ 1073741823 ∧ d.length ≤ 1073741823) l [], (fun (l : List Int) (d : List Int) => (.own (0, 1) 1 0 (mAppB l d).length : D)) l [], (fun (l : List Int) (d : List Int) => [((0, 1), .arr false 1 (dU 0) (ML dU (mAppB l d)))]) l []) :=
  mkCon_fn (fun x y h _ => c32_inj x y h) ((l, []) : (List Int) × (List Int)) (by simp [nz, nz1, ML_nil, encLU]) rfl
@[simp] theorem c32_fn3 (s_l : Nat) (z_l : D) (s_d : Nat) (z_d : D) : c32.fn [.sl false s_l z_l [], .sl false s_d z_d []] [] = some ((fun (l : List Int) (d : List Int) => l.length ≤ 1073741823 ∧ d.length ≤ 1073741823) [] [], (fun (l : List Int) (d : List Int) => (.own (0, 1) 1 0 (mAppB l d).length : D)) [] [], (fun (l : List Int) (d : List Int) => [((0, 1), .arr false 1 (dU 0) (ML dU (mAppB l d)))]) [] []) :=
  mkCon_fn (fun x y h _ => c32_inj x y h) (([], []) : (List Int) × (List Int)) (by simp [nz, nz1, ML_nil, encLU]) rfl
theorem c32_pc (l : List Int) (d : List Int) (hpre : l.length ≤ 1073741823 ∧ d.length ≤ 1073741823) : PCo Try.prog 32 [encLU l, encLU d] (Tab.of []) (.own (0, 1) 1 0 (mAppB l d).length) (Tab.of [((0, 1), .arr false 1 (dU 0) (ML dU (mAppB l d)))]) := by
  refine pco_of_run [] (E := ⟨[c24], []⟩) (m := false) (base := 0) (Env.ok_cons c24_ok Env.ok_nil) G_ok mix 300 6 Try.func32 (by kernel_rfl) rfl (by kernel_rfl) (by kernel_rfl) rfl ?_
  simp [Try.f32]
  have hb := mPutU_len l d.length
  simp [mAppB]
  omega
theorem c32_ok : c32.ok Try.prog := mkCon_ok fun ⟨l, d⟩ hpre => c32_pc l d hpre
/-- loop.example/g03007/impl.AppendBytes -/
noncomputable def c33 : Con := mkCon 33 false (α := (List Int) × (List Int)) (fun x => (fun (l : List Int) (d : List Int) => [encLU l, encLU d]) x.1 x.2) (fun _ => []) (fun x => (fun (l : List Int) (d : List Int) => l.length ≤ 1073741823 ∧ d.length ≤ 1073741823) x.1 x.2) (fun x => (fun (l : List Int) (d : List Int) => (.own (0, 1) 1 0 (mAppB l d).length : D)) x.1 x.2) (fun x => (fun (l : List Int) (d : List Int) => [((0, 1), .arr false 1 (dU 0) (ML dU (mAppB l d)))]) x.1 x.2)
@[simp] theorem c33_f : c33.f = 33 := rfl
@[simp] theorem c33_own : c33.own = false := rfl
theorem c33_inj : ∀ u_ v_ : (List Int) × (List Int), ((fun x => (fun (l : List Int) (d : List Int) => [encLU l, encLU d]) x.1 x.2) u_).map nz = ((fun x => (fun (l : List Int) (d : List Int) => [encLU l, encLU d]) x.1 x.2) v_).map nz → u_ = v_ := by
  intro u_ v_ h
  obtain ⟨l, d⟩ := u_
  obtain ⟨l', d'⟩ := v_
  simp [nz_lit, nz1_lit, nz_agg, nz_sl, nz1_sl, encLU] at h
  first | (simp [h]; done) | (obtain ⟨⟩ := h; simp_all; done) | simp_all
@[simp] theorem c33_fn (l : List Int) (d : List Int) : c33.fn [.sl false 1 (.lit (.int .u8 0)) (ML dU l), .sl false 1 (.lit (.int .u8 0)) (ML dU d)] [] = some ((fun (l : List Int) (d : List Int) => l.length ≤ 1073741823 ∧ d.length ≤ 1073741823) l d, (fun (l : List Int) (d : List Int) => (.own (0, 1) 1 0 (mAppB l d).length : D)) l d, (fun (l : List Int) (d : List Int) => [((0, 1), .arr false 1 (dU 0) (ML dU (mAppB l d)))]) l d) :=
  mkCon_fn (fun x y h _ => c33_inj x y h) ((l, d) : (List Int) × (List Int)) (by simp [nz, nz1, ML_nil, encLU]) rfl
@[simp] theorem c33_fn1 (s_l : Nat) (z_l : D) (d : List Int) : c33.fn [.sl false s_l z_l [], .sl false 1 (.lit (.int .u8 0)) (ML dU d)] [] = some ((fun (l : List Int) (d : List Int) => l.length ≤ 1073741823 ∧ d.length ≤ 1073741823) [] d, (fun (l : List Int) (d : List Int) => (.own (0, 1) 1 0 (mAppB l d).length : D)) [] d, (fun (l : List Int) (d : List Int) => [((0, 1), .arr false 1 (dU 0) (ML dU (mAppB l d)))]) [] d) :=
  mkCon_fn (fun x y h _ => c33_inj x y h) (([], d) : (List Int) × (List Int)) (by simp [nz, nz1, ML_nil, encLU]) rfl
@[simp] theorem c33_fn2 (l : List Int) (s_d : Nat) (z_d : D) : c33.fn [.sl false 1 (.lit (.int .u8 0)) (ML dU l), .sl false s_d z_d []] [] = some ((fun (l : List Int) (d : List Int) => l.length ≤ 1073741823 ∧ d.length ≤ 1073741823) l [], (fun (l : List Int) (d : List Int) => (.own (0, 1) 1 0 (mAppB l d).length : D)) l [], (fun (l : List Int) (d : List Int) => [((0, 1), .arr false 1 (dU 0) (ML dU (mAppB l d)))]) l []) :=
  mkCon_fn (fun x y h _ => c33_inj x y h) ((l, []) : (List Int) × (List Int)) (by simp [nz, nz1, ML_nil, encLU]) rfl
@[simp] theorem c33_fn3 (s_l : Nat) (z_l : D) (s_d : Nat) (z_d : D) : c33.fn [.sl false s_l z_l [], .sl false s_d z_d []] [] = some ((fun (l : List Int) (d : List Int) => l.length ≤ 1073741823 ∧ d.length ≤ 1073741823) [] [], (fun (l : List Int) (d : List Int) => (.own (0, 1) 1 0 (mAppB l d).length : D)) [] [], (fun (l : List Int) (d : List Int) => [((0, 1), .arr false 1 (dU 0) (ML dU (mAppB l d)))]) [] []) :=
  mkCon_fn (fun x y h _ => c33_inj x y h) (([], []) : (List Int) × (List Int)) (by simp [nz, nz1, ML_nil, encLU]) rfl
theorem c33_pc (l : List Int) (d : List Int) (hpre : l.length ≤ 1073741823 ∧ d.length ≤ 1073741823) : PCo Try.prog 33 [encLU l, encLU d] (Tab.of []) (.own (0, 1) 1 0 (mAppB l d).length) (Tab.of [((0, 1), .arr false 1 (dU 0) (ML dU (mAppB l d)))]) := by
  refine pco_of_run [] (E := ⟨[c26], []⟩) (m := false) (base := 0) (Env.ok_cons c26_ok Env.ok_nil) G_ok mix 300 6 Try.func33 (by kernel_rfl) rfl (by kernel_rfl) (by kernel_rfl) rfl ?_
  simp [Try.f33]
  have hb := mPutU_len l d.length
  simp [mAppB]
  omega
theorem c33_ok : c33.ok Try.prog := mkCon_ok fun ⟨l, d⟩ hpre => c33_pc l d hpre
noncomputable def encAll (l : List Int) : List Int := l.foldl mPutU []
theorem encAll_at {l : List Int} {p : Nat} (h : p < l.length) : encAll (l.take (p + 1)) = mPutU (encAll (l.take p)) (l[p]?.getD 0) := foldl_at h
theorem encAll_len (l : List Int) : ∀ (p : Nat), p ≤ l.length → (encAll (l.take p)).length ≤ 6 * p
  | 0, _ => by simp [encAll]
  | p + 1, h => by
    rw [encAll_at (by omega)]
    have h1 := encAll_len l p (by omega)
    have h2 := mPutU_len (encAll (l.take p)) (l[p]?.getD 0)
    omega
/-- loop.example/g03007/impl.EncodeInts -/
noncomputable def c38 : Con := mkCon 38 false (α := (List Int)) (fun x => (fun (l : List Int) => [encLI l]) x) (fun _ => []) (fun x => (fun (l : List Int) => l.length ≤ 16777216) x) (fun x => (fun (l : List Int) => (.own (0, 1) 1 0 (encAll l).length : D)) x) (fun x => (fun (l : List Int) => [((0, 1), .arr false 1 (dU 0) (ML dU (encAll l)))]) x)
@[simp] theorem c38_f : c38.f = 38 := rfl
@[simp] theorem c38_own : c38.own = false := rfl
theorem c38_inj : ∀ u_ v_ : (List Int), ((fun x => (fun (l : List Int) => [encLI l]) x) u_).map nz = ((fun x => (fun (l : List Int) => [encLI l]) x) v_).map nz → u_ = v_ := by
  intro u_ v_ h
  obtain l := u_
  obtain l' := v_
  simp [nz_lit, nz1_lit, nz_agg, nz_sl, nz1_sl, encLI] at h
  first | (simp [h]; done) | (obtain ⟨⟩ := h; simp_all; done) | simp_all
@[simp] theorem c38_fn (l : List Int) : c38.fn [.sl false 1 (.lit (.int .i64 0)) (ML dI l)] [] = some ((fun (l : List Int) => l.length ≤ 16777216) l, (fun (l : List Int) => (.own (0, 1) 1 0 (encAll l).length : D)) l, (fun (l : List Int) => [((0, 1), .arr false 1 (dU 0) (ML dU (encAll l)))]) l) :=
  mkCon_fn (fun x y h _ => c38_inj x y h) (l : (List Int)) (by simp [nz, nz1, ML_nil, encLI]) rfl
@[simp] theorem c38_fn1 (s_l : Nat) (z_l : D) : c38.fn [.sl false s_l z_l []] [] = some ((fun (l : List Int) => l.length ≤ 16777216) [], (fun (l : List Int) => (.own (0, 1) 1 0 (encAll l).length : D)) [], (fun (l : List Int) => [((0, 1), .arr false 1 (dU 0) (ML dU (encAll l)))]) []) :=
  mkCon_fn (fun x y h _ => c38_inj x y h) ([] : (List Int)) (by simp [nz, nz1, ML_nil, encLI]) rfl
theorem c38_pc (l : List Int) (hpre : l.length ≤ 16777216) : PCo Try.prog 38 [encLI l] (Tab.of []) (.own (0, 1) 1 0 (encAll l).length) (Tab.of [((0, 1), .arr false 1 (dU 0) (ML dU (encAll l)))]) := by
  refine pco_of_run [] (E := ⟨[c106], []⟩) (m := false) (base := 0) (Env.ok_cons c106_ok Env.ok_nil) G_ok mix 300 6 Try.func38 (by kernel_rfl) rfl (by kernel_rfl) (by kernel_rfl) rfl ?_
  simp [Try.f38]
  refine loop_inv (fun p : Nat => p ≤ l.length) (fun p => [(3, .own (0, 1) 1 0 (encAll (l.take p)).length), (7, encLI l), (8, dI l.length), (9, dI p)]) (fun p => [((0, 1), .arr false 1 (dU 0) (ML dU (encAll (l.take p))))]) 2 (fun p => l.length - p) 0 400 (by simp) (by simp) (by simp [encAll]) ?_
  intro p hp
  simp
  have hb := encAll_len l p hp
  refine ⟨fun hlt => ?_, fun hge => by rw [List.take_of_length_le hge]; exact ⟨rfl, rfl⟩⟩
  have hs := encAll_at hlt
  repeat' (first | omega | refine And.intro ?_ ?_ | intro _)
  exact Again.mk (p + 1) (by omega) (by simp [hs]) (by first | omega | (simp; omega))
theorem c38_ok : c38.ok Try.prog := mkCon_ok fun l hpre => c38_pc l hpre
/-- loop.example/g03007/spec.EncodeInts -/
noncomputable def c36 : Con := mkCon 36 false (α := (List Int)) (fun x => (fun (l : List Int) => [encLI l]) x) (fun _ => []) (fun x => (fun (l : List Int) => l.length ≤ 16777216) x) (fun x => (fun (l : List Int) => (.own (0, 1) 1 0 (encAll l).length : D)) x) (fun x => (fun (l : List Int) => [((0, 1), .arr false 1 (dU 0) (ML dU (encAll l)))]) x)
@[simp] theorem c36_f : c36.f = 36 := rfl
@[simp] theorem c36_own : c36.own = false := rfl
theorem c36_inj : ∀ u_ v_ : (List Int), ((fun x => (fun (l : List Int) => [encLI l]) x) u_).map nz = ((fun x => (fun (l : List Int) => [encLI l]) x) v_).map nz → u_ = v_ := by
  intro u_ v_ h
  obtain l := u_
  obtain l' := v_
  simp [nz_lit, nz1_lit, nz_agg, nz_sl, nz1_sl, encLI] at h
  first | (simp [h]; done) | (obtain ⟨⟩ := h; simp_all; done) | simp_all
@[simp] theorem c36_fn (l : List Int) : c36.fn [.sl false 1 (.lit (.int .i64 0)) (ML dI l)] [] = some ((fun (l : List Int) => l.length ≤ 16777216) l, (fun (l : List Int) => (.own (0, 1) 1 0 (encAll l).length : D)) l, (fun (l : List Int) => [((0, 1), .arr false 1 (dU 0) (ML dU (encAll l)))]) l) :=
  mkCon_fn (fun x y h _ => c36_inj x y h) (l : (List Int)) (by simp [nz, nz1, ML_nil, encLI]) rfl
@[simp] theorem c36_fn1 (s_l : Nat) (z_l : D) : c36.fn [.sl false s_l z_l []] [] = some ((fun (l : List Int) => l.length ≤ 16777216) [], (fun (l : List Int) => (.own (0, 1) 1 0 (encAll l).length : D)) [], (fun (l : List Int) => [((0, 1), .arr false 1 (dU 0) (ML dU (encAll l)))]) []) :=
  mkCon_fn (fun x y h _ => c36_inj x y h) ([] : (List Int)) (by simp [nz, nz1, ML_nil, encLI]) rfl
theorem c36_pc (l : List Int) (hpre : l.length ≤ 16777216) : PCo Try.prog 36 [encLI l] (Tab.of []) (.own (0, 1) 1 0 (encAll l).length) (Tab.of [((0, 1), .arr false 1 (dU 0) (ML dU (encAll l)))]) := by
  refine pco_of_run [] (E := ⟨[c24], []⟩) (m := false) (base := 0) (Env.ok_cons c24_ok Env.ok_nil) G_ok mix 300 6 Try.func36 (by kernel_rfl) rfl (by kernel_rfl) (by kernel_rfl) rfl ?_
  simp [Try.f36]
  refine loop_inv (fun p : Nat => p ≤ l.length) (fun p => [(0, encLI l), (3, .own (0, 1) 1 0 (encAll (l.take p)).length), (4, dI p)]) (fun p => [((0, 1), .arr false 1 (dU 0) (ML dU (encAll (l.take p))))]) 2 (fun p => l.length - p) 0 400 (by simp) (by simp) (by simp [encAll]) ?_
  intro p hp
  simp
  have hb := encAll_len l p hp
  refine ⟨fun hlt => ?_, fun hge => by rw [List.take_of_length_le hge]; exact ⟨rfl, rfl⟩⟩
  have hs := encAll_at hlt
  repeat' (first | omega | refine And.intro ?_ ?_ | intro _)
  exact Again.mk (p + 1) (by omega) (by simp [hs]) (by first | omega | (simp; omega))
theorem c36_ok : c36.ok Try.prog := mkCon_ok fun l hpre => c36_pc l hpre
theorem hi0 : ∀ n : Fin 256, (IntKind.i64.wrap (BitVec.ofInt IntKind.i64.bits ((n.val : Nat) : Int) &&& BitVec.ofInt IntKind.i64.bits 128).toNat = 0) ↔ n.val < 128 := by decide +kernel
theorem hi_iff {x : Int} (h : 0 ≤ x ∧ x ≤ 255) : (andK .i64 x 128 = 0) ↔ x < 128 := by
  have := hi0 ⟨x.toNat, by omega⟩
  simp only [Int.toNat_of_nonneg h.1] at this
  rw [andK_eq, this]; omega
noncomputable def stepU (n x : Int) (k : Nat) : Int := orK .i64 n (shlK .i64 (andK .i64 x 127) (7 * (k : Int)))
noncomputable def rdU (b : List Int) (at_ : Int) : Nat → Nat → Int → Option (Int × Int)
  | 0, _, _ => none
  | f + 1, k, n => if (b.length : Int) ≤ at_ + k then none else if b[(at_ + k).toNat]?.getD 0 < 128 then (if (b[(at_ + k).toNat]?.getD 0 = 0 ∧ ¬ k = 0) ∨ 1000000000000 < stepU n (b[(at_ + k).toNat]?.getD 0) k then none else some (stepU n (b[(at_ + k).toNat]?.getD 0) k, at_ + k + 1)) else rdU b at_ f (k + 1) (stepU n (b[(at_ + k).toNat]?.getD 0) k)
noncomputable def mRead (b : List Int) (at_ : Int) : Option (Int × Int) := if at_ < 0 then none else rdU b at_ 6 0 0
@[simp] def rV (o : Option (Int × Int)) : D := .tup [dI (o.getD (0, 0)).1, dI (o.getD (0, 0)).2, dB o.isSome]
theorem rdU_end (b : List Int) (at_ : Int) (f k : Nat) (n : Int) (h : (b.length : Int) ≤ at_ + k) : rdU b at_ f k n = none := by
  cases f <;> simp [rdU]; omega
/-- loop.example/g03007/impl.ReadUvarint -/
noncomputable def c31 : Con := mkCon 31 false (α := (List Int) × Int) (fun x => (fun (b : List Int) (at_ : Int) => [encLU b, dI at_]) x.1 x.2) (fun _ => []) (fun x => (fun (b : List Int) (at_ : Int) => b.length ≤ 1099511627776 ∧ ∀ x ∈ b, 0 ≤ x ∧ x ≤ 255) x.1 x.2) (fun x => (fun (b : List Int) (at_ : Int) => (rV (mRead b at_) : D)) x.1 x.2) (fun x => (fun (b : List Int) (at_ : Int) => []) x.1 x.2)
@[simp] theorem c31_f : c31.f = 31 := rfl
@[simp] theorem c31_own : c31.own = false := rfl
theorem c31_inj : ∀ u_ v_ : (List Int) × Int, ((fun x => (fun (b : List Int) (at_ : Int) => [encLU b, dI at_]) x.1 x.2) u_).map nz = ((fun x => (fun (b : List Int) (at_ : Int) => [encLU b, dI at_]) x.1 x.2) v_).map nz → u_ = v_ := by
  intro u_ v_ h
  obtain ⟨b, at_⟩ := u_
  obtain ⟨b', at_'⟩ := v_
  simp [nz_lit, nz1_lit, nz_agg, nz_sl, nz1_sl, encLU] at h
  first | (simp [h]; done) | (obtain ⟨⟩ := h; simp_all; done) | simp_all
@[simp] theorem c31_fn (b : List Int) (at_ : Int) : c31.fn [.sl false 1 (.lit (.int .u8 0)) (ML dU b), .lit (.int .i64 at_)] [] = some ((fun (b : List Int) (at_ : Int) => b.length ≤ 1099511627776 ∧ ∀ x ∈ b, 0 ≤ x ∧ x ≤ 255) b at_, (fun (b : List Int) (at_ : Int) => (rV (mRead b at_) : D)) b at_, (fun (b : List Int) (at_ : Int) => []) b at_) :=
  mkCon_fn (fun x y h _ => c31_inj x y h) ((b, at_) : (List Int) × Int) (by simp [nz, nz1, ML_nil, encLU]) rfl
@[simp] theorem c31_fn1 (s_b : Nat) (z_b : D) (at_ : Int) : c31.fn [.sl false s_b z_b [], .lit (.int .i64 at_)] [] = some ((fun (b : List Int) (at_ : Int) => b.length ≤ 1099511627776 ∧ ∀ x ∈ b, 0 ≤ x ∧ x ≤ 255) [] at_, (fun (b : List Int) (at_ : Int) => (rV (mRead b at_) : D)) [] at_, (fun (b : List Int) (at_ : Int) => []) [] at_) :=
  mkCon_fn (fun x y h _ => c31_inj x y h) (([], at_) : (List Int) × Int) (by simp [nz, nz1, ML_nil, encLU]) rfl
theorem c31_pc (b : List Int) (at_ : Int) (hpre : b.length ≤ 1099511627776 ∧ ∀ x ∈ b, 0 ≤ x ∧ x ≤ 255) : PCo Try.prog 31 [encLU b, dI at_] (Tab.of []) (rV (mRead b at_)) (Tab.of []) := by
  refine pco_of_run [] (E := ⟨[c108, c109], []⟩) (m := false) (base := 0) (Env.ok_cons c108_ok (Env.ok_cons c109_ok Env.ok_nil)) G_ok mix 300 6 Try.func31 (by kernel_rfl) rfl (by kernel_rfl) (by kernel_rfl) rfl ?_
  obtain ⟨hp, hx⟩ := hpre
  cases h : mIn at_ 0 b.length with
  | false =>
    have hm : mRead b at_ = none := by
      simp only [mRead]; split
      · rfl
      · refine rdU_end _ _ _ _ _ ?_
        rw [← Bool.not_eq_true, mIn_iff] at h; simp; omega
    simp [Try.f31, h, hm]
  | true =>
  have hh := mIn_iff.1 h
  have hm : mRead b at_ = rdU b at_ 6 0 0 := by rw [mRead, if_neg (by omega)]
  simp [Try.f31, h]
  refine ⟨by omega, ?_⟩
  refine loop_inv (fun q : Nat × Int => (q.1 : Int) ≤ min (b.length - at_) 6 ∧ mRead b at_ = rdU b at_ (6 - q.1) q.1 q.2) (fun q => [(0, encLU b), (1, dI at_), (7, dI q.2), (20, dI (min (b.length - at_) 6)), (21, dI q.1)]) (fun _ => []) 1 (fun q => 6 - q.1) (0, 0) 400 (by simp) (by simp [hm]; omega) (by simp) ?_
  intro ⟨k, n⟩ ⟨hq, hi⟩
  simp only at hq hi
  simp [-binI, bAnd, bOr, bShl, bShr, bAdd, bSub, bMul, bQuo, bRem, bEql, bNeq, bLss, bLeq, bGtr, bGeq]
  refine ⟨fun hlt => ?_, fun hge => ?_⟩
  · have hb := hx _ (getD_mem (d := 0) (show (at_ + (k : Int)).toNat < b.length by omega))
    obtain ⟨f, hf⟩ : ∃ f, 6 - k = f + 1 := ⟨5 - k, by omega⟩
    rw [hf] at hi
    have hf2 : 6 - (k + 1) = f := by omega
    simp only [rdU] at hi
    rw [if_neg (by omega)] at hi
    have hs : stepU n (b[(at_ + (k : Int)).toNat]?.getD 0) k = orK .i64 n (shlK .i64 (andK .i64 (b[(at_ + (k : Int)).toNat]?.getD 0) 127) (7 * (k : Int))) := rfl
    simp only [hi_iff hb, ← hs]
    refine ⟨⟨by omega, by omega, by omega⟩, by omega, fun h1 => ?_, fun h1 => ?_⟩
    · rw [if_pos h1] at hi
      refine ⟨fun h2 => ?_, fun h2 h3 => ?_⟩
      · rw [if_pos (by rcases h2 with h2 | h2; exact .inl ⟨h2.1, by omega⟩; exact .inr h2)] at hi
        simp [hi]
      · rw [if_neg (by rintro (h4 | h4); exact h4.2 (h2 h4.1); omega)] at hi
        simp [hi]; omega
    · rw [if_neg h1] at hi
      exact ⟨by omega, Again.mk (k + 1, stepU n (b[(at_ + (k : Int)).toNat]?.getD 0) k) ⟨by simp; omega, by simp only [hf2]; exact hi⟩ (by simp [hs]) (by first | omega | (simp; omega))⟩
  · have : rdU b at_ (6 - k) k n = none := by
      by_cases h6 : k = 6
      · subst h6; rfl
      · exact rdU_end _ _ _ _ _ (by omega)
    simp [hi, this]
theorem c31_ok : c31.ok Try.prog := mkCon_ok fun ⟨b, at_⟩ hpre => c31_pc b at_ hpre
/-- loop.example/g03007/spec.ReadUvarint -/
noncomputable def c30 : Con := mkCon 30 false (α := (List Int) × Int) (fun x => (fun (b : List Int) (at_ : Int) => [encLU b, dI at_]) x.1 x.2) (fun _ => []) (fun x => (fun (b : List Int) (at_ : Int) => b.length ≤ 1099511627776 ∧ ∀ x ∈ b, 0 ≤ x ∧ x ≤ 255) x.1 x.2) (fun x => (fun (b : List Int) (at_ : Int) => (rV (mRead b at_) : D)) x.1 x.2) (fun x => (fun (b : List Int) (at_ : Int) => []) x.1 x.2)
@[simp] theorem c30_f : c30.f = 30 := rfl
@[simp] theorem c30_own : c30.own = false := rfl
theorem c30_inj : ∀ u_ v_ : (List Int) × Int, ((fun x => (fun (b : List Int) (at_ : Int) => [encLU b, dI at_]) x.1 x.2) u_).map nz = ((fun x => (fun (b : List Int) (at_ : Int) => [encLU b, dI at_]) x.1 x.2) v_).map nz → u_ = v_ := by
  intro u_ v_ h
  obtain ⟨b, at_⟩ := u_
  obtain ⟨b', at_'⟩ := v_
  simp [nz_lit, nz1_lit, nz_agg, nz_sl, nz1_sl, encLU] at h
  first | (simp [h]; done) | (obtain ⟨⟩ := h; simp_all; done) | simp_all
@[simp] theorem c30_fn (b : List Int) (at_ : Int) : c30.fn [.sl false 1 (.lit (.int .u8 0)) (ML dU b), .lit (.int .i64 at_)] [] = some ((fun (b : List Int) (at_ : Int) => b.length ≤ 1099511627776 ∧ ∀ x ∈ b, 0 ≤ x ∧ x ≤ 255) b at_, (fun (b : List Int) (at_ : Int) => (rV (mRead b at_) : D)) b at_, (fun (b : List Int) (at_ : Int) => []) b at_) :=
  mkCon_fn (fun x y h _ => c30_inj x y h) ((b, at_) : (List Int) × Int) (by simp [nz, nz1, ML_nil, encLU]) rfl
@[simp] theorem c30_fn1 (s_b : Nat) (z_b : D) (at_ : Int) : c30.fn [.sl false s_b z_b [], .lit (.int .i64 at_)] [] = some ((fun (b : List Int) (at_ : Int) => b.length ≤ 1099511627776 ∧ ∀ x ∈ b, 0 ≤ x ∧ x ≤ 255) [] at_, (fun (b : List Int) (at_ : Int) => (rV (mRead b at_) : D)) [] at_, (fun (b : List Int) (at_ : Int) => []) [] at_) :=
  mkCon_fn (fun x y h _ => c30_inj x y h) (([], at_) : (List Int) × Int) (by simp [nz, nz1, ML_nil, encLU]) rfl
theorem c30_pc (b : List Int) (at_ : Int) (hpre : b.length ≤ 1099511627776 ∧ ∀ x ∈ b, 0 ≤ x ∧ x ≤ 255) : PCo Try.prog 30 [encLU b, dI at_] (Tab.of []) (rV (mRead b at_)) (Tab.of []) := by
  refine pco_of_run [] (E := ⟨[], []⟩) (m := false) (base := 0) Env.ok_nil G_ok mix 300 6 Try.func30 (by kernel_rfl) rfl (by kernel_rfl) (by kernel_rfl) rfl ?_
  simp [Try.f30]
  obtain ⟨hp, hx⟩ := hpre
  refine loop_inv (fun q : Nat × Int => q.1 ≤ 6 ∧ mRead b at_ = (if at_ < 0 then none else rdU b at_ (6 - q.1) q.1 q.2)) (fun q => [(0, encLU b), (1, dI at_), (7, dI q.2), (8, dI q.1)]) (fun _ => []) 1 (fun q => 6 - q.1) (0, 0) 400 (by simp) (by simp [mRead]) (by simp) ?_
  intro ⟨k, n⟩ ⟨hq, hi⟩
  simp only at hq hi
  simp [-binI, bAnd, bOr, bShl, bShr, bAdd, bSub, bMul, bQuo, bRem, bEql, bNeq, bLss, bLeq, bGtr, bGeq]
  refine ⟨fun hlt => ⟨fun _ => by omega, fun h1 => ?_, fun h1 h2 => ?_⟩, fun hge => ?_⟩
  · have hm : mRead b at_ = none := by
      rw [hi]; split
      · rfl
      · exact rdU_end _ _ _ _ _ (by omega)
    simp [hm]
  · have hb := hx _ (getD_mem (d := 0) (show (at_ + (k : Int)).toNat < b.length by omega))
    obtain ⟨f, hf⟩ : ∃ f, 6 - k = f + 1 := ⟨5 - k, by omega⟩
    rw [hf, if_neg (by omega)] at hi
    have hf2 : 6 - (k + 1) = f := by omega
    simp only [rdU] at hi
    rw [if_neg (by omega)] at hi
    have hs : stepU n (b[(at_ + (k : Int)).toNat]?.getD 0) k = orK .i64 n (shlK .i64 (andK .i64 (b[(at_ + (k : Int)).toNat]?.getD 0) 127) (7 * (k : Int))) := rfl
    simp only [← hs]
    refine ⟨⟨by omega, by omega, by omega⟩, by omega, fun h1 => ?_, fun h1 => ?_⟩
    · rw [if_pos h1] at hi
      refine ⟨fun h2 => ?_, fun h2 h3 => ?_⟩
      · rw [if_pos (by rcases h2 with h2 | h2; exact .inl ⟨h2.1, by omega⟩; exact .inr h2)] at hi
        simp [hi]
      · rw [if_neg (by rintro (h4 | h4); exact h4.2 (h2 h4.1); omega)] at hi
        simp [hi]; omega
    · rw [if_neg (by omega)] at hi
      exact ⟨by omega, Again.mk (k + 1, stepU n (b[(at_ + (k : Int)).toNat]?.getD 0) k) ⟨by simp; omega, by simp only [hf2]; rw [if_neg (by omega)]; exact hi⟩ (by simp [hs]) (by first | omega | (simp; omega))⟩
  · have h6 : k = 6 := by omega
    subst h6
    have hm : mRead b at_ = none := by
      rw [hi]; split <;> rfl
    simp [hm]
theorem c30_ok : c30.ok Try.prog := mkCon_ok fun ⟨b, at_⟩ hpre => c30_pc b at_ hpre

end Go.Proofs.Ytnkggfhgmdbfpaa
