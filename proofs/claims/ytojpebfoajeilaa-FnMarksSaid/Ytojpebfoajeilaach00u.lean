/- Contracts of the functions that the laws run. -/
import Derived.Test.Ytojpebfoajeilaach00s
import Derived.Test.Ytojpebfoajeilaach05
import Derived.Test.YtojpebfoajeilaaEngB
namespace Go.Proofs.Ytojpebfoajeilaa
open Go Go.Eng
set_option linter.unusedSimpArgs false
set_option linter.unusedVariables false
set_option maxRecDepth 10000
set_option maxHeartbeats 1000000
theorem okCu_any5 {c : TL1Cur} (h : okCu c) : okCu (any5 c).2 := by
  have k1 := okCu_bN (okCu_S5 h) 10
  simp only [any5]
  (repeat' split)
  · exact okCu_bN k1 8
  · exact okCu_bN k1 4
  · exact k1
theorem exAny5 : ∃ (f : TL1Cur → TSpan) (g : TL1Cur → TL1Cur), (∀ (c : TL1Cur), c26.fn [.ptr (0, 0) 0] [((0, 0), .box (.agg [.sl false 1 (.lit (.int .u8 0)) (ML dU c.b_), .lit (.int .i64 c.i_), .lit (.int .i64 c.h_)]))] = some (okCu c, encTSpan (f c), [((0, 0), .box (encTL1Cur (g c)))])) ∧ (∀ c, f c = (any5 c).1) ∧ ∀ c, g c = (any5 c).2 :=
  ⟨fun c => (any5 c).1, fun c => (any5 c).2, fun c => c26_fn c.b_ c.i_ c.h_, fun _ => rfl, fun _ => rfl⟩
theorem exNew : ∃ n : List Int → TL1Cur, (∀ l, c25.fn [.sl false 1 (.lit (.int .u8 0)) (ML dU l)] [] = some (l.length ≤ 2097152, .ptr (0, 1) 0, [((0, 1), .box (encTL1Cur (n l)))])) ∧ ∀ l, n l = newC l := ⟨newC, fun l => c25_fn l, fun _ => rfl⟩
noncomputable def dMa (l : List Int) : TSpan := (any5 (newC l)).1
noncomputable def dMc (l : List Int) : TL1Cur := (any5 (newC l)).2
noncomputable def dMb (l : List Int) : TSpan := (any5 (dMc l)).1
theorem okCu_dMc {l : List Int} (h : l.length ≤ 2097152) : okCu (dMc l) := okCu_any5 (okCu_new h)
/-- loop.example/g03007/spec.DrawMeet -/
noncomputable def c6 : Con := mkCon 6 false (α := (List Int)) (fun x => (fun (l : List Int) => [encLU l]) x) (fun _ => []) (fun x => (fun (l : List Int) => l.length ≤ 2097152) x) (fun x => (fun (l : List Int) => (.tup [encTSpan (dMa l), encTSpan (dMb l)] : D)) x) (fun x => (fun (l : List Int) => []) x)
@[simp] theorem c6_f : c6.f = 6 := rfl
@[simp] theorem c6_own : c6.own = false := rfl
theorem c6_inj : ∀ u_ v_ : (List Int), ((fun x => (fun (l : List Int) => [encLU l]) x) u_).map nz = ((fun x => (fun (l : List Int) => [encLU l]) x) v_).map nz → u_ = v_ := by
  intro u_ v_ h
  obtain l := u_
  obtain l' := v_
  simp [nz_lit, nz1_lit, nz_agg, nz_sl, nz1_sl, encLU] at h
  first | (simp [h]; done) | (obtain ⟨⟩ := h; simp_all; done) | simp_all
@[simp] theorem c6_fn (l : List Int) : c6.fn [.sl false 1 (.lit (.int .u8 0)) (ML dU l)] [] = some ((fun (l : List Int) => l.length ≤ 2097152) l, (fun (l : List Int) => (.tup [encTSpan (dMa l), encTSpan (dMb l)] : D)) l, (fun (l : List Int) => []) l) :=
  mkCon_fn (fun x y h _ => c6_inj x y h) (l : (List Int)) (by simp [nz, nz1, ML_nil, encLU]) rfl
@[simp] theorem c6_fn1 (s_l : Nat) (z_l : D) : c6.fn [.sl false s_l z_l []] [] = some ((fun (l : List Int) => l.length ≤ 2097152) [], (fun (l : List Int) => (.tup [encTSpan (dMa l), encTSpan (dMb l)] : D)) [], (fun (l : List Int) => []) []) :=
  mkCon_fn (fun x y h _ => c6_inj x y h) ([] : (List Int)) (by simp [nz, nz1, ML_nil, encLU]) rfl
theorem c6_pc (l : List Int) (hpre : l.length ≤ 2097152) : PCo Try.prog 6 [encLU l] (Tab.of []) (.tup [encTSpan (dMa l), encTSpan (dMb l)]) (Tab.of []) := by
  refine pco_of_run [1003, 9000026, 10000007] (E := ⟨[c25, c26], [], []⟩) (m := false) (base := 0) (Env.ok_cons c25_ok (Env.ok_cons c26_ok Env.ok_nil)) G_ok mix 300 6 Try.func6 (by kernel_rfl) rfl (by kernel_rfl) (by kernel_rfl) rfl ?_
  have k1 := okCu_new hpre
  have k2 := okCu_dMc hpre
  have ea : dMa l = (any5 (newC l)).1 := rfl
  have ec : dMc l = (any5 (newC l)).2 := rfl
  have eb : dMb l = (any5 (dMc l)).1 := rfl
  rw [ec] at k2 eb
  rw [ea, eb]
  obtain ⟨fn, hn, hn2⟩ := exNew
  obtain ⟨fa, fg, hf, hv, hs⟩ := exAny5
  rw [← hn2] at k1 k2 ⊢
  rw [← hs] at k2
  rw [← hv, ← hs, ← hv]
  simp [Try.f6, hn, hf, -c25_fn, -c26_fn, hpre, k1, k2]
  first | done | trace_state
theorem c6_ok : c6.ok Try.prog := mkCon_ok fun l hpre => c6_pc l hpre
noncomputable def dHk (l : List Int) : Int := bV (dMc l) 90
/-- loop.example/g03007/spec.DrawHolds -/
noncomputable def c12 : Con := mkCon 12 false (α := (List Int)) (fun x => (fun (l : List Int) => [encLU l]) x) (fun _ => []) (fun x => (fun (l : List Int) => l.length ≤ 2097152) x) (fun x => (fun (l : List Int) => (.tup [encTSpan (dMa l), dI (dHk l)] : D)) x) (fun x => (fun (l : List Int) => []) x)
@[simp] theorem c12_f : c12.f = 12 := rfl
@[simp] theorem c12_own : c12.own = false := rfl
theorem c12_inj : ∀ u_ v_ : (List Int), ((fun x => (fun (l : List Int) => [encLU l]) x) u_).map nz = ((fun x => (fun (l : List Int) => [encLU l]) x) v_).map nz → u_ = v_ := by
  intro u_ v_ h
  obtain l := u_
  obtain l' := v_
  simp [nz_lit, nz1_lit, nz_agg, nz_sl, nz1_sl, encLU] at h
  first | (simp [h]; done) | (obtain ⟨⟩ := h; simp_all; done) | simp_all
@[simp] theorem c12_fn (l : List Int) : c12.fn [.sl false 1 (.lit (.int .u8 0)) (ML dU l)] [] = some ((fun (l : List Int) => l.length ≤ 2097152) l, (fun (l : List Int) => (.tup [encTSpan (dMa l), dI (dHk l)] : D)) l, (fun (l : List Int) => []) l) :=
  mkCon_fn (fun x y h _ => c12_inj x y h) (l : (List Int)) (by simp [nz, nz1, ML_nil, encLU]) rfl
@[simp] theorem c12_fn1 (s_l : Nat) (z_l : D) : c12.fn [.sl false s_l z_l []] [] = some ((fun (l : List Int) => l.length ≤ 2097152) [], (fun (l : List Int) => (.tup [encTSpan (dMa l), dI (dHk l)] : D)) [], (fun (l : List Int) => []) []) :=
  mkCon_fn (fun x y h _ => c12_inj x y h) ([] : (List Int)) (by simp [nz, nz1, ML_nil, encLU]) rfl
theorem c12_pc (l : List Int) (hpre : l.length ≤ 2097152) : PCo Try.prog 12 [encLU l] (Tab.of []) (.tup [encTSpan (dMa l), dI (dHk l)]) (Tab.of []) := by
  refine pco_of_run [1003, 9000032, 10000007] (E := ⟨[c25, c26, c32], [], []⟩) (m := false) (base := 0) (Env.ok_cons c25_ok (Env.ok_cons c26_ok (Env.ok_cons c32_ok Env.ok_nil))) G_ok mix 300 6 Try.func12 (by kernel_rfl) rfl (by kernel_rfl) (by kernel_rfl) rfl ?_
  have k1 := okCu_new hpre
  have k2 := okCu_dMc hpre
  have ea : dMa l = (any5 (newC l)).1 := rfl
  have ec : dMc l = (any5 (newC l)).2 := rfl
  have eb : dHk l = bV (dMc l) 90 := rfl
  rw [ec] at k2 eb
  rw [ea, eb]
  obtain ⟨fn, hn, hn2⟩ := exNew
  obtain ⟨fa, fg, hf, hv, hs⟩ := exAny5
  obtain ⟨fv, fs, hb, hbv, hbs⟩ := exBel
  rw [← hn2] at k1 k2 ⊢
  rw [← hs] at k2
  rw [← hv, ← hs, ← hbv]
  simp [Try.f12, hn, hf, hb, -c25_fn, -c26_fn, -c32_fn, hpre, k1, k2]
  first | done | trace_state
theorem c12_ok : c12.ok Try.prog := mkCon_ok fun l hpre => c12_pc l hpre
def limW : List Int := [0, 1, 24, 100000, 100001, -1]
noncomputable def dWk (l : List Int) : Int := limW[(bV (dMc l) 6).toNat]?.getD 0
/-- loop.example/g03007/spec.DrawWiden -/
noncomputable def c13 : Con := mkCon 13 false (α := (List Int)) (fun x => (fun (l : List Int) => [encLU l]) x) (fun _ => []) (fun x => (fun (l : List Int) => l.length ≤ 2097152) x) (fun x => (fun (l : List Int) => (.tup [encTSpan (dMa l), dI (dWk l)] : D)) x) (fun x => (fun (l : List Int) => []) x)
@[simp] theorem c13_f : c13.f = 13 := rfl
@[simp] theorem c13_own : c13.own = false := rfl
theorem c13_inj : ∀ u_ v_ : (List Int), ((fun x => (fun (l : List Int) => [encLU l]) x) u_).map nz = ((fun x => (fun (l : List Int) => [encLU l]) x) v_).map nz → u_ = v_ := by
  intro u_ v_ h
  obtain l := u_
  obtain l' := v_
  simp [nz_lit, nz1_lit, nz_agg, nz_sl, nz1_sl, encLU] at h
  first | (simp [h]; done) | (obtain ⟨⟩ := h; simp_all; done) | simp_all
@[simp] theorem c13_fn (l : List Int) : c13.fn [.sl false 1 (.lit (.int .u8 0)) (ML dU l)] [] = some ((fun (l : List Int) => l.length ≤ 2097152) l, (fun (l : List Int) => (.tup [encTSpan (dMa l), dI (dWk l)] : D)) l, (fun (l : List Int) => []) l) :=
  mkCon_fn (fun x y h _ => c13_inj x y h) (l : (List Int)) (by simp [nz, nz1, ML_nil, encLU]) rfl
@[simp] theorem c13_fn1 (s_l : Nat) (z_l : D) : c13.fn [.sl false s_l z_l []] [] = some ((fun (l : List Int) => l.length ≤ 2097152) [], (fun (l : List Int) => (.tup [encTSpan (dMa l), dI (dWk l)] : D)) [], (fun (l : List Int) => []) []) :=
  mkCon_fn (fun x y h _ => c13_inj x y h) ([] : (List Int)) (by simp [nz, nz1, ML_nil, encLU]) rfl
theorem c13_pc (l : List Int) (hpre : l.length ≤ 2097152) : PCo Try.prog 13 [encLU l] (Tab.of []) (.tup [encTSpan (dMa l), dI (dWk l)]) (Tab.of []) := by
  refine pco_of_run [1003, 9000033, 11000007] (E := ⟨[c25, c26, c33], [], []⟩) (m := false) (base := 1000000) (Env.ok_cons c25_ok (Env.ok_cons c26_ok (Env.ok_cons c33_ok Env.ok_nil))) G_ok mix 300 6 Try.func13 (by kernel_rfl) rfl (by kernel_rfl) (by kernel_rfl) rfl ?_
  have k1 := okCu_new hpre
  have k2 := okCu_dMc hpre
  have ea : dMa l = (any5 (newC l)).1 := rfl
  have ec : dMc l = (any5 (newC l)).2 := rfl
  have eb : dWk l = limW[(bV (dMc l) limW.length).toNat]?.getD 0 := rfl
  rw [ec] at k2 eb
  rw [ea, eb]
  obtain ⟨fn, hn, hn2⟩ := exNew
  obtain ⟨fa, fg, hf, hv, hs⟩ := exAny5
  obtain ⟨fi, fm, hfi, hvi, hsi⟩ := exBelI
  rw [← hn2] at k1 k2 ⊢
  rw [← hs] at k2
  rw [← hv, ← hs, ← hvi]
  have hl : limW = [0, 1, 24, 100000, 100001, -1] := rfl
  have hfi6 := fun a0 a1 a2 a3 a4 a5 => hfi (fg (fn l)) [a0, a1, a2, a3, a4, a5]
  have e6 : ∀ a0 a1 a2 a3 a4 a5 : Int, ML dI [a0, a1, a2, a3, a4, a5] = [dI a0, dI a1, dI a2, dI a3, dI a4, dI a5] := fun _ _ _ _ _ _ => rfl
  have e7 : ∀ a0 a1 a2 a3 a4 a5 : Int, (([a0, a1, a2, a3, a4, a5] : List Int).length : Int) = 6 := fun _ _ _ _ _ _ => rfl
  simp only [e6, e7] at hfi6
  rw [hl]
  clear hvi hsi hv hs hn2
  simp [Try.f13, hn, hf, hfi6, -c25_fn, -c26_fn, -c33_fn, hpre, k1, k2]
  first | done | trace_state
theorem c13_ok : c13.ok Try.prog := mkCon_ok fun l hpre => c13_pc l hpre

end Go.Proofs.Ytojpebfoajeilaa
