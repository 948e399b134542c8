/- Contracts of the functions that the laws run. -/
import Derived.Test.Ytojpebfoajeilaach00m
import Derived.Test.YtojpebfoajeilaaEngB
namespace Go.Proofs.Ytojpebfoajeilaa
open Go Go.Eng
set_option linter.unusedSimpArgs false
set_option linter.unusedVariables false
set_option maxRecDepth 10000
set_option maxHeartbeats 1000000
theorem any11_ex (c : TL1Cur) (hc : okCu c) : ∃ (l : List TMark) (c' : TL1Cur), okCu c' ∧ l.length ≤ 6 ∧ PCo Try.prog 34 [.ptr (0, 0) 0] (Tab.of [((0, 0), .box (encTL1Cur c))]) (.own (0, 1) 2 0 l.length) (Tab.of [((0, 0), .box (encTL1Cur c')), ((0, 1), .arr false 2 yTMark (ML encTMark l))]) := by
  obtain ⟨fd, fe, hfd, hfl, hfk⟩ := ex11
  obtain ⟨fv, fs, hf, hv, hs⟩ := exBel
  obtain ⟨fi, fn, hfi, hvi, hsi⟩ := exBelI
  have k1 := hfk c hc
  have k2 : ∀ n, okCu (fs (fe c) n) := fun n => by rw [hs]; exact okCu_bN k1 n
  have k3 : ∀ n m, okCu (fs (fs (fe c) n) m) := fun n m => by rw [hs]; exact okCu_bN (k2 n) m
  have k4 : ∀ n m j, okCu (fn (fs (fs (fe c) n) m) j) := fun n m j => by rw [hsi]; exact okCu_bN (k3 n m) j
  have hlen := hfl c
  have e3 : ∀ a0 a1 a2 : Int, ML dI [a0, a1, a2] = [dI a0, dI a1, dI a2] := fun _ _ _ => rfl
  have e5 : ∀ a0 a1 a2 : Int, (([a0, a1, a2] : List Int).length : Int) = 3 := fun _ _ _ => rfl
  have hfi3 := fun c' a0 a1 a2 => hfi c' [a0, a1, a2]
  simp only [e3, e5] at hfi3
  by_cases h0 : (fd c).length = 0
  · refine ⟨fd c, fe c, k1, hlen, ?_⟩
    refine pco_of_run [] (E := ⟨[c48, c32, c33], [], []⟩) (m := false) (base := 1000000) (Env.ok_cons c48_ok (Env.ok_cons c32_ok (Env.ok_cons c33_ok Env.ok_nil))) G_ok mix 300 6 Try.func34 (by kernel_rfl) rfl (by kernel_rfl) (by kernel_rfl) rfl ?_
    simp [Try.f34, hfd, hf, hfi3, -c48_fn, -c32_fn, -c33_fn, h0, hc]
    first | done | exact ⟨hi, hlt⟩ | trace_state
  · have hi : 0 ≤ fv (fe c) (fd c).length ∧ fv (fe c) (fd c).length < (fd c).length := by rw [hv]; exact bV_bd _ _ (by omega)
    have hne : ¬ fd c = [] := by intro e; rw [e] at h0; exact h0 rfl
    have hlt : (fv (fe c) (fd c).length).toNat < (fd c).length := by omega
    by_cases q0 : fv (fs (fe c) (fd c).length) 9 = 0
    · refine ⟨(fd c).set (fv (fe c) (fd c).length).toNat ⟨fi (fs (fs (fe c) (fd c).length) 9) [0, 20, 21], ((fd c)[(fv (fe c) (fd c).length).toNat]?.getD default).Answer⟩, fn (fs (fs (fe c) (fd c).length) 9) 3, k4 _ _ _, by simpa using hlen, ?_⟩
      refine pco_of_run [] (E := ⟨[c48, c32, c33], [], []⟩) (m := false) (base := 1000000) (Env.ok_cons c48_ok (Env.ok_cons c32_ok (Env.ok_cons c33_ok Env.ok_nil))) G_ok mix 300 6 Try.func34 (by kernel_rfl) rfl (by kernel_rfl) (by kernel_rfl) rfl ?_
      simp [Try.f34, hfd, hf, hfi3, -c48_fn, -c32_fn, -c33_fn, h0, hc, hne, q0, k1, k2, k3]
      first | done | exact ⟨hi, hlt⟩ | trace_state
    · by_cases q1 : fv (fs (fe c) (fd c).length) 9 = 1
      · refine ⟨(fd c).set (fv (fe c) (fd c).length).toNat ⟨((fd c)[(fv (fe c) (fd c).length).toNat]?.getD default).Question, fi (fs (fs (fe c) (fd c).length) 9) [-1, 99, 100]⟩, fn (fs (fs (fe c) (fd c).length) 9) 3, k4 _ _ _, by simpa using hlen, ?_⟩
        refine pco_of_run [] (E := ⟨[c48, c32, c33], [], []⟩) (m := false) (base := 1000000) (Env.ok_cons c48_ok (Env.ok_cons c32_ok (Env.ok_cons c33_ok Env.ok_nil))) G_ok mix 300 6 Try.func34 (by kernel_rfl) rfl (by kernel_rfl) (by kernel_rfl) rfl ?_
        simp [Try.f34, hfd, hf, hfi3, -c48_fn, -c32_fn, -c33_fn, h0, hc, hne, q0, q1, k1, k2, k3]
        first | done | exact ⟨hi, hlt⟩ | trace_state
      · refine ⟨fd c, fs (fs (fe c) (fd c).length) 9, k3 _ _, hlen, ?_⟩
        refine pco_of_run [] (E := ⟨[c48, c32, c33], [], []⟩) (m := false) (base := 1000000) (Env.ok_cons c48_ok (Env.ok_cons c32_ok (Env.ok_cons c33_ok Env.ok_nil))) G_ok mix 300 6 Try.func34 (by kernel_rfl) rfl (by kernel_rfl) (by kernel_rfl) rfl ?_
        simp [Try.f34, hfd, hf, hfi3, -c48_fn, -c32_fn, -c33_fn, h0, hc, hne, q0, q1, k1, k2, k3]
        first | done | exact ⟨hi, hlt⟩ | trace_state
open Classical in
noncomputable def a11 (c : TL1Cur) : List TMark × TL1Cur := if h : okCu c then (Classical.choose (any11_ex c h), Classical.choose (Classical.choose_spec (any11_ex c h))) else ([], c)
theorem a11_spec {c : TL1Cur} (h : okCu c) : okCu (a11 c).2 ∧ (a11 c).1.length ≤ 6 ∧ PCo Try.prog 34 [.ptr (0, 0) 0] (Tab.of [((0, 0), .box (encTL1Cur c))]) (.own (0, 1) 2 0 (a11 c).1.length) (Tab.of [((0, 0), .box (encTL1Cur (a11 c).2)), ((0, 1), .arr false 2 yTMark (ML encTMark (a11 c).1))]) := by
  have e : a11 c = (Classical.choose (any11_ex c h), Classical.choose (Classical.choose_spec (any11_ex c h))) := by rw [a11, dif_pos h]
  rw [e]
  exact Classical.choose_spec (Classical.choose_spec (any11_ex c h))
/-- loop.example/g03007/spec.l11Any -/
noncomputable def c34 : Con := mkCon 34 true (α := TL1Cur) (fun x => (fun (c : TL1Cur) => ([.ptr (0, 0) 0] : List D)) x) (fun x => (fun (c : TL1Cur) => ([((0, 0), .box (encTL1Cur c))] : List (Nm × OO))) x) (fun x => (fun (c : TL1Cur) => okCu c) x) (fun x => (fun (c : TL1Cur) => (.own (0, 1) 2 0 (a11 c).1.length : D)) x) (fun x => (fun (c : TL1Cur) => ([((0, 0), .box (encTL1Cur (a11 c).2)), ((0, 1), .arr false 2 yTMark (ML encTMark (a11 c).1))] : List (Nm × OO))) x)
@[simp] theorem c34_f : c34.f = 34 := rfl
@[simp] theorem c34_own : c34.own = true := rfl
theorem c34_inj : ∀ u_ v_ : TL1Cur, ((fun x => (fun (c : TL1Cur) => ([.ptr (0, 0) 0] : List D)) x) u_).map nz = ((fun x => (fun (c : TL1Cur) => ([.ptr (0, 0) 0] : List D)) x) v_).map nz → (fun x => (fun (c : TL1Cur) => ([((0, 0), .box (encTL1Cur c))] : List (Nm × OO))) x) u_ = (fun x => (fun (c : TL1Cur) => ([((0, 0), .box (encTL1Cur c))] : List (Nm × OO))) x) v_ → u_ = v_ := by
  intro u_ v_ h h2_
  obtain ⟨c_b_, c_i_, c_h_⟩ := u_
  obtain ⟨c_b_', c_i_', c_h_'⟩ := v_
  simp [nz_lit, nz1_lit, nz_agg, nz_sl, nz1_sl, nz_sx, nz_el, nz1_el, nz_own, nz1_own, nz_ptr, nz_fn, nz_iface] at h h2_
  first | (simp [h, h2_]; done) | (obtain ⟨h3_, h4_⟩ := List.append_inj h2_ h.1; simp_all; done) | simp_all | grind
@[simp] theorem c34_fn (c_b_ : List Int) (c_i_ : Int) (c_h_ : Int) : c34.fn ([.ptr (0, 0) 0]) ([((0, 0), .box (.agg [.sl false 1 (.lit (.int .u8 0)) (ML dU c_b_), .lit (.int .i64 c_i_), .lit (.int .i64 c_h_)]))]) = some (okCu (⟨c_b_, c_i_, c_h_⟩ : TL1Cur), .own (0, 1) 2 0 (a11 (⟨c_b_, c_i_, c_h_⟩ : TL1Cur)).1.length, [((0, 0), .box (encTL1Cur (a11 (⟨c_b_, c_i_, c_h_⟩ : TL1Cur)).2)), ((0, 1), .arr false 2 yTMark (ML encTMark (a11 (⟨c_b_, c_i_, c_h_⟩ : TL1Cur)).1))]) :=
  mkCon_fn c34_inj (⟨c_b_, c_i_, c_h_⟩ : TL1Cur) rfl rfl
theorem c34_pc (c : TL1Cur) (hpre : okCu c) : PCo Try.prog 34 ([.ptr (0, 0) 0]) (Tab.of ([((0, 0), .box (encTL1Cur c))])) (.own (0, 1) 2 0 (a11 c).1.length) (Tab.of ([((0, 0), .box (encTL1Cur (a11 c).2)), ((0, 1), .arr false 2 yTMark (ML encTMark (a11 c).1))])) := by
  exact (a11_spec hpre).2.2
theorem c34_ok : c34.ok Try.prog := mkCon_ok fun c hpre => c34_pc c hpre
theorem exA11 : ∃ (f : TL1Cur → List TMark) (g : TL1Cur → TL1Cur), (∀ (c : TL1Cur), c34.fn [.ptr (0, 0) 0] [((0, 0), .box (.agg [.sl false 1 (.lit (.int .u8 0)) (ML dU c.b_), .lit (.int .i64 c.i_), .lit (.int .i64 c.h_)]))] = some (okCu c, .own (0, 1) 2 0 (f c).length, [((0, 0), .box (encTL1Cur (g c))), ((0, 1), .arr false 2 yTMark (ML encTMark (f c)))])) ∧ (∀ c, f c = (a11 c).1) ∧ ∀ c, g c = (a11 c).2 :=
  ⟨fun c => (a11 c).1, fun c => (a11 c).2, fun c => c34_fn c.b_ c.i_ c.h_, fun _ => rfl, fun _ => rfl⟩
noncomputable def dSl (l : List Int) : List TMark := (a11 (newC l)).1
noncomputable def dSn (l : List Int) : Int := bV (a11 (newC l)).2 99
/-- loop.example/g03007/spec.DrawSealMarks -/
noncomputable def c16 : Con := mkCon 16 false (α := (List Int)) (fun x => (fun (l : List Int) => [encLU l]) x) (fun _ => []) (fun x => (fun (l : List Int) => l.length ≤ 2097152) x) (fun x => (fun (l : List Int) => (.tup [.sl false 2 yTMark (ML encTMark (dSl l)), dI (dSn l)] : D)) x) (fun x => (fun (l : List Int) => []) x)
@[simp] theorem c16_f : c16.f = 16 := rfl
@[simp] theorem c16_own : c16.own = false := rfl
theorem c16_inj : ∀ u_ v_ : (List Int), ((fun x => (fun (l : List Int) => [encLU l]) x) u_).map nz = ((fun x => (fun (l : List Int) => [encLU l]) x) v_).map nz → u_ = v_ := by
  intro u_ v_ h
  obtain l := u_
  obtain l' := v_
  simp [nz_lit, nz1_lit, nz_agg, nz_sl, nz1_sl, encLU] at h
  first | (simp [h]; done) | (obtain ⟨⟩ := h; simp_all; done) | simp_all
@[simp] theorem c16_fn (l : List Int) : c16.fn [.sl false 1 (.lit (.int .u8 0)) (ML dU l)] [] = some ((fun (l : List Int) => l.length ≤ 2097152) l, (fun (l : List Int) => (.tup [.sl false 2 yTMark (ML encTMark (dSl l)), dI (dSn l)] : D)) l, (fun (l : List Int) => []) l) :=
  mkCon_fn (fun x y h _ => c16_inj x y h) (l : (List Int)) (by simp [nz, nz1, ML_nil, encLU]) rfl
@[simp] theorem c16_fn1 (s_l : Nat) (z_l : D) : c16.fn [.sl false s_l z_l []] [] = some ((fun (l : List Int) => l.length ≤ 2097152) [], (fun (l : List Int) => (.tup [.sl false 2 yTMark (ML encTMark (dSl l)), dI (dSn l)] : D)) [], (fun (l : List Int) => []) []) :=
  mkCon_fn (fun x y h _ => c16_inj x y h) ([] : (List Int)) (by simp [nz, nz1, ML_nil, encLU]) rfl
theorem c16_pc (l : List Int) (hpre : l.length ≤ 2097152) : PCo Try.prog 16 [encLU l] (Tab.of []) (.tup [.sl false 2 yTMark (ML encTMark (dSl l)), dI (dSn l)]) (Tab.of []) := by
  refine pco_of_run [] (E := ⟨[c25, c32, c34], [], []⟩) (m := false) (base := 0) (Env.ok_cons c25_ok (Env.ok_cons c32_ok (Env.ok_cons c34_ok Env.ok_nil))) G_ok mix 300 6 Try.func16 (by kernel_rfl) rfl (by kernel_rfl) (by kernel_rfl) rfl ?_
  have k1 := okCu_new hpre
  have k2 := (a11_spec k1).1
  have ek : dSl l = (a11 (newC l)).1 := rfl
  have eb : dSn l = bV (a11 (newC l)).2 99 := rfl
  rw [ek, eb]
  obtain ⟨fn, hn, hn2⟩ := exNew
  obtain ⟨fa, ga, ha, ha1, ha2⟩ := exA11
  obtain ⟨fv, fs, hf, hv, hs⟩ := exBel
  rw [← hn2] at k1 k2 ⊢
  rw [← ha2] at k2 ⊢
  rw [← ha1, ← hv]
  clear hn2 ha1 ha2 hv hs
  simp [Try.f16, hn, ha, hf, -c25_fn, -c34_fn, -c32_fn, hpre, k1, k2]
theorem c16_ok : c16.ok Try.prog := mkCon_ok fun l hpre => c16_pc l hpre
def lim7 : List Int := [0, 1, 2, 7, 1000, 1001, -1]
noncomputable def dQn (l : List Int) : Int := lim7[(bV (newC l) 7).toNat]?.getD 0
/-- loop.example/g03007/spec.DrawQuestionFor -/
noncomputable def c20 : Con := mkCon 20 false (α := (List Int)) (fun x => (fun (l : List Int) => [encLU l]) x) (fun _ => []) (fun x => (fun (l : List Int) => l.length ≤ 2097152) x) (fun x => (fun (l : List Int) => (.tup [.sl false 2 yTMark (ML encTMark (dSl l)), dI (dSn l), dI (dQn l)] : D)) x) (fun x => (fun (l : List Int) => []) x)
@[simp] theorem c20_f : c20.f = 20 := rfl
@[simp] theorem c20_own : c20.own = false := rfl
theorem c20_inj : ∀ u_ v_ : (List Int), ((fun x => (fun (l : List Int) => [encLU l]) x) u_).map nz = ((fun x => (fun (l : List Int) => [encLU l]) x) v_).map nz → u_ = v_ := by
  intro u_ v_ h
  obtain l := u_
  obtain l' := v_
  simp [nz_lit, nz1_lit, nz_agg, nz_sl, nz1_sl, encLU] at h
  first | (simp [h]; done) | (obtain ⟨⟩ := h; simp_all; done) | simp_all
@[simp] theorem c20_fn (l : List Int) : c20.fn [.sl false 1 (.lit (.int .u8 0)) (ML dU l)] [] = some ((fun (l : List Int) => l.length ≤ 2097152) l, (fun (l : List Int) => (.tup [.sl false 2 yTMark (ML encTMark (dSl l)), dI (dSn l), dI (dQn l)] : D)) l, (fun (l : List Int) => []) l) :=
  mkCon_fn (fun x y h _ => c20_inj x y h) (l : (List Int)) (by simp [nz, nz1, ML_nil, encLU]) rfl
@[simp] theorem c20_fn1 (s_l : Nat) (z_l : D) : c20.fn [.sl false s_l z_l []] [] = some ((fun (l : List Int) => l.length ≤ 2097152) [], (fun (l : List Int) => (.tup [.sl false 2 yTMark (ML encTMark (dSl l)), dI (dSn l), dI (dQn l)] : D)) [], (fun (l : List Int) => []) []) :=
  mkCon_fn (fun x y h _ => c20_inj x y h) ([] : (List Int)) (by simp [nz, nz1, ML_nil, encLU]) rfl
theorem c20_pc (l : List Int) (hpre : l.length ≤ 2097152) : PCo Try.prog 20 [encLU l] (Tab.of []) (.tup [.sl false 2 yTMark (ML encTMark (dSl l)), dI (dSn l), dI (dQn l)]) (Tab.of []) := by
  refine pco_of_run [] (E := ⟨[c16, c25, c33], [], []⟩) (m := false) (base := 1000000) (Env.ok_cons c16_ok (Env.ok_cons c25_ok (Env.ok_cons c33_ok Env.ok_nil))) G_ok mix 300 6 Try.func20 (by kernel_rfl) rfl (by kernel_rfl) (by kernel_rfl) rfl ?_
  have k1 := okCu_new hpre
  have eb : dQn l = lim7[(bV (newC l) lim7.length).toNat]?.getD 0 := rfl
  rw [eb]
  obtain ⟨fn, hn, hn2⟩ := exNew
  obtain ⟨fi, fm, hfi, hvi, hsi⟩ := exBelI
  rw [← hn2] at k1 ⊢
  rw [← hvi]
  have hl : lim7 = [0, 1, 2, 7, 1000, 1001, -1] := rfl
  have hfi7 := fun a0 a1 a2 a3 a4 a5 a6 => hfi (fn l) [a0, a1, a2, a3, a4, a5, a6]
  have e6 : ∀ a0 a1 a2 a3 a4 a5 a6 : Int, ML dI [a0, a1, a2, a3, a4, a5, a6] = [dI a0, dI a1, dI a2, dI a3, dI a4, dI a5, dI a6] := fun _ _ _ _ _ _ _ => rfl
  have e7 : ∀ a0 a1 a2 a3 a4 a5 a6 : Int, (([a0, a1, a2, a3, a4, a5, a6] : List Int).length : Int) = 7 := fun _ _ _ _ _ _ _ => rfl
  simp only [e6, e7] at hfi7
  rw [hl]
  clear hn2 hvi hsi
  simp [Try.f20, hn, hfi7, -c25_fn, -c33_fn, hpre, k1]
  first | done | trace_state
theorem c20_ok : c20.ok Try.prog := mkCon_ok fun l hpre => c20_pc l hpre
def lim4 : List Int := [0, 5, 99, 100]
noncomputable def dPm (l : List Int) : TMark := ⟨bV (a11 (newC l)).2 12, lim4[(bV (bN (a11 (newC l)).2 12) 4).toNat]?.getD 0⟩
/-- loop.example/g03007/spec.DrawPutMark -/
noncomputable def c23 : Con := mkCon 23 false (α := (List Int)) (fun x => (fun (l : List Int) => [encLU l]) x) (fun _ => []) (fun x => (fun (l : List Int) => l.length ≤ 2097152) x) (fun x => (fun (l : List Int) => (.tup [.sl false 2 yTMark (ML encTMark (dSl l)), encTMark (dPm l)] : D)) x) (fun x => (fun (l : List Int) => []) x)
@[simp] theorem c23_f : c23.f = 23 := rfl
@[simp] theorem c23_own : c23.own = false := rfl
theorem c23_inj : ∀ u_ v_ : (List Int), ((fun x => (fun (l : List Int) => [encLU l]) x) u_).map nz = ((fun x => (fun (l : List Int) => [encLU l]) x) v_).map nz → u_ = v_ := by
  intro u_ v_ h
  obtain l := u_
  obtain l' := v_
  simp [nz_lit, nz1_lit, nz_agg, nz_sl, nz1_sl, encLU] at h
  first | (simp [h]; done) | (obtain ⟨⟩ := h; simp_all; done) | simp_all
@[simp] theorem c23_fn (l : List Int) : c23.fn [.sl false 1 (.lit (.int .u8 0)) (ML dU l)] [] = some ((fun (l : List Int) => l.length ≤ 2097152) l, (fun (l : List Int) => (.tup [.sl false 2 yTMark (ML encTMark (dSl l)), encTMark (dPm l)] : D)) l, (fun (l : List Int) => []) l) :=
  mkCon_fn (fun x y h _ => c23_inj x y h) (l : (List Int)) (by simp [nz, nz1, ML_nil, encLU]) rfl
@[simp] theorem c23_fn1 (s_l : Nat) (z_l : D) : c23.fn [.sl false s_l z_l []] [] = some ((fun (l : List Int) => l.length ≤ 2097152) [], (fun (l : List Int) => (.tup [.sl false 2 yTMark (ML encTMark (dSl l)), encTMark (dPm l)] : D)) [], (fun (l : List Int) => []) []) :=
  mkCon_fn (fun x y h _ => c23_inj x y h) ([] : (List Int)) (by simp [nz, nz1, ML_nil, encLU]) rfl
theorem c23_pc (l : List Int) (hpre : l.length ≤ 2097152) : PCo Try.prog 23 [encLU l] (Tab.of []) (.tup [.sl false 2 yTMark (ML encTMark (dSl l)), encTMark (dPm l)]) (Tab.of []) := by
  refine pco_of_run [] (E := ⟨[c25, c32, c33, c34], [], []⟩) (m := false) (base := 1000000) (Env.ok_cons c25_ok (Env.ok_cons c32_ok (Env.ok_cons c33_ok (Env.ok_cons c34_ok Env.ok_nil)))) G_ok mix 300 6 Try.func23 (by kernel_rfl) rfl (by kernel_rfl) (by kernel_rfl) rfl ?_
  have k1 := okCu_new hpre
  have k2 := (a11_spec k1).1
  have k3 := okCu_bN k2 12
  have ek : dSl l = (a11 (newC l)).1 := rfl
  have eb : dPm l = ⟨bV (a11 (newC l)).2 12, lim4[(bV (bN (a11 (newC l)).2 12) lim4.length).toNat]?.getD 0⟩ := rfl
  rw [ek, eb]
  obtain ⟨fn, hn, hn2⟩ := exNew
  obtain ⟨fa, ga, ha, ha1, ha2⟩ := exA11
  obtain ⟨fv, fs, hf, hv, hs⟩ := exBel
  obtain ⟨fi, fm, hfi, hvi, hsi⟩ := exBelI
  rw [← hn2] at k1 k2 k3 ⊢
  rw [← ha2] at k2 k3 ⊢
  rw [← hs] at k3 ⊢
  rw [← ha1, ← hv, ← hvi]
  have hl : lim4 = [0, 5, 99, 100] := rfl
  have hfi4 := fun a0 a1 a2 a3 => hfi (fs (ga (fn l)) 12) [a0, a1, a2, a3]
  have e6 : ∀ a0 a1 a2 a3 : Int, ML dI [a0, a1, a2, a3] = [dI a0, dI a1, dI a2, dI a3] := fun _ _ _ _ => rfl
  have e7 : ∀ a0 a1 a2 a3 : Int, (([a0, a1, a2, a3] : List Int).length : Int) = 4 := fun _ _ _ _ => rfl
  simp only [e6, e7] at hfi4
  rw [hl]
  clear hn2 ha1 ha2 hv hs hvi hsi
  simp [Try.f23, hn, ha, hf, hfi4, -c25_fn, -c34_fn, -c32_fn, -c33_fn, hpre, k1, k2, k3]
  first | done | trace_state
theorem c23_ok : c23.ok Try.prog := mkCon_ok fun l hpre => c23_pc l hpre
theorem exDM11 : ∃ (L : List Int → List TMark) (S Q : List Int → Int) (M : List Int → TMark), (∀ l, c16.fn [.sl false 1 (.lit (.int .u8 0)) (ML dU l)] [] = some (l.length ≤ 2097152, .tup [.sl false 2 yTMark (ML encTMark (L l)), dI (S l)], [])) ∧
    (∀ l, c20.fn [.sl false 1 (.lit (.int .u8 0)) (ML dU l)] [] = some (l.length ≤ 2097152, .tup [.sl false 2 yTMark (ML encTMark (L l)), dI (S l), dI (Q l)], [])) ∧
    (∀ l, c23.fn [.sl false 1 (.lit (.int .u8 0)) (ML dU l)] [] = some (l.length ≤ 2097152, .tup [.sl false 2 yTMark (ML encTMark (L l)), encTMark (M l)], [])) ∧ ∀ l, l.length ≤ 2097152 → (L l).length ≤ 6 :=
  ⟨dSl, dSn, dQn, dPm, fun l => c16_fn l, fun l => c20_fn l, fun l => c23_fn l, fun l h => (a11_spec (okCu_new h)).2.1⟩

end Go.Proofs.Ytojpebfoajeilaa
