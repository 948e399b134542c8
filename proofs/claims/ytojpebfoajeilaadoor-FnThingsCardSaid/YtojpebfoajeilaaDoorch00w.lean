/- Contracts of the functions that the laws run. -/
import Derived.Test.YtojpebfoajeilaaDoorch00l
import Derived.Test.YtojpebfoajeilaaDoorEngB
namespace Go.Proofs.YtojpebfoajeilaaDoor
open Go Go.Eng
set_option linter.unusedSimpArgs false
set_option linter.unusedVariables false
set_option maxRecDepth 10000
set_option maxHeartbeats 1000000
open Classical in
noncomputable def a4l (c : TL1Cur) : List TThing × TL1Cur := if h : okCu c then (Classical.choose (list4_ex c h), Classical.choose (Classical.choose_spec (list4_ex c h))) else ([], c)
theorem a4l_spec {c : TL1Cur} (h : okCu c) : okCu (a4l c).2 ∧ (a4l c).1.length ≤ 6 ∧ PCo Tryd.prog 19 [.ptr (0, 0) 0] (Tab.of [((0, 0), .box (encTL1Cur c))]) (.own (0, 1) 5 0 (a4l c).1.length) (Tab.of [((0, 0), .box (encTL1Cur (a4l c).2)), ((0, 1), .arr false 5 yTThing (ML encTThing (a4l c).1))]) := by
  have e : a4l c = (Classical.choose (list4_ex c h), Classical.choose (Classical.choose_spec (list4_ex c h))) := by rw [a4l, dif_pos h]
  rw [e]
  exact Classical.choose_spec (Classical.choose_spec (list4_ex c h))
/-- loop.example/g03007/spec.l4List -/
noncomputable def c19 : Con := mkCon 19 true (α := TL1Cur) (fun x => (fun (c : TL1Cur) => ([.ptr (0, 0) 0] : List D)) x) (fun x => (fun (c : TL1Cur) => ([((0, 0), .box (encTL1Cur c))] : List (Nm × OO))) x) (fun x => (fun (c : TL1Cur) => okCu c) x) (fun x => (fun (c : TL1Cur) => (.own (0, 1) 5 0 (a4l c).1.length : D)) x) (fun x => (fun (c : TL1Cur) => ([((0, 0), .box (encTL1Cur (a4l c).2)), ((0, 1), .arr false 5 yTThing (ML encTThing (a4l c).1))] : List (Nm × OO))) x)
@[simp] theorem c19_f : c19.f = 19 := rfl
@[simp] theorem c19_own : c19.own = true := rfl
theorem c19_inj : ∀ u_ v_ : TL1Cur, ((fun x => (fun (c : TL1Cur) => ([.ptr (0, 0) 0] : List D)) x) u_).map nz = ((fun x => (fun (c : TL1Cur) => ([.ptr (0, 0) 0] : List D)) x) v_).map nz → (fun x => (fun (c : TL1Cur) => ([((0, 0), .box (encTL1Cur c))] : List (Nm × OO))) x) u_ = (fun x => (fun (c : TL1Cur) => ([((0, 0), .box (encTL1Cur c))] : List (Nm × OO))) x) v_ → u_ = v_ := by
  intro u_ v_ h h2_
  obtain ⟨c_b_, c_i_, c_h_⟩ := u_
  obtain ⟨c_b_', c_i_', c_h_'⟩ := v_
  simp [nz_lit, nz1_lit, nz_agg, nz_sl, nz1_sl, nz_sx, nz_el, nz1_el, nz_own, nz1_own, nz_ptr, nz_fn, nz_iface] at h h2_
  first | (simp [h, h2_]; done) | (obtain ⟨h3_, h4_⟩ := List.append_inj h2_ h.1; simp_all; done) | simp_all | grind
@[simp] theorem c19_fn (c_b_ : List Int) (c_i_ : Int) (c_h_ : Int) : c19.fn ([.ptr (0, 0) 0]) ([((0, 0), .box (.agg [.sl false 1 (.lit (.int .u8 0)) (ML dU c_b_), .lit (.int .i64 c_i_), .lit (.int .i64 c_h_)]))]) = some (okCu (⟨c_b_, c_i_, c_h_⟩ : TL1Cur), .own (0, 1) 5 0 (a4l (⟨c_b_, c_i_, c_h_⟩ : TL1Cur)).1.length, [((0, 0), .box (encTL1Cur (a4l (⟨c_b_, c_i_, c_h_⟩ : TL1Cur)).2)), ((0, 1), .arr false 5 yTThing (ML encTThing (a4l (⟨c_b_, c_i_, c_h_⟩ : TL1Cur)).1))]) :=
  mkCon_fn c19_inj (⟨c_b_, c_i_, c_h_⟩ : TL1Cur) rfl rfl
theorem c19_pc (c : TL1Cur) (hpre : okCu c) : PCo Tryd.prog 19 ([.ptr (0, 0) 0]) (Tab.of ([((0, 0), .box (encTL1Cur c))])) (.own (0, 1) 5 0 (a4l c).1.length) (Tab.of ([((0, 0), .box (encTL1Cur (a4l c).2)), ((0, 1), .arr false 5 yTThing (ML encTThing (a4l c).1))])) := by
  exact (a4l_spec hpre).2.2
theorem c19_ok : c19.ok Tryd.prog := mkCon_ok fun c hpre => c19_pc c hpre
theorem exA4L : ∃ (f : TL1Cur → List TThing) (g : TL1Cur → TL1Cur), (∀ (c : TL1Cur), c19.fn [.ptr (0, 0) 0] [((0, 0), .box (.agg [.sl false 1 (.lit (.int .u8 0)) (ML dU c.b_), .lit (.int .i64 c.i_), .lit (.int .i64 c.h_)]))] = some (okCu c, .own (0, 1) 5 0 (f c).length, [((0, 0), .box (encTL1Cur (g c))), ((0, 1), .arr false 5 yTThing (ML encTThing (f c)))])) ∧ (∀ c, f c = (a4l c).1) ∧ ∀ c, g c = (a4l c).2 :=
  ⟨fun c => (a4l c).1, fun c => (a4l c).2, fun c => c19_fn c.b_ c.i_ c.h_, fun _ => rfl, fun _ => rfl⟩
theorem exNewT : ∃ n : List Int → TL1Cur, (∀ l, c14.fn [.sl false 1 (.lit (.int .u8 0)) (ML dU l)] [] = some (l.length ≤ 2097152, .ptr (0, 1) 0, [((0, 1), .box (encTL1Cur (n l)))])) ∧ ∀ l, n l = newC l := ⟨newC, fun l => c14_fn l, fun _ => rfl⟩
noncomputable def dTa (l : List Int) : TThing := (a4 (newC l)).1
noncomputable def dTb (l : List Int) : TThing := (a4 (a4 (newC l)).2).1
noncomputable def dTl (l : List Int) : List TThing := (a4l (newC l)).1
/-- loop.example/g03007/spec.DrawIsThing -/
noncomputable def c5 : Con := mkCon 5 false (α := (List Int)) (fun x => (fun (l : List Int) => [encLU l]) x) (fun _ => []) (fun x => (fun (l : List Int) => l.length ≤ 2097152) x) (fun x => (fun (l : List Int) => (encTThing (dTa l) : D)) x) (fun x => (fun (l : List Int) => []) x)
@[simp] theorem c5_f : c5.f = 5 := rfl
@[simp] theorem c5_own : c5.own = false := rfl
theorem c5_inj : ∀ u_ v_ : (List Int), ((fun x => (fun (l : List Int) => [encLU l]) x) u_).map nz = ((fun x => (fun (l : List Int) => [encLU l]) x) v_).map nz → u_ = v_ := by
  intro u_ v_ h
  obtain l := u_
  obtain l' := v_
  simp [nz_lit, nz1_lit, nz_agg, nz_sl, nz1_sl, encLU] at h
  first | (simp [h]; done) | (obtain ⟨⟩ := h; simp_all; done) | simp_all
@[simp] theorem c5_fn (l : List Int) : c5.fn [.sl false 1 (.lit (.int .u8 0)) (ML dU l)] [] = some ((fun (l : List Int) => l.length ≤ 2097152) l, (fun (l : List Int) => (encTThing (dTa l) : D)) l, (fun (l : List Int) => []) l) :=
  mkCon_fn (fun x y h _ => c5_inj x y h) (l : (List Int)) (by simp [nz, nz1, ML_nil, encLU]) rfl
@[simp] theorem c5_fn1 (s_l : Nat) (z_l : D) : c5.fn [.sl false s_l z_l []] [] = some ((fun (l : List Int) => l.length ≤ 2097152) [], (fun (l : List Int) => (encTThing (dTa l) : D)) [], (fun (l : List Int) => []) []) :=
  mkCon_fn (fun x y h _ => c5_inj x y h) ([] : (List Int)) (by simp [nz, nz1, ML_nil, encLU]) rfl
theorem c5_pc (l : List Int) (hpre : l.length ≤ 2097152) : PCo Tryd.prog 5 [encLU l] (Tab.of []) (encTThing (dTa l)) (Tab.of []) := by
  refine pco_of_run [] (E := ⟨[c14, c15], [], []⟩) (m := false) (base := 0) (Env.ok_cons c14_ok (Env.ok_cons c15_ok Env.ok_nil)) G_ok mix 300 6 Tryd.func5 (by kernel_rfl) rfl (by kernel_rfl) (by kernel_rfl) rfl ?_
  have k1 := okCu_new hpre
  have ea : dTa l = (a4 (newC l)).1 := rfl
  rw [ea]
  obtain ⟨fn, hn, hn2⟩ := exNewT
  obtain ⟨fa, fg, hf, hv, hs, hg⟩ := exA4
  rw [← hn2] at k1 ⊢
  rw [← hv]
  clear hn2 hv hs
  simp [Tryd.f5, hn, hf, -c14_fn, -c15_fn, hpre, k1]
  first | done | trace_state
theorem c5_ok : c5.ok Tryd.prog := mkCon_ok fun l hpre => c5_pc l hpre
/-- loop.example/g03007/spec.DrawSameKind -/
noncomputable def c10 : Con := mkCon 10 false (α := (List Int)) (fun x => (fun (l : List Int) => [encLU l]) x) (fun _ => []) (fun x => (fun (l : List Int) => l.length ≤ 2097152) x) (fun x => (fun (l : List Int) => (.tup [encTThing (dTa l), encTThing (dTb l)] : D)) x) (fun x => (fun (l : List Int) => []) x)
@[simp] theorem c10_f : c10.f = 10 := rfl
@[simp] theorem c10_own : c10.own = false := rfl
theorem c10_inj : ∀ u_ v_ : (List Int), ((fun x => (fun (l : List Int) => [encLU l]) x) u_).map nz = ((fun x => (fun (l : List Int) => [encLU l]) x) v_).map nz → u_ = v_ := by
  intro u_ v_ h
  obtain l := u_
  obtain l' := v_
  simp [nz_lit, nz1_lit, nz_agg, nz_sl, nz1_sl, encLU] at h
  first | (simp [h]; done) | (obtain ⟨⟩ := h; simp_all; done) | simp_all
@[simp] theorem c10_fn (l : List Int) : c10.fn [.sl false 1 (.lit (.int .u8 0)) (ML dU l)] [] = some ((fun (l : List Int) => l.length ≤ 2097152) l, (fun (l : List Int) => (.tup [encTThing (dTa l), encTThing (dTb l)] : D)) l, (fun (l : List Int) => []) l) :=
  mkCon_fn (fun x y h _ => c10_inj x y h) (l : (List Int)) (by simp [nz, nz1, ML_nil, encLU]) rfl
@[simp] theorem c10_fn1 (s_l : Nat) (z_l : D) : c10.fn [.sl false s_l z_l []] [] = some ((fun (l : List Int) => l.length ≤ 2097152) [], (fun (l : List Int) => (.tup [encTThing (dTa l), encTThing (dTb l)] : D)) [], (fun (l : List Int) => []) []) :=
  mkCon_fn (fun x y h _ => c10_inj x y h) ([] : (List Int)) (by simp [nz, nz1, ML_nil, encLU]) rfl
theorem c10_pc (l : List Int) (hpre : l.length ≤ 2097152) : PCo Tryd.prog 10 [encLU l] (Tab.of []) (.tup [encTThing (dTa l), encTThing (dTb l)]) (Tab.of []) := by
  refine pco_of_run [1003, 9000015, 10000007] (E := ⟨[c14, c15], [], []⟩) (m := false) (base := 0) (Env.ok_cons c14_ok (Env.ok_cons c15_ok Env.ok_nil)) G_ok mix 300 6 Tryd.func10 (by kernel_rfl) rfl (by kernel_rfl) (by kernel_rfl) rfl ?_
  have k1 := okCu_new hpre
  have ea : dTa l = (a4 (newC l)).1 := rfl
  have eb : dTb l = (a4 (a4 (newC l)).2).1 := rfl
  rw [ea, eb]
  obtain ⟨fn, hn, hn2⟩ := exNewT
  obtain ⟨fa, fg, hf, hv, hs, hg⟩ := exA4
  rw [← hn2] at k1 ⊢
  have k2 := hg _ k1
  rw [← hv, ← hs, ← hv]
  clear hn2 hv hs
  simp [Tryd.f10, hn, hf, -c14_fn, -c15_fn, hpre, k1, k2]
  first | done | trace_state
theorem c10_ok : c10.ok Tryd.prog := mkCon_ok fun l hpre => c10_pc l hpre
/-- loop.example/g03007/spec.DrawAreThings -/
noncomputable def c11 : Con := mkCon 11 false (α := (List Int)) (fun x => (fun (l : List Int) => [encLU l]) x) (fun _ => []) (fun x => (fun (l : List Int) => l.length ≤ 2097152) x) (fun x => (fun (l : List Int) => (.sl false 5 yTThing (ML encTThing (dTl l)) : D)) x) (fun x => (fun (l : List Int) => []) x)
@[simp] theorem c11_f : c11.f = 11 := rfl
@[simp] theorem c11_own : c11.own = false := rfl
theorem c11_inj : ∀ u_ v_ : (List Int), ((fun x => (fun (l : List Int) => [encLU l]) x) u_).map nz = ((fun x => (fun (l : List Int) => [encLU l]) x) v_).map nz → u_ = v_ := by
  intro u_ v_ h
  obtain l := u_
  obtain l' := v_
  simp [nz_lit, nz1_lit, nz_agg, nz_sl, nz1_sl, encLU] at h
  first | (simp [h]; done) | (obtain ⟨⟩ := h; simp_all; done) | simp_all
@[simp] theorem c11_fn (l : List Int) : c11.fn [.sl false 1 (.lit (.int .u8 0)) (ML dU l)] [] = some ((fun (l : List Int) => l.length ≤ 2097152) l, (fun (l : List Int) => (.sl false 5 yTThing (ML encTThing (dTl l)) : D)) l, (fun (l : List Int) => []) l) :=
  mkCon_fn (fun x y h _ => c11_inj x y h) (l : (List Int)) (by simp [nz, nz1, ML_nil, encLU]) rfl
@[simp] theorem c11_fn1 (s_l : Nat) (z_l : D) : c11.fn [.sl false s_l z_l []] [] = some ((fun (l : List Int) => l.length ≤ 2097152) [], (fun (l : List Int) => (.sl false 5 yTThing (ML encTThing (dTl l)) : D)) [], (fun (l : List Int) => []) []) :=
  mkCon_fn (fun x y h _ => c11_inj x y h) ([] : (List Int)) (by simp [nz, nz1, ML_nil, encLU]) rfl
theorem c11_pc (l : List Int) (hpre : l.length ≤ 2097152) : PCo Tryd.prog 11 [encLU l] (Tab.of []) (.sl false 5 yTThing (ML encTThing (dTl l))) (Tab.of []) := by
  refine pco_of_run [] (E := ⟨[c14, c19], [], []⟩) (m := false) (base := 0) (Env.ok_cons c14_ok (Env.ok_cons c19_ok Env.ok_nil)) G_ok mix 300 6 Tryd.func11 (by kernel_rfl) rfl (by kernel_rfl) (by kernel_rfl) rfl ?_
  have k1 := okCu_new hpre
  have ea : dTl l = (a4l (newC l)).1 := rfl
  rw [ea]
  obtain ⟨fn, hn, hn2⟩ := exNewT
  obtain ⟨fa, fg, hf, hv, hs⟩ := exA4L
  rw [← hn2] at k1 ⊢
  rw [← hv]
  clear hn2 hv hs
  simp [Tryd.f11, hn, hf, -c14_fn, -c19_fn, hpre, k1]
  first | done | trace_state
theorem c11_ok : c11.ok Tryd.prog := mkCon_ok fun l hpre => c11_pc l hpre
theorem exDT : ∃ (A B : List Int → TThing) (L : List Int → List TThing), (∀ l, c5.fn [.sl false 1 (.lit (.int .u8 0)) (ML dU l)] [] = some (l.length ≤ 2097152, encTThing (A l), [])) ∧
    (∀ l, c10.fn [.sl false 1 (.lit (.int .u8 0)) (ML dU l)] [] = some (l.length ≤ 2097152, .tup [encTThing (A l), encTThing (B l)], [])) ∧
    (∀ l, c11.fn [.sl false 1 (.lit (.int .u8 0)) (ML dU l)] [] = some (l.length ≤ 2097152, .sl false 5 yTThing (ML encTThing (L l)), [])) ∧ ∀ l, l.length ≤ 2097152 → (L l).length ≤ 6 :=
  ⟨dTa, dTb, dTl, fun l => c5_fn l, fun l => c10_fn l, fun l => c11_fn l, fun l h => (a4l_spec (okCu_new h)).2.1⟩

end Go.Proofs.YtojpebfoajeilaaDoor
