/- Contracts of the functions that the laws run. -/
import Derived.Test.Ytojpebfoajeilaach00
import Derived.Test.YtojpebfoajeilaaEngB
namespace Go.Proofs.Ytojpebfoajeilaa
open Go Go.Eng
set_option linter.unusedSimpArgs false
set_option linter.unusedVariables false
set_option maxRecDepth 10000
set_option maxHeartbeats 1000000
theorem exBelI : ∃ (fi : TL1Cur → List Int → Int) (fs : TL1Cur → Int → TL1Cur), (∀ (c : TL1Cur) (l : List Int), c33.fn [.ptr (0, 0) 0, .sl false 1 (.lit (.int .i64 0)) (ML dI l)] [((0, 0), .box (.agg [.sl false 1 (.lit (.int .u8 0)) (ML dU c.b_), .lit (.int .i64 c.i_), .lit (.int .i64 c.h_)]))] = some (okCu c ∧ 0 < l.length ∧ l.length ≤ 1099511627776, dI (fi c l), [((0, 0), .box (encTL1Cur (fs c l.length)))])) ∧ (∀ c l, fi c l = l[(bV c l.length).toNat]?.getD 0) ∧ ∀ c n, fs c n = bN c n :=
  ⟨fun c l => l[(bV c l.length).toNat]?.getD 0, bN, fun c l => c33_fn c.b_ c.i_ c.h_ l, fun _ _ => rfl, fun _ _ => rfl⟩
def rawL : List Int := [-1, 0, 8, 50, 51, 1000, 9223372036854775807, -9223372036854775808]
noncomputable def rawV (c : TL1Cur) : Int := rawL[(bV c 8).toNat]?.getD 0
/-- loop.example/g03007/spec.l4Raw -/
noncomputable def c44 : Con := mkCon 44 true (α := TL1Cur) (fun x => (fun (c : TL1Cur) => ([.ptr (0, 0) 0] : List D)) x) (fun x => (fun (c : TL1Cur) => ([((0, 0), .box (encTL1Cur c))] : List (Nm × OO))) x) (fun x => (fun (c : TL1Cur) => okCu c) x) (fun x => (fun (c : TL1Cur) => (dI (rawV c) : D)) x) (fun x => (fun (c : TL1Cur) => ([((0, 0), .box (encTL1Cur (bN c 8)))] : List (Nm × OO))) x)
@[simp] theorem c44_f : c44.f = 44 := rfl
@[simp] theorem c44_own : c44.own = true := rfl
theorem c44_inj : ∀ u_ v_ : TL1Cur, ((fun x => (fun (c : TL1Cur) => ([.ptr (0, 0) 0] : List D)) x) u_).map nz = ((fun x => (fun (c : TL1Cur) => ([.ptr (0, 0) 0] : List D)) x) v_).map nz → (fun x => (fun (c : TL1Cur) => ([((0, 0), .box (encTL1Cur c))] : List (Nm × OO))) x) u_ = (fun x => (fun (c : TL1Cur) => ([((0, 0), .box (encTL1Cur c))] : List (Nm × OO))) x) v_ → u_ = v_ := by
  intro u_ v_ h h2_
  obtain ⟨c_b_, c_i_, c_h_⟩ := u_
  obtain ⟨c_b_', c_i_', c_h_'⟩ := v_
  simp [nz_lit, nz1_lit, nz_agg, nz_sl, nz1_sl, nz_sx, nz_el, nz1_el, nz_own, nz1_own, nz_ptr, nz_fn, nz_iface] at h h2_
  first | (simp [h, h2_]; done) | (obtain ⟨h3_, h4_⟩ := List.append_inj h2_ h.1; simp_all; done) | simp_all | grind
@[simp] theorem c44_fn (c_b_ : List Int) (c_i_ : Int) (c_h_ : Int) : c44.fn ([.ptr (0, 0) 0]) ([((0, 0), .box (.agg [.sl false 1 (.lit (.int .u8 0)) (ML dU c_b_), .lit (.int .i64 c_i_), .lit (.int .i64 c_h_)]))]) = some (okCu (⟨c_b_, c_i_, c_h_⟩ : TL1Cur), dI (rawV (⟨c_b_, c_i_, c_h_⟩ : TL1Cur)), [((0, 0), .box (encTL1Cur (bN (⟨c_b_, c_i_, c_h_⟩ : TL1Cur) 8)))]) :=
  mkCon_fn c44_inj (⟨c_b_, c_i_, c_h_⟩ : TL1Cur) rfl rfl
theorem c44_pc (c : TL1Cur) (hpre : okCu c) : PCo Try.prog 44 ([.ptr (0, 0) 0]) (Tab.of ([((0, 0), .box (encTL1Cur c))])) (dI (rawV c)) (Tab.of ([((0, 0), .box (encTL1Cur (bN c 8)))])) := by
  refine pco_of_run [] (E := ⟨[c33], [], []⟩) (m := false) (base := 1000000) (Env.ok_cons c33_ok Env.ok_nil) G_ok mix 300 6 Try.func44 (by kernel_rfl) rfl (by kernel_rfl) (by kernel_rfl) rfl ?_
  have hr : rawV c = rawL[(bV c rawL.length).toNat]?.getD 0 := rfl
  obtain ⟨fi, fs, hf, hv, hs⟩ := exBelI
  have hf8 := fun a0 a1 a2 a3 a4 a5 a6 a7 => hf c [a0, a1, a2, a3, a4, a5, a6, a7]
  rw [hr, ← hv, ← hs]
  have e8 : ∀ a0 a1 a2 a3 a4 a5 a6 a7 : Int, ML dI [a0, a1, a2, a3, a4, a5, a6, a7] = [dI a0, dI a1, dI a2, dI a3, dI a4, dI a5, dI a6, dI a7] := fun _ _ _ _ _ _ _ _ => rfl
  simp only [e8] at hf8
  have hr2 : rawL = [-1, 0, 8, 50, 51, 1000, 9223372036854775807, -9223372036854775808] := rfl
  rw [hr2]
  simp [Try.f44, hf8, -c33_fn, hpre]
theorem c44_ok : c44.ok Try.prog := mkCon_ok fun c hpre => c44_pc c hpre
/-- a span that is drawn -/
noncomputable def dS5 (c : TL1Cur) : TSpan := ⟨bV c 60, bV c 60 + bV (bN c 60) 30⟩
noncomputable def dS5N (c : TL1Cur) : TL1Cur := bN (bN c 60) 30
/-- loop.example/g03007/spec.l5Draw -/
noncomputable def c43 : Con := mkCon 43 true (α := TL1Cur) (fun x => (fun (c : TL1Cur) => ([.ptr (0, 0) 0] : List D)) x) (fun x => (fun (c : TL1Cur) => ([((0, 0), .box (encTL1Cur c))] : List (Nm × OO))) x) (fun x => (fun (c : TL1Cur) => okCu c) x) (fun x => (fun (c : TL1Cur) => (encTSpan (dS5 c) : D)) x) (fun x => (fun (c : TL1Cur) => ([((0, 0), .box (encTL1Cur (dS5N c)))] : List (Nm × OO))) x)
@[simp] theorem c43_f : c43.f = 43 := rfl
@[simp] theorem c43_own : c43.own = true := rfl
theorem c43_inj : ∀ u_ v_ : TL1Cur, ((fun x => (fun (c : TL1Cur) => ([.ptr (0, 0) 0] : List D)) x) u_).map nz = ((fun x => (fun (c : TL1Cur) => ([.ptr (0, 0) 0] : List D)) x) v_).map nz → (fun x => (fun (c : TL1Cur) => ([((0, 0), .box (encTL1Cur c))] : List (Nm × OO))) x) u_ = (fun x => (fun (c : TL1Cur) => ([((0, 0), .box (encTL1Cur c))] : List (Nm × OO))) x) v_ → u_ = v_ := by
  intro u_ v_ h h2_
  obtain ⟨c_b_, c_i_, c_h_⟩ := u_
  obtain ⟨c_b_', c_i_', c_h_'⟩ := v_
  simp [nz_lit, nz1_lit, nz_agg, nz_sl, nz1_sl, nz_sx, nz_el, nz1_el, nz_own, nz1_own, nz_ptr, nz_fn, nz_iface] at h h2_
  first | (simp [h, h2_]; done) | (obtain ⟨h3_, h4_⟩ := List.append_inj h2_ h.1; simp_all; done) | simp_all | grind
@[simp] theorem c43_fn (c_b_ : List Int) (c_i_ : Int) (c_h_ : Int) : c43.fn ([.ptr (0, 0) 0]) ([((0, 0), .box (.agg [.sl false 1 (.lit (.int .u8 0)) (ML dU c_b_), .lit (.int .i64 c_i_), .lit (.int .i64 c_h_)]))]) = some (okCu (⟨c_b_, c_i_, c_h_⟩ : TL1Cur), encTSpan (dS5 (⟨c_b_, c_i_, c_h_⟩ : TL1Cur)), [((0, 0), .box (encTL1Cur (dS5N (⟨c_b_, c_i_, c_h_⟩ : TL1Cur))))]) :=
  mkCon_fn c43_inj (⟨c_b_, c_i_, c_h_⟩ : TL1Cur) rfl rfl
theorem c43_pc (c : TL1Cur) (hpre : okCu c) : PCo Try.prog 43 ([.ptr (0, 0) 0]) (Tab.of ([((0, 0), .box (encTL1Cur c))])) (encTSpan (dS5 c)) (Tab.of ([((0, 0), .box (encTL1Cur (dS5N c)))])) := by
  refine pco_of_run [] (E := ⟨[c32], [], []⟩) (m := false) (base := 0) (Env.ok_cons c32_ok Env.ok_nil) G_ok mix 300 6 Try.func43 (by kernel_rfl) rfl (by kernel_rfl) (by kernel_rfl) rfl ?_
  have k1 := okCu_bN hpre 60
  have b1 := bV_bd c 60 (by omega)
  have b2 := bV_bd (bN c 60) 30 (by omega)
  have hd : dS5 c = ⟨bV c 60, bV c 60 + bV (bN c 60) 30⟩ := rfl
  have hn : dS5N c = bN (bN c 60) 30 := rfl
  rw [hd, hn]
  obtain ⟨fv, fs, hf, hv, hs⟩ := exBel
  simp only [← hv, ← hs] at k1 b1 b2 ⊢
  simp [Try.f43, hf, -c32_fn, hpre, k1]
  omega
theorem c43_ok : c43.ok Try.prog := mkCon_ok fun c hpre => c43_pc c hpre
theorem exRaw : ∃ (fr : TL1Cur → Int) (fs : TL1Cur → TL1Cur), (∀ (c : TL1Cur), c44.fn [.ptr (0, 0) 0] [((0, 0), .box (.agg [.sl false 1 (.lit (.int .u8 0)) (ML dU c.b_), .lit (.int .i64 c.i_), .lit (.int .i64 c.h_)]))] = some (okCu c, dI (fr c), [((0, 0), .box (encTL1Cur (fs c)))])) ∧ (∀ c, fr c = rawV c) ∧ ∀ c, fs c = bN c 8 :=
  ⟨rawV, fun c => bN c 8, fun c => c44_fn c.b_ c.i_ c.h_, fun _ => rfl, fun _ => rfl⟩
theorem exS5 : ∃ (fd : TL1Cur → TSpan) (fs : TL1Cur → TL1Cur), (∀ (c : TL1Cur), c43.fn [.ptr (0, 0) 0] [((0, 0), .box (.agg [.sl false 1 (.lit (.int .u8 0)) (ML dU c.b_), .lit (.int .i64 c.i_), .lit (.int .i64 c.h_)]))] = some (okCu c, encTSpan (fd c), [((0, 0), .box (encTL1Cur (fs c)))])) ∧ (∀ c, fd c = dS5 c) ∧ ∀ c, fs c = dS5N c :=
  ⟨dS5, dS5N, fun c => c43_fn c.b_ c.i_ c.h_, fun _ => rfl, fun _ => rfl⟩
def lim5 : List Int := [-1, 0, 100000, 100001]
noncomputable def any5 (c : TL1Cur) : TSpan × TL1Cur :=
  if bV (dS5N c) 10 = 0 then (⟨rawV (bN (dS5N c) 10), (dS5 c).Until⟩, bN (bN (dS5N c) 10) 8)
  else if bV (dS5N c) 10 = 1 then (⟨(dS5 c).From, lim5[(bV (bN (dS5N c) 10) 4).toNat]?.getD 0⟩, bN (bN (dS5N c) 10) 4)
  else (dS5 c, bN (dS5N c) 10)
theorem okCu_S5 {c : TL1Cur} (h : okCu c) : okCu (dS5N c) := okCu_bN (okCu_bN h 60) 30
/-- loop.example/g03007/spec.l5Any -/
noncomputable def c26 : Con := mkCon 26 true (α := TL1Cur) (fun x => (fun (c : TL1Cur) => ([.ptr (0, 0) 0] : List D)) x) (fun x => (fun (c : TL1Cur) => ([((0, 0), .box (encTL1Cur c))] : List (Nm × OO))) x) (fun x => (fun (c : TL1Cur) => okCu c) x) (fun x => (fun (c : TL1Cur) => (encTSpan (any5 c).1 : D)) x) (fun x => (fun (c : TL1Cur) => ([((0, 0), .box (encTL1Cur (any5 c).2))] : List (Nm × OO))) x)
@[simp] theorem c26_f : c26.f = 26 := rfl
@[simp] theorem c26_own : c26.own = true := rfl
theorem c26_inj : ∀ u_ v_ : TL1Cur, ((fun x => (fun (c : TL1Cur) => ([.ptr (0, 0) 0] : List D)) x) u_).map nz = ((fun x => (fun (c : TL1Cur) => ([.ptr (0, 0) 0] : List D)) x) v_).map nz → (fun x => (fun (c : TL1Cur) => ([((0, 0), .box (encTL1Cur c))] : List (Nm × OO))) x) u_ = (fun x => (fun (c : TL1Cur) => ([((0, 0), .box (encTL1Cur c))] : List (Nm × OO))) x) v_ → u_ = v_ := by
  intro u_ v_ h h2_
  obtain ⟨c_b_, c_i_, c_h_⟩ := u_
  obtain ⟨c_b_', c_i_', c_h_'⟩ := v_
  simp [nz_lit, nz1_lit, nz_agg, nz_sl, nz1_sl, nz_sx, nz_el, nz1_el, nz_own, nz1_own, nz_ptr, nz_fn, nz_iface] at h h2_
  first | (simp [h, h2_]; done) | (obtain ⟨h3_, h4_⟩ := List.append_inj h2_ h.1; simp_all; done) | simp_all | grind
@[simp] theorem c26_fn (c_b_ : List Int) (c_i_ : Int) (c_h_ : Int) : c26.fn ([.ptr (0, 0) 0]) ([((0, 0), .box (.agg [.sl false 1 (.lit (.int .u8 0)) (ML dU c_b_), .lit (.int .i64 c_i_), .lit (.int .i64 c_h_)]))]) = some (okCu (⟨c_b_, c_i_, c_h_⟩ : TL1Cur), encTSpan (any5 (⟨c_b_, c_i_, c_h_⟩ : TL1Cur)).1, [((0, 0), .box (encTL1Cur (any5 (⟨c_b_, c_i_, c_h_⟩ : TL1Cur)).2))]) :=
  mkCon_fn c26_inj (⟨c_b_, c_i_, c_h_⟩ : TL1Cur) rfl rfl
theorem c26_pc (c : TL1Cur) (hpre : okCu c) : PCo Try.prog 26 ([.ptr (0, 0) 0]) (Tab.of ([((0, 0), .box (encTL1Cur c))])) (encTSpan (any5 c).1) (Tab.of ([((0, 0), .box (encTL1Cur (any5 c).2))])) := by
  refine pco_of_run [] (E := ⟨[c32, c33, c43, c44], [], []⟩) (m := false) (base := 1000000) (Env.ok_cons c32_ok (Env.ok_cons c33_ok (Env.ok_cons c43_ok (Env.ok_cons c44_ok Env.ok_nil)))) G_ok mix 300 6 Try.func26 (by kernel_rfl) rfl (by kernel_rfl) (by kernel_rfl) rfl ?_
  have k1 := okCu_S5 hpre
  have k2 := okCu_bN k1 10
  obtain ⟨fv, fs, hf, hv, hs⟩ := exBel
  obtain ⟨fi, fn, hfi, hvi, hsi⟩ := exBelI
  obtain ⟨fr, fm, hfr, hvr, hsr⟩ := exRaw
  obtain ⟨fd, fe, hfd, hvd, hsd⟩ := exS5
  rw [← hsd] at k1 k2
  rw [← hs] at k2
  have ha : any5 c = if fv (fe c) 10 = 0 then (⟨fr (fs (fe c) 10), (fd c).Until⟩, fm (fs (fe c) 10))
      else if fv (fe c) 10 = 1 then (⟨(fd c).From, fi (fs (fe c) 10) lim5⟩, fn (fs (fe c) 10) 4)
      else (fd c, fs (fe c) 10) := by
    simp only [hv, hs, hvi, hsi, hvr, hsr, hvd, hsd]; rfl
  have hl5 : lim5 = [-1, 0, 100000, 100001] := rfl
  rw [hl5] at ha
  have hfi4 := fun a0 a1 a2 a3 => hfi (fs (fe c) 10) [a0, a1, a2, a3]
  have e4 : ∀ a0 a1 a2 a3 : Int, ML dI [a0, a1, a2, a3] = [dI a0, dI a1, dI a2, dI a3] := fun _ _ _ _ => rfl
  have e5 : ∀ a0 a1 a2 a3 : Int, (([a0, a1, a2, a3] : List Int).length : Int) = 4 := fun _ _ _ _ => rfl
  simp only [e4, e5] at hfi4
  clear hv hs hvi hsi hvr hsr hvd hsd
  generalize any5 c = q at ha ⊢
  subst ha
  by_cases q0 : fv (fe c) 10 = 0
  · simp [Try.f26, hf, hfr, hfd, hfi4, -c32_fn, -c44_fn, -c43_fn, -c33_fn, hpre, k1, k2, q0]
  · by_cases q1 : fv (fe c) 10 = 1
    · simp [Try.f26, hf, hfr, hfd, hfi4, -c32_fn, -c44_fn, -c43_fn, -c33_fn, hpre, k1, k2, q0, q1]
    · simp [Try.f26, hf, hfr, hfd, hfi4, -c32_fn, -c44_fn, -c43_fn, -c33_fn, hpre, k1, k2, q0, q1]
theorem c26_ok : c26.ok Try.prog := mkCon_ok fun c hpre => c26_pc c hpre

end Go.Proofs.Ytojpebfoajeilaa
