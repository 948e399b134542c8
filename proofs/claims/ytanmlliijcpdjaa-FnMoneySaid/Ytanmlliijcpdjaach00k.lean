/- Contracts of the functions that the laws run. -/
import Derived.Test.Ytanmlliijcpdjaach00t
import Derived.Test.YtanmlliijcpdjaaEngB
namespace Go.Proofs.Ytanmlliijcpdjaa
open Go Go.Eng
set_option linter.unusedSimpArgs false
set_option linter.unusedVariables false
set_option maxRecDepth 10000
set_option maxHeartbeats 1000000
theorem exBelI : ∃ (fi : TL1Cur → List Int → Int) (fs : TL1Cur → Int → TL1Cur), (∀ (c : TL1Cur) (l : List Int), c16.fn [.ptr (0, 0) 0, .sl false 1 (.lit (.int .i64 0)) (ML dI l)] [((0, 0), .box (.agg [.sl false 1 (.lit (.int .u8 0)) (ML dU c.b_), .lit (.int .i64 c.i_), .lit (.int .i64 c.h_)]))] = some (okCu c ∧ 0 < l.length ∧ l.length ≤ 1099511627776, dI (fi c l), [((0, 0), .box (encTL1Cur (fs c l.length)))])) ∧ (∀ c l, fi c l = l[(bV c l.length).toNat]?.getD 0) ∧ ∀ c n, fs c n = bN c n :=
  ⟨fun c l => l[(bV c l.length).toNat]?.getD 0, bN, fun c l => c16_fn c.b_ c.i_ c.h_ l, fun _ _ => rfl, fun _ _ => rfl⟩
def rawL : List Int := [-1, 0, 8, 50, 51, 1000, 9223372036854775807, -9223372036854775808]
noncomputable def rawV (c : TL1Cur) : Int := rawL[(bV c 8).toNat]?.getD 0
/-- loop.example/g03007/spec.l4Raw -/
noncomputable def c29 : Con := mkCon 29 true (α := TL1Cur) (fun x => (fun (c : TL1Cur) => ([.ptr (0, 0) 0] : List D)) x) (fun x => (fun (c : TL1Cur) => ([((0, 0), .box (encTL1Cur c))] : List (Nm × OO))) x) (fun x => (fun (c : TL1Cur) => okCu c) x) (fun x => (fun (c : TL1Cur) => (dI (rawV c) : D)) x) (fun x => (fun (c : TL1Cur) => ([((0, 0), .box (encTL1Cur (bN c 8)))] : List (Nm × OO))) x)
@[simp] theorem c29_f : c29.f = 29 := rfl
@[simp] theorem c29_own : c29.own = true := rfl
theorem c29_inj : ∀ u_ v_ : TL1Cur, ((fun x => (fun (c : TL1Cur) => ([.ptr (0, 0) 0] : List D)) x) u_).map nz = ((fun x => (fun (c : TL1Cur) => ([.ptr (0, 0) 0] : List D)) x) v_).map nz → (fun x => (fun (c : TL1Cur) => ([((0, 0), .box (encTL1Cur c))] : List (Nm × OO))) x) u_ = (fun x => (fun (c : TL1Cur) => ([((0, 0), .box (encTL1Cur c))] : List (Nm × OO))) x) v_ → u_ = v_ := by
  intro u_ v_ h h2_
  obtain ⟨c_b_, c_i_, c_h_⟩ := u_
  obtain ⟨c_b_', c_i_', c_h_'⟩ := v_
  simp [nz_lit, nz1_lit, nz_agg, nz_sl, nz1_sl, nz_sx, nz_el, nz1_el, nz_own, nz1_own, nz_ptr, nz_fn, nz_iface] at h h2_
  first | (simp [h, h2_]; done) | (obtain ⟨h3_, h4_⟩ := List.append_inj h2_ h.1; simp_all; done) | simp_all | grind
@[simp] theorem c29_fn (c_b_ : List Int) (c_i_ : Int) (c_h_ : Int) : c29.fn ([.ptr (0, 0) 0]) ([((0, 0), .box (.agg [.sl false 1 (.lit (.int .u8 0)) (ML dU c_b_), .lit (.int .i64 c_i_), .lit (.int .i64 c_h_)]))]) = some (okCu (⟨c_b_, c_i_, c_h_⟩ : TL1Cur), dI (rawV (⟨c_b_, c_i_, c_h_⟩ : TL1Cur)), [((0, 0), .box (encTL1Cur (bN (⟨c_b_, c_i_, c_h_⟩ : TL1Cur) 8)))]) :=
  mkCon_fn c29_inj (⟨c_b_, c_i_, c_h_⟩ : TL1Cur) rfl rfl
theorem c29_pc (c : TL1Cur) (hpre : okCu c) : PCo Try.prog 29 ([.ptr (0, 0) 0]) (Tab.of ([((0, 0), .box (encTL1Cur c))])) (dI (rawV c)) (Tab.of ([((0, 0), .box (encTL1Cur (bN c 8)))])) := by
  refine pco_of_run [] (E := ⟨[c16], [], []⟩) (m := false) (base := 1000000) (Env.ok_cons c16_ok Env.ok_nil) G_ok mix 300 6 Try.func29 (by kernel_rfl) rfl (by kernel_rfl) (by kernel_rfl) rfl ?_
  have hr : rawV c = rawL[(bV c rawL.length).toNat]?.getD 0 := rfl
  obtain ⟨fi, fs, hf, hv, hs⟩ := exBelI
  have hf8 := fun a0 a1 a2 a3 a4 a5 a6 a7 => hf c [a0, a1, a2, a3, a4, a5, a6, a7]
  rw [hr, ← hv, ← hs]
  have e8 : ∀ a0 a1 a2 a3 a4 a5 a6 a7 : Int, ML dI [a0, a1, a2, a3, a4, a5, a6, a7] = [dI a0, dI a1, dI a2, dI a3, dI a4, dI a5, dI a6, dI a7] := fun _ _ _ _ _ _ _ _ => rfl
  simp only [e8] at hf8
  have hr2 : rawL = [-1, 0, 8, 50, 51, 1000, 9223372036854775807, -9223372036854775808] := rfl
  rw [hr2]
  simp [Try.f29, hf8, -c16_fn, hpre]
theorem c29_ok : c29.ok Try.prog := mkCon_ok fun c hpre => c29_pc c hpre
theorem exRaw : ∃ (fr : TL1Cur → Int) (fs : TL1Cur → TL1Cur), (∀ (c : TL1Cur), c29.fn [.ptr (0, 0) 0] [((0, 0), .box (.agg [.sl false 1 (.lit (.int .u8 0)) (ML dU c.b_), .lit (.int .i64 c.i_), .lit (.int .i64 c.h_)]))] = some (okCu c, dI (fr c), [((0, 0), .box (encTL1Cur (fs c)))])) ∧ (∀ c, fr c = rawV c) ∧ ∀ c, fs c = bN c 8 :=
  ⟨rawV, fun c => bN c 8, fun c => c29_fn c.b_ c.i_ c.h_, fun _ => rfl, fun _ => rfl⟩
theorem exT4 : ∃ (fd : TL1Cur → Int → TThing) (fe : TL1Cur → TL1Cur), (∀ (c : TL1Cur) (id : Int), c28.fn [.ptr (0, 0) 0, .lit (.int .i64 id)] [((0, 0), .box (.agg [.sl false 1 (.lit (.int .u8 0)) (ML dU c.b_), .lit (.int .i64 c.i_), .lit (.int .i64 c.h_)]))] = some (okCu c, encTThing (fd c id), [((0, 0), .box (encTL1Cur (fe c)))])) ∧ ∀ c, okCu c → okCu (fe c) :=
  ⟨dT, dTN, fun c id => c28_fn c.b_ c.i_ c.h_ id, fun c h => okCu_bN (okCu_bN (okCu_bN (okCu_bN h 8) 8) 20) 500⟩
theorem any4_ex (c : TL1Cur) (hc : okCu c) : ∃ (x : TThing) (c' : TL1Cur), okCu c' ∧ PCo Try.prog 23 [.ptr (0, 0) 0] (Tab.of [((0, 0), .box (encTL1Cur c))]) (encTThing x) (Tab.of [((0, 0), .box (encTL1Cur c'))]) := by
  obtain ⟨fd, fe, hfd, hfk⟩ := exT4
  obtain ⟨fr, fm, hfr, hvr, hsr⟩ := exRaw
  obtain ⟨fv, fs, hf, hv, hs⟩ := exBel
  obtain ⟨fi, fn, hfi, hvi, hsi⟩ := exBelI
  have b1 : 0 ≤ fv c 40 ∧ fv c 40 < 40 := by rw [hv]; exact bV_bd c 40 (by omega)
  have ks : ∀ c n, okCu c → okCu (fs c n) := fun c n h => by rw [hs]; exact okCu_bN h n
  have km : ∀ c, okCu c → okCu (fm c) := fun c h => by rw [hsr]; exact okCu_bN h 8
  have kn : ∀ c n, okCu c → okCu (fn c n) := fun c n h => by rw [hsi]; exact okCu_bN h n
  have k1 := ks c 40 hc
  have k2 := hfk _ k1
  have k3 := ks _ 14 k2
  have e3 : ∀ a0 a1 a2 : Int, ML dI [a0, a1, a2] = [dI a0, dI a1, dI a2] := fun _ _ _ => rfl
  have e5 : ∀ a0 a1 a2 : Int, (([a0, a1, a2] : List Int).length : Int) = 3 := fun _ _ _ => rfl
  have hfi3 := fun c' a0 a1 a2 => hfi c' [a0, a1, a2]
  simp only [e3, e5] at hfi3
  clear hv hs hvr hsr hvi hsi
  generalize hx : fd (fs c 40) (1 + fv c 40) = x
  generalize hd : fe (fs c 40) = d at *
  by_cases q0 : fv d 14 = 0
  · refine ⟨{ x with Id := fi (fs d 14) [0, 999, 1000] }, fn (fs d 14) 3, kn _ _ k3, ?_⟩
    refine pco_of_run [] (E := ⟨[c28, c17, c16, c29], [], []⟩) (m := false) (base := 1000000) (Env.ok_cons c28_ok (Env.ok_cons c17_ok (Env.ok_cons c16_ok (Env.ok_cons c29_ok Env.ok_nil)))) G_ok mix 300 6 Try.func23 (by kernel_rfl) rfl (by kernel_rfl) (by kernel_rfl) rfl ?_
    simp [Try.f23, hfd, hf, hfi3, hfr, -c28_fn, -c17_fn, -c16_fn, -c29_fn, hx, hd, q0, hc, k1, k2, k3]
    first | done | exact b1 | omega | (refine ⟨?_, ?_⟩ <;> omega) | trace_state
  · by_cases q1 : fv d 14 = 1
    · refine ⟨{ x with Kind := fi (fs d 14) [0, 8, 9] }, fn (fs d 14) 3, kn _ _ k3, ?_⟩
      refine pco_of_run [] (E := ⟨[c28, c17, c16, c29], [], []⟩) (m := false) (base := 1000000) (Env.ok_cons c28_ok (Env.ok_cons c17_ok (Env.ok_cons c16_ok (Env.ok_cons c29_ok Env.ok_nil)))) G_ok mix 300 6 Try.func23 (by kernel_rfl) rfl (by kernel_rfl) (by kernel_rfl) rfl ?_
      simp [Try.f23, hfd, hf, hfi3, hfr, -c28_fn, -c17_fn, -c16_fn, -c29_fn, hx, hd, q0, q1, hc, k1, k2, k3]
      first | done | exact b1 | omega | (refine ⟨?_, ?_⟩ <;> omega) | trace_state
    · by_cases q2 : fv d 14 = 2
      · refine ⟨{ x with Colour := fi (fs d 14) [-1, 7, 8] }, fn (fs d 14) 3, kn _ _ k3, ?_⟩
        refine pco_of_run [] (E := ⟨[c28, c17, c16, c29], [], []⟩) (m := false) (base := 1000000) (Env.ok_cons c28_ok (Env.ok_cons c17_ok (Env.ok_cons c16_ok (Env.ok_cons c29_ok Env.ok_nil)))) G_ok mix 300 6 Try.func23 (by kernel_rfl) rfl (by kernel_rfl) (by kernel_rfl) rfl ?_
        simp [Try.f23, hfd, hf, hfi3, hfr, -c28_fn, -c17_fn, -c16_fn, -c29_fn, hx, hd, q0, q1, q2, hc, k1, k2, k3]
        first | done | exact b1 | omega | (refine ⟨?_, ?_⟩ <;> omega) | trace_state
      · by_cases q3 : fv d 14 = 3
        · refine ⟨{ x with Size := fr (fs d 14) }, fm (fs d 14), km _ k3, ?_⟩
          refine pco_of_run [] (E := ⟨[c28, c17, c16, c29], [], []⟩) (m := false) (base := 1000000) (Env.ok_cons c28_ok (Env.ok_cons c17_ok (Env.ok_cons c16_ok (Env.ok_cons c29_ok Env.ok_nil)))) G_ok mix 300 6 Try.func23 (by kernel_rfl) rfl (by kernel_rfl) (by kernel_rfl) rfl ?_
          simp [Try.f23, hfd, hf, hfi3, hfr, -c28_fn, -c17_fn, -c16_fn, -c29_fn, hx, hd, q0, q1, q2, q3, hc, k1, k2, k3]
          first | done | exact b1 | omega | (refine ⟨?_, ?_⟩ <;> omega) | trace_state
        · by_cases q4 : fv d 14 = 4
          · refine ⟨{ x with Worth := fi (fs d 14) [-1, 10000000, 10000001] }, fn (fs d 14) 3, kn _ _ k3, ?_⟩
            refine pco_of_run [] (E := ⟨[c28, c17, c16, c29], [], []⟩) (m := false) (base := 1000000) (Env.ok_cons c28_ok (Env.ok_cons c17_ok (Env.ok_cons c16_ok (Env.ok_cons c29_ok Env.ok_nil)))) G_ok mix 300 6 Try.func23 (by kernel_rfl) rfl (by kernel_rfl) (by kernel_rfl) rfl ?_
            simp [Try.f23, hfd, hf, hfi3, hfr, -c28_fn, -c17_fn, -c16_fn, -c29_fn, hx, hd, q0, q1, q2, q3, q4, hc, k1, k2, k3]
            first | done | exact b1 | omega | (refine ⟨?_, ?_⟩ <;> omega) | trace_state
          · refine ⟨x, fs d 14, k3, ?_⟩
            refine pco_of_run [] (E := ⟨[c28, c17, c16, c29], [], []⟩) (m := false) (base := 1000000) (Env.ok_cons c28_ok (Env.ok_cons c17_ok (Env.ok_cons c16_ok (Env.ok_cons c29_ok Env.ok_nil)))) G_ok mix 300 6 Try.func23 (by kernel_rfl) rfl (by kernel_rfl) (by kernel_rfl) rfl ?_
            simp [Try.f23, hfd, hf, hfi3, hfr, -c28_fn, -c17_fn, -c16_fn, -c29_fn, hx, hd, q0, q1, q2, q3, q4, hc, k1, k2, k3]
            first | done | exact b1 | omega | (refine ⟨?_, ?_⟩ <;> omega) | trace_state
open Classical in
noncomputable def a4 (c : TL1Cur) : TThing × TL1Cur := if h : okCu c then (Classical.choose (any4_ex c h), Classical.choose (Classical.choose_spec (any4_ex c h))) else (default, c)
theorem a4_spec {c : TL1Cur} (h : okCu c) : okCu (a4 c).2 ∧ PCo Try.prog 23 [.ptr (0, 0) 0] (Tab.of [((0, 0), .box (encTL1Cur c))]) (encTThing (a4 c).1) (Tab.of [((0, 0), .box (encTL1Cur (a4 c).2))]) := by
  have e : a4 c = (Classical.choose (any4_ex c h), Classical.choose (Classical.choose_spec (any4_ex c h))) := by rw [a4, dif_pos h]
  rw [e]
  exact Classical.choose_spec (Classical.choose_spec (any4_ex c h))
/-- loop.example/g03007/spec.l4Any -/
noncomputable def c23 : Con := mkCon 23 true (α := TL1Cur) (fun x => (fun (c : TL1Cur) => ([.ptr (0, 0) 0] : List D)) x) (fun x => (fun (c : TL1Cur) => ([((0, 0), .box (encTL1Cur c))] : List (Nm × OO))) x) (fun x => (fun (c : TL1Cur) => okCu c) x) (fun x => (fun (c : TL1Cur) => (encTThing (a4 c).1 : D)) x) (fun x => (fun (c : TL1Cur) => ([((0, 0), .box (encTL1Cur (a4 c).2))] : List (Nm × OO))) x)
@[simp] theorem c23_f : c23.f = 23 := rfl
@[simp] theorem c23_own : c23.own = true := rfl
theorem c23_inj : ∀ u_ v_ : TL1Cur, ((fun x => (fun (c : TL1Cur) => ([.ptr (0, 0) 0] : List D)) x) u_).map nz = ((fun x => (fun (c : TL1Cur) => ([.ptr (0, 0) 0] : List D)) x) v_).map nz → (fun x => (fun (c : TL1Cur) => ([((0, 0), .box (encTL1Cur c))] : List (Nm × OO))) x) u_ = (fun x => (fun (c : TL1Cur) => ([((0, 0), .box (encTL1Cur c))] : List (Nm × OO))) x) v_ → u_ = v_ := by
  intro u_ v_ h h2_
  obtain ⟨c_b_, c_i_, c_h_⟩ := u_
  obtain ⟨c_b_', c_i_', c_h_'⟩ := v_
  simp [nz_lit, nz1_lit, nz_agg, nz_sl, nz1_sl, nz_sx, nz_el, nz1_el, nz_own, nz1_own, nz_ptr, nz_fn, nz_iface] at h h2_
  first | (simp [h, h2_]; done) | (obtain ⟨h3_, h4_⟩ := List.append_inj h2_ h.1; simp_all; done) | simp_all | grind
@[simp] theorem c23_fn (c_b_ : List Int) (c_i_ : Int) (c_h_ : Int) : c23.fn ([.ptr (0, 0) 0]) ([((0, 0), .box (.agg [.sl false 1 (.lit (.int .u8 0)) (ML dU c_b_), .lit (.int .i64 c_i_), .lit (.int .i64 c_h_)]))]) = some (okCu (⟨c_b_, c_i_, c_h_⟩ : TL1Cur), encTThing (a4 (⟨c_b_, c_i_, c_h_⟩ : TL1Cur)).1, [((0, 0), .box (encTL1Cur (a4 (⟨c_b_, c_i_, c_h_⟩ : TL1Cur)).2))]) :=
  mkCon_fn c23_inj (⟨c_b_, c_i_, c_h_⟩ : TL1Cur) rfl rfl
theorem c23_pc (c : TL1Cur) (hpre : okCu c) : PCo Try.prog 23 ([.ptr (0, 0) 0]) (Tab.of ([((0, 0), .box (encTL1Cur c))])) (encTThing (a4 c).1) (Tab.of ([((0, 0), .box (encTL1Cur (a4 c).2))])) := by
  exact (a4_spec hpre).2
theorem c23_ok : c23.ok Try.prog := mkCon_ok fun c hpre => c23_pc c hpre
theorem exA4 : ∃ (f : TL1Cur → TThing) (g : TL1Cur → TL1Cur), (∀ (c : TL1Cur), c23.fn [.ptr (0, 0) 0] [((0, 0), .box (.agg [.sl false 1 (.lit (.int .u8 0)) (ML dU c.b_), .lit (.int .i64 c.i_), .lit (.int .i64 c.h_)]))] = some (okCu c, encTThing (f c), [((0, 0), .box (encTL1Cur (g c)))])) ∧ (∀ c, f c = (a4 c).1) ∧ (∀ c, g c = (a4 c).2) ∧ ∀ c, okCu c → okCu (g c) :=
  ⟨fun c => (a4 c).1, fun c => (a4 c).2, fun c => c23_fn c.b_ c.i_ c.h_, fun _ => rfl, fun _ => rfl, fun _ h => (a4_spec h).1⟩

end Go.Proofs.Ytanmlliijcpdjaa
