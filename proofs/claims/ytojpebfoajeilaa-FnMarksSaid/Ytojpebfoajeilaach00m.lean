/- Contracts of the functions that the laws run. -/
import Derived.Test.Ytojpebfoajeilaach00u
import Derived.Test.Ytojpebfoajeilaach11p
import Derived.Test.YtojpebfoajeilaaEngB
namespace Go.Proofs.Ytojpebfoajeilaa
open Go Go.Eng
set_option linter.unusedSimpArgs false
set_option linter.unusedVariables false
set_option maxRecDepth 10000
set_option maxHeartbeats 1000000
noncomputable def dMk (s : List TMark × TL1Cur) : List TMark × TL1Cur := (mPutMark s.1 ⟨1 + bV s.2 8, bV (bN s.2 8) 9⟩, bN (bN s.2 8) 9)
noncomputable def dMkN (c : TL1Cur) : Nat → List TMark × TL1Cur
  | 0 => ([], c)
  | n + 1 => dMk (dMkN c n)
theorem dMkN_len (c : TL1Cur) : ∀ n, (dMkN c n).1.length ≤ n
  | 0 => by simp [dMkN]
  | n + 1 => by
    have h1 := dMkN_len c n
    have h2 := mPutMark_len (dMkN c n).1 ⟨1 + bV (dMkN c n).2 8, bV (bN (dMkN c n).2 8) 9⟩
    simp only [dMkN, dMk]; omega
theorem okCu_dMkN {c : TL1Cur} (h : okCu c) : ∀ n, okCu (dMkN c n).2
  | 0 => h
  | n + 1 => okCu_bN (okCu_bN (okCu_dMkN h n) 8) 9
/-- loop.example/g03007/spec.l11Draw -/
noncomputable def c48 : Con := mkCon 48 true (α := TL1Cur) (fun x => (fun (c : TL1Cur) => ([.ptr (0, 0) 0] : List D)) x) (fun x => (fun (c : TL1Cur) => ([((0, 0), .box (encTL1Cur c))] : List (Nm × OO))) x) (fun x => (fun (c : TL1Cur) => okCu c) x) (fun x => (fun (c : TL1Cur) => (.own (0, 1) 2 0 (dMkN (bN c 6) (bV c 6).toNat).1.length : D)) x) (fun x => (fun (c : TL1Cur) => ([((0, 0), .box (encTL1Cur (dMkN (bN c 6) (bV c 6).toNat).2)), ((0, 1), .arr false 2 yTMark (ML encTMark (dMkN (bN c 6) (bV c 6).toNat).1))] : List (Nm × OO))) x)
@[simp] theorem c48_f : c48.f = 48 := rfl
@[simp] theorem c48_own : c48.own = true := rfl
theorem c48_inj : ∀ u_ v_ : TL1Cur, ((fun x => (fun (c : TL1Cur) => ([.ptr (0, 0) 0] : List D)) x) u_).map nz = ((fun x => (fun (c : TL1Cur) => ([.ptr (0, 0) 0] : List D)) x) v_).map nz → (fun x => (fun (c : TL1Cur) => ([((0, 0), .box (encTL1Cur c))] : List (Nm × OO))) x) u_ = (fun x => (fun (c : TL1Cur) => ([((0, 0), .box (encTL1Cur c))] : List (Nm × OO))) x) v_ → u_ = v_ := by
  intro u_ v_ h h2_
  obtain ⟨c_b_, c_i_, c_h_⟩ := u_
  obtain ⟨c_b_', c_i_', c_h_'⟩ := v_
  simp [nz_lit, nz1_lit, nz_agg, nz_sl, nz1_sl, nz_sx, nz_el, nz1_el, nz_own, nz1_own, nz_ptr, nz_fn, nz_iface] at h h2_
  first | (simp [h, h2_]; done) | (obtain ⟨h3_, h4_⟩ := List.append_inj h2_ h.1; simp_all; done) | simp_all | grind
@[simp] theorem c48_fn (c_b_ : List Int) (c_i_ : Int) (c_h_ : Int) : c48.fn ([.ptr (0, 0) 0]) ([((0, 0), .box (.agg [.sl false 1 (.lit (.int .u8 0)) (ML dU c_b_), .lit (.int .i64 c_i_), .lit (.int .i64 c_h_)]))]) = some (okCu (⟨c_b_, c_i_, c_h_⟩ : TL1Cur), .own (0, 1) 2 0 (dMkN (bN (⟨c_b_, c_i_, c_h_⟩ : TL1Cur) 6) (bV (⟨c_b_, c_i_, c_h_⟩ : TL1Cur) 6).toNat).1.length, [((0, 0), .box (encTL1Cur (dMkN (bN (⟨c_b_, c_i_, c_h_⟩ : TL1Cur) 6) (bV (⟨c_b_, c_i_, c_h_⟩ : TL1Cur) 6).toNat).2)), ((0, 1), .arr false 2 yTMark (ML encTMark (dMkN (bN (⟨c_b_, c_i_, c_h_⟩ : TL1Cur) 6) (bV (⟨c_b_, c_i_, c_h_⟩ : TL1Cur) 6).toNat).1))]) :=
  mkCon_fn c48_inj (⟨c_b_, c_i_, c_h_⟩ : TL1Cur) rfl rfl
theorem c48_pc (c : TL1Cur) (hpre : okCu c) : PCo Try.prog 48 ([.ptr (0, 0) 0]) (Tab.of ([((0, 0), .box (encTL1Cur c))])) (.own (0, 1) 2 0 (dMkN (bN c 6) (bV c 6).toNat).1.length) (Tab.of ([((0, 0), .box (encTL1Cur (dMkN (bN c 6) (bV c 6).toNat).2)), ((0, 1), .arr false 2 yTMark (ML encTMark (dMkN (bN c 6) (bV c 6).toNat).1))])) := by
  refine pco_of_run [] (E := ⟨[c32, c55], [], []⟩) (m := false) (base := 0) (Env.ok_cons c32_ok (Env.ok_cons c55_ok Env.ok_nil)) G_ok mix 300 6 Try.func48 (by kernel_rfl) rfl (by kernel_rfl) (by kernel_rfl) rfl ?_
  have k1 := okCu_bN hpre 6
  have b1 := bV_bd c 6 (by omega)
  obtain ⟨fv, fs, hf, hv, hs⟩ := exBel
  have hD : ∀ p, (dMkN (bN c 6) (p + 1)).1 = mPutMark (dMkN (bN c 6) p).1 ⟨1 + fv (dMkN (bN c 6) p).2 8, fv (fs (dMkN (bN c 6) p).2 8) 9⟩ := fun p => by rw [hv, hv, hs]; rfl
  have hE : ∀ p, (dMkN (bN c 6) (p + 1)).2 = fs (fs (dMkN (bN c 6) p).2 8) 9 := fun p => by rw [hs, hs]; rfl
  have hL := dMkN_len (bN c 6)
  have hok := okCu_dMkN k1
  have hok8 : ∀ p, okCu (fs (dMkN (bN c 6) p).2 8) := fun p => by rw [hs]; exact okCu_bN (hok p) 8
  have hq1 : ∀ p, 0 ≤ fv (dMkN (bN c 6) p).2 8 ∧ fv (dMkN (bN c 6) p).2 8 < 8 := fun p => by rw [hv]; exact bV_bd _ 8 (by omega)
  have hC0 : (dMkN (bN c 6) 0).2 = bN c 6 := rfl
  have hV0 : (dMkN (bN c 6) 0).1 = [] := rfl
  generalize dMkN (bN c 6) = DD at *
  rw [← hs] at hC0
  rw [← hv] at b1 ⊢
  generalize hn : (fv c 6).toNat = n
  have hn2 : fv c 6 = (n : Int) := by omega
  clear hv hs
  simp [Try.f48, hf, -c32_fn, hn2]
  refine ⟨hpre, ?_⟩
  refine loop_inv (fun p : Nat => p ≤ n) (fun p => [(0, .ptr (0, 0) 0), (3, .own (0, 1) 2 0 (DD p).1.length), (4, dI ((n : Int) - p))]) (fun p => [((0, 0), .box (encTL1Cur (DD p).2)), ((0, 1), .arr false 2 yTMark (ML encTMark (DD p).1))]) 2 (fun p => n - p) 0 400 (by simp) (by simp) (by simp [hC0, hV0]) ?_
  intro p hp
  have hLp := hL p
  have hq := hq1 p
  simp [hf, -c32_fn]
  refine ⟨fun hlt => ?_, fun hge => ?_⟩
  · have hkp := hok p
    have hk8 := hok8 p
    repeat' (first | exact hkp | exact hk8 | omega | refine And.intro ?_ ?_ | intro _)
    all_goals first | exact Again.mk (p + 1) (by omega) (by simp [hD, hE]; omega) (by first | omega | (simp; omega)) | trace_state
  · have e : p = n := by omega
    subst e
    simp
theorem c48_ok : c48.ok Try.prog := mkCon_ok fun c hpre => c48_pc c hpre
theorem ex11 : ∃ (f : TL1Cur → List TMark) (g : TL1Cur → TL1Cur), (∀ (c : TL1Cur), c48.fn [.ptr (0, 0) 0] [((0, 0), .box (.agg [.sl false 1 (.lit (.int .u8 0)) (ML dU c.b_), .lit (.int .i64 c.i_), .lit (.int .i64 c.h_)]))] = some (okCu c, .own (0, 1) 2 0 (f c).length, [((0, 0), .box (encTL1Cur (g c))), ((0, 1), .arr false 2 yTMark (ML encTMark (f c)))])) ∧ (∀ c, (f c).length ≤ 6) ∧ ∀ c, okCu c → okCu (g c) :=
  ⟨fun c => (dMkN (bN c 6) (bV c 6).toNat).1, fun c => (dMkN (bN c 6) (bV c 6).toNat).2, fun c => c48_fn c.b_ c.i_ c.h_, fun c => by
    have h1 := bV_bd c 6 (by omega)
    exact Nat.le_trans (dMkN_len (bN c 6) (bV c 6).toNat) (by omega), fun c h => okCu_dMkN (okCu_bN h 6) _⟩

end Go.Proofs.Ytojpebfoajeilaa
