/- Contracts of the functions that the laws run. -/
import Derived.Test.Ytnnlpbogdkdghaach00s
import Derived.Test.YtnnlpbogdkdghaaEngB
namespace Go.Proofs.Ytnnlpbogdkdghaa
open Go Go.Eng
set_option linter.unusedSimpArgs false
set_option linter.unusedVariables false
set_option maxRecDepth 10000
set_option maxHeartbeats 1000000
noncomputable def bsC (c : TL1Cur) : Nat → TL1Cur
  | 0 => c
  | n + 1 => stp (bsC c n)
noncomputable def bsV (c : TL1Cur) : Nat → List Int
  | 0 => []
  | n + 1 => bsV c n ++ [val (bsC c n)]
theorem bsV_len (c : TL1Cur) : ∀ n, (bsV c n).length = n
  | 0 => rfl
  | n + 1 => by simp [bsV, bsV_len c n]
theorem bsV_bd (c : TL1Cur) : ∀ n, ∀ x ∈ bsV c n, 0 ≤ x ∧ x ≤ 255
  | 0, x, h => by simp [bsV] at h
  | n + 1, x, h => by
    simp only [bsV, List.mem_append, List.mem_singleton] at h
    rcases h with h | rfl
    · exact bsV_bd c n x h
    · exact val_bd _
theorem okCu_bsC {c : TL1Cur} (h : okCu c) : ∀ n, okCu (bsC c n)
  | 0 => h
  | n + 1 => okCu_stp (okCu_bsC h n)
theorem wU8 {n : Int} (h : 0 ≤ n ∧ n ≤ 255) : IntKind.wrap .u8 n = n := by
  simp [IntKind.wrap, IntKind.signed, IntKind.bits]; omega
/-- loop.example/g03007/spec.l1Bytes -/
noncomputable def c32 : Con := mkCon 32 true (α := TL1Cur × Int) (fun x => (fun (c : TL1Cur) (n : Int) => ([.ptr (0, 0) 0, dI n] : List D)) x.1 x.2) (fun x => (fun (c : TL1Cur) (n : Int) => ([((0, 0), .box (encTL1Cur c))] : List (Nm × OO))) x.1 x.2) (fun x => (fun (c : TL1Cur) (n : Int) => okCu c ∧ n ≤ 1000000) x.1 x.2) (fun x => (fun (c : TL1Cur) (n : Int) => (.own (0, 1) 1 0 (bsV c n.toNat).length : D)) x.1 x.2) (fun x => (fun (c : TL1Cur) (n : Int) => ([((0, 0), .box (encTL1Cur (bsC c n.toNat))), ((0, 1), .arr false 1 (dU 0) (ML dU (bsV c n.toNat)))] : List (Nm × OO))) x.1 x.2)
@[simp] theorem c32_f : c32.f = 32 := rfl
@[simp] theorem c32_own : c32.own = true := rfl
theorem c32_inj : ∀ u_ v_ : TL1Cur × Int, ((fun x => (fun (c : TL1Cur) (n : Int) => ([.ptr (0, 0) 0, dI n] : List D)) x.1 x.2) u_).map nz = ((fun x => (fun (c : TL1Cur) (n : Int) => ([.ptr (0, 0) 0, dI n] : List D)) x.1 x.2) v_).map nz → (fun x => (fun (c : TL1Cur) (n : Int) => ([((0, 0), .box (encTL1Cur c))] : List (Nm × OO))) x.1 x.2) u_ = (fun x => (fun (c : TL1Cur) (n : Int) => ([((0, 0), .box (encTL1Cur c))] : List (Nm × OO))) x.1 x.2) v_ → u_ = v_ := by
  intro u_ v_ h h2_
  obtain ⟨⟨c_b_, c_i_, c_h_⟩, n⟩ := u_
  obtain ⟨⟨c_b_', c_i_', c_h_'⟩, n'⟩ := v_
  simp [nz_lit, nz1_lit, nz_agg, nz_sl, nz1_sl, nz_sx, nz_el, nz1_el, nz_own, nz1_own, nz_ptr, nz_fn, nz_iface] at h h2_
  first | (simp [h, h2_]; done) | (obtain ⟨h3_, h4_⟩ := List.append_inj h2_ h.1; simp_all; done) | simp_all | grind
@[simp] theorem c32_fn (c_b_ : List Int) (c_i_ : Int) (c_h_ : Int) (n : Int) : c32.fn ([.ptr (0, 0) 0, dI n]) ([((0, 0), .box (.agg [.sl false 1 (.lit (.int .u8 0)) (ML dU c_b_), .lit (.int .i64 c_i_), .lit (.int .i64 c_h_)]))]) = some (okCu (⟨c_b_, c_i_, c_h_⟩ : TL1Cur) ∧ n ≤ 1000000, .own (0, 1) 1 0 (bsV (⟨c_b_, c_i_, c_h_⟩ : TL1Cur) n.toNat).length, [((0, 0), .box (encTL1Cur (bsC (⟨c_b_, c_i_, c_h_⟩ : TL1Cur) n.toNat))), ((0, 1), .arr false 1 (dU 0) (ML dU (bsV (⟨c_b_, c_i_, c_h_⟩ : TL1Cur) n.toNat)))]) :=
  mkCon_fn c32_inj ((⟨c_b_, c_i_, c_h_⟩, n) : TL1Cur × Int) rfl rfl
theorem c32_pc (c : TL1Cur) (n : Int) (hpre : okCu c ∧ n ≤ 1000000) : PCo Try.prog 32 ([.ptr (0, 0) 0, dI n]) (Tab.of ([((0, 0), .box (encTL1Cur c))])) (.own (0, 1) 1 0 (bsV c n.toNat).length) (Tab.of ([((0, 0), .box (encTL1Cur (bsC c n.toNat))), ((0, 1), .arr false 1 (dU 0) (ML dU (bsV c n.toNat)))])) := by
  refine pco_of_run [] (E := ⟨[c53], [], []⟩) (m := false) (base := 0) (Env.ok_cons c53_ok Env.ok_nil) G_ok mix 300 6 Try.func32 (by kernel_rfl) rfl (by kernel_rfl) (by kernel_rfl) rfl ?_
  obtain ⟨h1, h2⟩ := hpre
  obtain ⟨fv, fs, hf, hv, hs⟩ := exCur
  have hC : ∀ p, bsC c (p + 1) = fs (bsC c p) := fun p => by rw [hs]; rfl
  have hV : ∀ p, bsV c (p + 1) = bsV c p ++ [fv (bsC c p)] := fun p => by rw [hv]; rfl
  have hL := bsV_len c
  have hb : ∀ x, 0 ≤ fv x ∧ fv x ≤ 255 := fun x => by rw [hv]; exact val_bd x
  have hok := okCu_bsC h1
  have hC0 : bsC c 0 = c := rfl
  have hV0 : bsV c 0 = [] := rfl
  generalize bsC c = C at *
  generalize bsV c = V at *
  clear hv hs
  simp [Try.f32, hf, -c53_fn]
  have hw : ∀ x, IntKind.wrap .u8 (fv x) = fv x := fun x => wU8 (hb x)
  refine loop_inv (fun p : Nat => p ≤ n.toNat) (fun p => [(0, .ptr (0, 0) 0), (1, dI n), (5, .own (0, 1) 1 0 p), (6, dI p)]) (fun p => [((0, 0), .box (encTL1Cur (C p))), ((0, 1), .arr false 1 (dU 0) (ML dU (V p)))]) 2 (fun p => n.toNat - p) 0 400 (by simp) (by simp) (by simp [hC0, hV0]) ?_
  intro p hp
  have hLp := hL p
  simp [hf, -c53_fn, hw, hLp]
  refine ⟨fun hlt => ?_, fun hge => ?_⟩
  · have hkp := hok p
    repeat' (first | exact hkp | omega | refine And.intro ?_ ?_ | intro _)
    all_goals first | exact Again.mk (p + 1) (by omega) (by simp [hC, hV]) (by first | omega | (simp; omega)) | trace_state
  · have e : n.toNat = p := by omega
    rw [e]
    simp [hLp]
theorem c32_ok : c32.ok Try.prog := mkCon_ok fun ⟨c, n⟩ hpre => c32_pc c n hpre
theorem exOnce : ∃ (fv : TL1Cur → Int → Bool) (fs : TL1Cur → Int → TL1Cur), (∀ (c : TL1Cur) (n : Int), c39.fn [.ptr (0, 0) 0, .lit (.int .i64 n)] [((0, 0), .box (.agg [.sl false 1 (.lit (.int .u8 0)) (ML dU c.b_), .lit (.int .i64 c.i_), .lit (.int .i64 c.h_)]))] = some (okCu c, dB (fv c n), [((0, 0), .box (encTL1Cur (fs c n)))])) ∧ (∀ c n, fv c n = decide (bV c n = 0)) ∧ ∀ c n, fs c n = bN c n := ⟨fun c n => decide (bV c n = 0), bN, fun c n => c39_fn c.b_ c.i_ c.h_ n, fun _ _ => rfl, fun _ _ => rfl⟩
def limA : List Int := [-1, 2147483647, 2147483648]
def limB : List Int := [0, 1, 2147483646]
noncomputable def w3 (c : TL1Cur) : Int × TL1Cur :=
  if decide (bV c 10 = 0) = true then (limA[(bV (bN c 10) 3).toNat]?.getD 0, bN (bN c 10) 3)
  else if decide (bV (bN c 10) 4 = 0) = true then (limB[(bV (bN (bN c 10) 4) 3).toNat]?.getD 0, bN (bN (bN c 10) 4) 3)
  else (bV (bN (bN c 10) 4) 1000000 * bV (bN (bN (bN c 10) 4) 1000000) 2000, bN (bN (bN (bN c 10) 4) 1000000) 2000)
theorem okCu_w3 {c : TL1Cur} (h : okCu c) : okCu (w3 c).2 := by
  have k1 := okCu_bN h 10
  have k2 := okCu_bN k1 4
  simp only [w3]
  (repeat' split)
  · exact okCu_bN k1 3
  · exact okCu_bN k2 3
  · exact okCu_bN (okCu_bN k2 1000000) 2000
/-- loop.example/g03007/spec.l3Word -/
noncomputable def c43 : Con := mkCon 43 true (α := TL1Cur) (fun x => (fun (c : TL1Cur) => ([.ptr (0, 0) 0] : List D)) x) (fun x => (fun (c : TL1Cur) => ([((0, 0), .box (encTL1Cur c))] : List (Nm × OO))) x) (fun x => (fun (c : TL1Cur) => okCu c) x) (fun x => (fun (c : TL1Cur) => (dI (w3 c).1 : D)) x) (fun x => (fun (c : TL1Cur) => ([((0, 0), .box (encTL1Cur (w3 c).2))] : List (Nm × OO))) x)
@[simp] theorem c43_f : c43.f = 43 := rfl
@[simp] theorem c43_own : c43.own = true := rfl
theorem c43_inj : ∀ u_ v_ : TL1Cur, ((fun x => (fun (c : TL1Cur) => ([.ptr (0, 0) 0] : List D)) x) u_).map nz = ((fun x => (fun (c : TL1Cur) => ([.ptr (0, 0) 0] : List D)) x) v_).map nz → (fun x => (fun (c : TL1Cur) => ([((0, 0), .box (encTL1Cur c))] : List (Nm × OO))) x) u_ = (fun x => (fun (c : TL1Cur) => ([((0, 0), .box (encTL1Cur c))] : List (Nm × OO))) x) v_ → u_ = v_ := by
  intro u_ v_ h h2_
  obtain ⟨c_b_, c_i_, c_h_⟩ := u_
  obtain ⟨c_b_', c_i_', c_h_'⟩ := v_
  simp [nz_lit, nz1_lit, nz_agg, nz_sl, nz1_sl, nz_sx, nz_el, nz1_el, nz_own, nz1_own, nz_ptr, nz_fn, nz_iface] at h h2_
  first | (simp [h, h2_]; done) | (obtain ⟨h3_, h4_⟩ := List.append_inj h2_ h.1; simp_all; done) | simp_all | grind
@[simp] theorem c43_fn (c_b_ : List Int) (c_i_ : Int) (c_h_ : Int) : c43.fn ([.ptr (0, 0) 0]) ([((0, 0), .box (.agg [.sl false 1 (.lit (.int .u8 0)) (ML dU c_b_), .lit (.int .i64 c_i_), .lit (.int .i64 c_h_)]))]) = some (okCu (⟨c_b_, c_i_, c_h_⟩ : TL1Cur), dI (w3 (⟨c_b_, c_i_, c_h_⟩ : TL1Cur)).1, [((0, 0), .box (encTL1Cur (w3 (⟨c_b_, c_i_, c_h_⟩ : TL1Cur)).2))]) :=
  mkCon_fn c43_inj (⟨c_b_, c_i_, c_h_⟩ : TL1Cur) rfl rfl
theorem c43_pc (c : TL1Cur) (hpre : okCu c) : PCo Try.prog 43 ([.ptr (0, 0) 0]) (Tab.of ([((0, 0), .box (encTL1Cur c))])) (dI (w3 c).1) (Tab.of ([((0, 0), .box (encTL1Cur (w3 c).2))])) := by
  refine pco_of_run [] (E := ⟨[c33, c39, c42], [], []⟩) (m := false) (base := 1000000) (Env.ok_cons c33_ok (Env.ok_cons c39_ok (Env.ok_cons c42_ok Env.ok_nil))) G_ok mix 300 6 Try.func43 (by kernel_rfl) rfl (by kernel_rfl) (by kernel_rfl) rfl ?_
  have k1 := okCu_bN hpre 10
  have k2 := okCu_bN k1 4
  have k3 := okCu_bN k2 1000000
  have b1 := bV_bd (bN (bN c 10) 4) 1000000 (by omega)
  have b2 := bV_bd (bN (bN (bN c 10) 4) 1000000) 2000 (by omega)
  have hm : 0 ≤ bV (bN (bN c 10) 4) 1000000 * bV (bN (bN (bN c 10) 4) 1000000) 2000 ∧ bV (bN (bN c 10) 4) 1000000 * bV (bN (bN (bN c 10) 4) 1000000) 2000 ≤ 1000000 * 2000 := ⟨Int.mul_nonneg b1.1 b2.1, Int.mul_le_mul (by omega) (by omega) b2.1 (by omega)⟩
  obtain ⟨fv, fs, hf, hv, hs⟩ := exBel
  obtain ⟨fo, fq, hfo, hvo, hso⟩ := exOnce
  obtain ⟨fi, fn, hfi, hvi, hsi⟩ := exBelI
  have ha : w3 c = if fo c 10 = true then (fi (fq c 10) limA, fn (fq c 10) 3)
      else if fo (fq c 10) 4 = true then (fi (fq (fq c 10) 4) limB, fn (fq (fq c 10) 4) 3)
      else (fv (fq (fq c 10) 4) 1000000 * fv (fs (fq (fq c 10) 4) 1000000) 2000, fs (fs (fq (fq c 10) 4) 1000000) 2000) := by
    simp only [hv, hs, hvi, hsi, hvo, hso]; rfl
  have lA : limA = [-1, 2147483647, 2147483648] := rfl
  have lB : limB = [0, 1, 2147483646] := rfl
  rw [lA, lB] at ha
  have e3 : ∀ a0 a1 a2 : Int, ML dI [a0, a1, a2] = [dI a0, dI a1, dI a2] := fun _ _ _ => rfl
  have e5 : ∀ a0 a1 a2 : Int, (([a0, a1, a2] : List Int).length : Int) = 3 := fun _ _ _ => rfl
  have hA := fun a0 a1 a2 => hfi (fq c 10) [a0, a1, a2]
  have hB := fun a0 a1 a2 => hfi (fq (fq c 10) 4) [a0, a1, a2]
  simp only [e3, e5] at hA hB
  rw [← hso c 10] at k1
  rw [← hso c 10, ← hso _ 4] at k2
  rw [← hso c 10, ← hso _ 4, ← hs] at k3
  rw [← hso c 10, ← hso _ 4, ← hs, ← hv, ← hv] at hm
  clear b1 b2 hv hs hvi hsi hvo hso
  generalize w3 c = q at ha ⊢
  subst ha
  cases q0 : fo c 10 with
  | true => simp [Try.f43, hf, hfo, hA, hB, -c33_fn, -c39_fn, -c42_fn, hpre, k1, k2, k3, q0]
  | false =>
    cases q1 : fo (fq c 10) 4 with
    | true => simp [Try.f43, hf, hfo, hA, hB, -c33_fn, -c39_fn, -c42_fn, hpre, k1, k2, k3, q0, q1]
    | false =>
      simp [Try.f43, hf, hfo, hA, hB, -c33_fn, -c39_fn, -c42_fn, hpre, k1, k2, k3, q0, q1]
      omega
theorem c43_ok : c43.ok Try.prog := mkCon_ok fun c hpre => c43_pc c hpre
theorem exWord : ∃ (f : TL1Cur → Int) (g : TL1Cur → TL1Cur), (∀ (c : TL1Cur), c43.fn [.ptr (0, 0) 0] [((0, 0), .box (.agg [.sl false 1 (.lit (.int .u8 0)) (ML dU c.b_), .lit (.int .i64 c.i_), .lit (.int .i64 c.h_)]))] = some (okCu c, dI (f c), [((0, 0), .box (encTL1Cur (g c)))])) ∧ (∀ c, f c = (w3 c).1) ∧ ∀ c, g c = (w3 c).2 :=
  ⟨fun c => (w3 c).1, fun c => (w3 c).2, fun c => c43_fn c.b_ c.i_ c.h_, fun _ => rfl, fun _ => rfl⟩
theorem exBytes : ∃ (f : TL1Cur → Int → List Int) (g : TL1Cur → Int → TL1Cur), (∀ (c : TL1Cur) (n : Int), c32.fn [.ptr (0, 0) 0, .lit (.int .i64 n)] [((0, 0), .box (.agg [.sl false 1 (.lit (.int .u8 0)) (ML dU c.b_), .lit (.int .i64 c.i_), .lit (.int .i64 c.h_)]))] = some (okCu c ∧ n ≤ 1000000, .own (0, 1) 1 0 (f c n).length, [((0, 0), .box (encTL1Cur (g c n))), ((0, 1), .arr false 1 (dU 0) (ML dU (f c n)))])) ∧ (∀ c n, f c n = bsV c n.toNat) ∧ ∀ c n, g c n = bsC c n.toNat :=
  ⟨fun c n => bsV c n.toNat, fun c n => bsC c n.toNat, fun c n => c32_fn c.b_ c.i_ c.h_ n, fun _ _ => rfl, fun _ _ => rfl⟩
theorem exNew : ∃ n : List Int → TL1Cur, (∀ l, c31.fn [.sl false 1 (.lit (.int .u8 0)) (ML dU l)] [] = some (l.length ≤ 2097152, .ptr (0, 1) 0, [((0, 1), .box (encTL1Cur (n l)))])) ∧ ∀ l, n l = newC l := ⟨newC, fun l => c31_fn l, fun _ => rfl⟩
noncomputable def dEk (l : List Int) : Int := (w3 (newC l)).1
noncomputable def dEc (l : List Int) : TL1Cur := (w3 (newC l)).2
noncomputable def dEb (l : List Int) : List Int := bsV (bN (dEc l) 8) (bV (dEc l) 8).toNat
/-- loop.example/g03007/spec.DrawEncrypt -/
noncomputable def c21 : Con := mkCon 21 false (α := (List Int)) (fun x => (fun (l : List Int) => [encLU l]) x) (fun _ => []) (fun x => (fun (l : List Int) => l.length ≤ 2097152) x) (fun x => (fun (l : List Int) => (.tup [dI (dEk l), .sl false 1 (dU 0) (ML dU (dEb l))] : D)) x) (fun x => (fun (l : List Int) => []) x)
@[simp] theorem c21_f : c21.f = 21 := rfl
@[simp] theorem c21_own : c21.own = false := rfl
theorem c21_inj : ∀ u_ v_ : (List Int), ((fun x => (fun (l : List Int) => [encLU l]) x) u_).map nz = ((fun x => (fun (l : List Int) => [encLU l]) x) v_).map nz → u_ = v_ := by
  intro u_ v_ h
  obtain l := u_
  obtain l' := v_
  simp [nz_lit, nz1_lit, nz_agg, nz_sl, nz1_sl, encLU] at h
  first | (simp [h]; done) | (obtain ⟨⟩ := h; simp_all; done) | simp_all
@[simp] theorem c21_fn (l : List Int) : c21.fn [.sl false 1 (.lit (.int .u8 0)) (ML dU l)] [] = some ((fun (l : List Int) => l.length ≤ 2097152) l, (fun (l : List Int) => (.tup [dI (dEk l), .sl false 1 (dU 0) (ML dU (dEb l))] : D)) l, (fun (l : List Int) => []) l) :=
  mkCon_fn (fun x y h _ => c21_inj x y h) (l : (List Int)) (by simp [nz, nz1, ML_nil, encLU]) rfl
@[simp] theorem c21_fn1 (s_l : Nat) (z_l : D) : c21.fn [.sl false s_l z_l []] [] = some ((fun (l : List Int) => l.length ≤ 2097152) [], (fun (l : List Int) => (.tup [dI (dEk l), .sl false 1 (dU 0) (ML dU (dEb l))] : D)) [], (fun (l : List Int) => []) []) :=
  mkCon_fn (fun x y h _ => c21_inj x y h) ([] : (List Int)) (by simp [nz, nz1, ML_nil, encLU]) rfl
theorem c21_pc (l : List Int) (hpre : l.length ≤ 2097152) : PCo Try.prog 21 [encLU l] (Tab.of []) (.tup [dI (dEk l), .sl false 1 (dU 0) (ML dU (dEb l))]) (Tab.of []) := by
  refine pco_of_run [] (E := ⟨[c31, c32, c33, c43], [], []⟩) (m := false) (base := 0) (Env.ok_cons c31_ok (Env.ok_cons c32_ok (Env.ok_cons c33_ok (Env.ok_cons c43_ok Env.ok_nil)))) G_ok mix 300 6 Try.func21 (by kernel_rfl) rfl (by kernel_rfl) (by kernel_rfl) rfl ?_
  have k1 := okCu_new hpre
  have k2 := okCu_w3 k1
  have k3 := okCu_bN k2 8
  have b3 := bV_bd (w3 (newC l)).2 8 (by omega)
  have ek : dEk l = (w3 (newC l)).1 := rfl
  have eb : dEb l = bsV (bN (w3 (newC l)).2 8) (bV (w3 (newC l)).2 8).toNat := rfl
  rw [ek, eb]
  obtain ⟨fn, hn, hn2⟩ := exNew
  obtain ⟨fw, gw, hw, hw1, hw2⟩ := exWord
  obtain ⟨fv, fs, hf, hv, hs⟩ := exBel
  obtain ⟨fb, gb, hb, hb1, hb2⟩ := exBytes
  rw [← hn2] at k1 k2 k3 b3 ⊢
  rw [← hw2] at k2 k3 b3 ⊢
  rw [← hs] at k3 ⊢
  rw [← hv] at b3 ⊢
  rw [← hb1, ← hw1]
  clear hn2 hw1 hw2 hv hs hb1 hb2
  simp [Try.f21, hn, hw, hf, hb, -c31_fn, -c43_fn, -c33_fn, -c32_fn, hpre, k1, k2, k3]
  omega
theorem c21_ok : c21.ok Try.prog := mkCon_ok fun l hpre => c21_pc l hpre

end Go.Proofs.Ytnnlpbogdkdghaa
