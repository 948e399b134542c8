/- Contracts of the functions that the laws run. -/
import Derived.Test.Ytnnlpbogdkdghaach03g
import Derived.Test.YtnnlpbogdkdghaaEngB
namespace Go.Proofs.Ytnnlpbogdkdghaa
open Go Go.Eng
set_option linter.unusedSimpArgs false
set_option linter.unusedVariables false
set_option maxRecDepth 10000
set_option maxHeartbeats 1000000
noncomputable def wsC (c : TL1Cur) : Nat → TL1Cur
  | 0 => c
  | n + 1 => (w3 (wsC c n)).2
noncomputable def wsV (c : TL1Cur) : Nat → List Int
  | 0 => []
  | n + 1 => wsV c n ++ [(w3 (wsC c n)).1]
theorem wsV_len (c : TL1Cur) : ∀ n, (wsV c n).length = n
  | 0 => rfl
  | n + 1 => by simp [wsV, wsV_len c n]
theorem okCu_wsC {c : TL1Cur} (h : okCu c) : ∀ n, okCu (wsC c n)
  | 0 => h
  | n + 1 => okCu_w3 (okCu_wsC h n)
theorem lim3 {l : List Int} {i : Int} {a b : Int} (hl : l.length = 3) (hi : 0 ≤ i ∧ i < 3) (h : ∀ x ∈ l, a ≤ x ∧ x ≤ b) : a ≤ l[i.toNat]?.getD 0 ∧ l[i.toNat]?.getD 0 ≤ b := h _ (getD_mem (d := 0) (by omega))
theorem w3_bd (c : TL1Cur) : -1 ≤ (w3 c).1 ∧ (w3 c).1 ≤ 2147483648 := by
  have b1 := bV_bd (bN (bN c 10) 4) 1000000 (by omega)
  have b2 := bV_bd (bN (bN (bN c 10) 4) 1000000) 2000 (by omega)
  have hm : 0 ≤ bV (bN (bN c 10) 4) 1000000 * bV (bN (bN (bN c 10) 4) 1000000) 2000 ∧ bV (bN (bN c 10) 4) 1000000 * bV (bN (bN (bN c 10) 4) 1000000) 2000 ≤ 1000000 * 2000 := ⟨Int.mul_nonneg b1.1 b2.1, Int.mul_le_mul (by omega) (by omega) b2.1 (by omega)⟩
  simp only [w3]
  (repeat' split)
  · exact lim3 rfl (bV_bd _ 3 (by omega)) (by simp [limA])
  · exact lim3 rfl (bV_bd _ 3 (by omega)) (by simp [limB])
  · dsimp only; omega
theorem wsV_bd (c : TL1Cur) : ∀ n, ∀ x ∈ wsV c n, -1 ≤ x ∧ x ≤ 2147483648
  | 0, x, h => by simp [wsV] at h
  | n + 1, x, h => by
    simp only [wsV, List.mem_append, List.mem_singleton] at h
    rcases h with h | rfl
    · exact wsV_bd c n x h
    · exact w3_bd _
/-- loop.example/g03007/spec.l3Words -/
noncomputable def c45 : Con := mkCon 45 true (α := TL1Cur) (fun x => (fun (c : TL1Cur) => ([.ptr (0, 0) 0] : List D)) x) (fun x => (fun (c : TL1Cur) => ([((0, 0), .box (encTL1Cur c))] : List (Nm × OO))) x) (fun x => (fun (c : TL1Cur) => okCu c) x) (fun x => (fun (c : TL1Cur) => (.own (0, 1) 1 0 (wsV (bN c 5) (bV c 5).toNat).length : D)) x) (fun x => (fun (c : TL1Cur) => ([((0, 0), .box (encTL1Cur (wsC (bN c 5) (bV c 5).toNat))), ((0, 1), .arr false 1 (dI 0) (ML dI (wsV (bN c 5) (bV c 5).toNat)))] : List (Nm × OO))) x)
@[simp] theorem c45_f : c45.f = 45 := rfl
@[simp] theorem c45_own : c45.own = true := rfl
theorem c45_inj : ∀ u_ v_ : TL1Cur, ((fun x => (fun (c : TL1Cur) => ([.ptr (0, 0) 0] : List D)) x) u_).map nz = ((fun x => (fun (c : TL1Cur) => ([.ptr (0, 0) 0] : List D)) x) v_).map nz → (fun x => (fun (c : TL1Cur) => ([((0, 0), .box (encTL1Cur c))] : List (Nm × OO))) x) u_ = (fun x => (fun (c : TL1Cur) => ([((0, 0), .box (encTL1Cur c))] : List (Nm × OO))) x) v_ → u_ = v_ := by
  intro u_ v_ h h2_
  obtain ⟨c_b_, c_i_, c_h_⟩ := u_
  obtain ⟨c_b_', c_i_', c_h_'⟩ := v_
  simp [nz_lit, nz1_lit, nz_agg, nz_sl, nz1_sl, nz_sx, nz_el, nz1_el, nz_own, nz1_own, nz_ptr, nz_fn, nz_iface] at h h2_
  first | (simp [h, h2_]; done) | (obtain ⟨h3_, h4_⟩ := List.append_inj h2_ h.1; simp_all; done) | simp_all | grind
@[simp] theorem c45_fn (c_b_ : List Int) (c_i_ : Int) (c_h_ : Int) : c45.fn ([.ptr (0, 0) 0]) ([((0, 0), .box (.agg [.sl false 1 (.lit (.int .u8 0)) (ML dU c_b_), .lit (.int .i64 c_i_), .lit (.int .i64 c_h_)]))]) = some (okCu (⟨c_b_, c_i_, c_h_⟩ : TL1Cur), .own (0, 1) 1 0 (wsV (bN (⟨c_b_, c_i_, c_h_⟩ : TL1Cur) 5) (bV (⟨c_b_, c_i_, c_h_⟩ : TL1Cur) 5).toNat).length, [((0, 0), .box (encTL1Cur (wsC (bN (⟨c_b_, c_i_, c_h_⟩ : TL1Cur) 5) (bV (⟨c_b_, c_i_, c_h_⟩ : TL1Cur) 5).toNat))), ((0, 1), .arr false 1 (dI 0) (ML dI (wsV (bN (⟨c_b_, c_i_, c_h_⟩ : TL1Cur) 5) (bV (⟨c_b_, c_i_, c_h_⟩ : TL1Cur) 5).toNat)))]) :=
  mkCon_fn c45_inj (⟨c_b_, c_i_, c_h_⟩ : TL1Cur) rfl rfl
theorem c45_pc (c : TL1Cur) (hpre : okCu c) : PCo Try.prog 45 ([.ptr (0, 0) 0]) (Tab.of ([((0, 0), .box (encTL1Cur c))])) (.own (0, 1) 1 0 (wsV (bN c 5) (bV c 5).toNat).length) (Tab.of ([((0, 0), .box (encTL1Cur (wsC (bN c 5) (bV c 5).toNat))), ((0, 1), .arr false 1 (dI 0) (ML dI (wsV (bN c 5) (bV c 5).toNat)))])) := by
  refine pco_of_run [] (E := ⟨[c33, c43], [], []⟩) (m := false) (base := 0) (Env.ok_cons c33_ok (Env.ok_cons c43_ok Env.ok_nil)) G_ok mix 300 6 Try.func45 (by kernel_rfl) rfl (by kernel_rfl) (by kernel_rfl) rfl ?_
  have k1 := okCu_bN hpre 5
  have b1 := bV_bd c 5 (by omega)
  obtain ⟨fw, gw, hw, hw1, hw2⟩ := exWord
  obtain ⟨fv, fs, hf, hv, hs⟩ := exBel
  have hC : ∀ p, wsC (bN c 5) (p + 1) = gw (wsC (bN c 5) p) := fun p => by rw [hw2]; rfl
  have hV : ∀ p, wsV (bN c 5) (p + 1) = wsV (bN c 5) p ++ [fw (wsC (bN c 5) p)] := fun p => by rw [hw1]; rfl
  have hL := wsV_len (bN c 5)
  have hok := okCu_wsC k1
  have hC0 : wsC (bN c 5) 0 = bN c 5 := rfl
  have hV0 : wsV (bN c 5) 0 = [] := rfl
  generalize wsC (bN c 5) = C at *
  generalize wsV (bN c 5) = V at *
  rw [← hs] at hC0
  rw [← hv] at b1 ⊢
  generalize hn : (fv c 5).toNat = n
  have hn2 : fv c 5 = (n : Int) := by omega
  clear hv hs hw1 hw2
  simp [Try.f45, hf, -c33_fn, hn2]
  refine ⟨hpre, ?_⟩
  refine loop_inv (fun p : Nat => p ≤ n) (fun p => [(0, .ptr (0, 0) 0), (3, .own (0, 1) 1 0 p), (4, dI ((n : Int) - p))]) (fun p => [((0, 0), .box (encTL1Cur (C p))), ((0, 1), .arr false 1 (dI 0) (ML dI (V p)))]) 2 (fun p => n - p) 0 400 (by simp) (by simp) (by simp [hC0, hV0]) ?_
  intro p hp
  have hLp := hL p
  simp [hw, -c43_fn, hLp]
  refine ⟨fun hlt => ?_, fun hge => ?_⟩
  · have hkp := hok p
    repeat' (first | exact hkp | omega | refine And.intro ?_ ?_ | intro _)
    all_goals first | exact Again.mk (p + 1) (by omega) (by simp [hC, hV]; omega) (by first | omega | (simp; omega)) | trace_state
  · have e : p = n := by omega
    subst e
    simp [hLp]
theorem c45_ok : c45.ok Try.prog := mkCon_ok fun c hpre => c45_pc c hpre
theorem exWords : ∃ (f : TL1Cur → List Int) (g : TL1Cur → TL1Cur), (∀ (c : TL1Cur), c45.fn [.ptr (0, 0) 0] [((0, 0), .box (.agg [.sl false 1 (.lit (.int .u8 0)) (ML dU c.b_), .lit (.int .i64 c.i_), .lit (.int .i64 c.h_)]))] = some (okCu c, .own (0, 1) 1 0 (f c).length, [((0, 0), .box (encTL1Cur (g c))), ((0, 1), .arr false 1 (dI 0) (ML dI (f c)))])) ∧ (∀ c, f c = wsV (bN c 5) (bV c 5).toNat) ∧ ∀ c, g c = wsC (bN c 5) (bV c 5).toNat :=
  ⟨fun c => wsV (bN c 5) (bV c 5).toNat, fun c => wsC (bN c 5) (bV c 5).toNat, fun c => c45_fn c.b_ c.i_ c.h_, fun _ => rfl, fun _ => rfl⟩
noncomputable def dKl (l : List Int) : List Int := wsV (bN (dEc l) 5) (bV (dEc l) 5).toNat
/-- loop.example/g03007/spec.DrawKeyedHash -/
noncomputable def c24 : Con := mkCon 24 false (α := (List Int)) (fun x => (fun (l : List Int) => [encLU l]) x) (fun _ => []) (fun x => (fun (l : List Int) => l.length ≤ 2097152) x) (fun x => (fun (l : List Int) => (.tup [dI (dEk l), .sl false 1 (dI 0) (ML dI (dKl l))] : D)) x) (fun x => (fun (l : List Int) => []) x)
@[simp] theorem c24_f : c24.f = 24 := rfl
@[simp] theorem c24_own : c24.own = false := rfl
theorem c24_inj : ∀ u_ v_ : (List Int), ((fun x => (fun (l : List Int) => [encLU l]) x) u_).map nz = ((fun x => (fun (l : List Int) => [encLU l]) x) v_).map nz → u_ = v_ := by
  intro u_ v_ h
  obtain l := u_
  obtain l' := v_
  simp [nz_lit, nz1_lit, nz_agg, nz_sl, nz1_sl, encLU] at h
  first | (simp [h]; done) | (obtain ⟨⟩ := h; simp_all; done) | simp_all
@[simp] theorem c24_fn (l : List Int) : c24.fn [.sl false 1 (.lit (.int .u8 0)) (ML dU l)] [] = some ((fun (l : List Int) => l.length ≤ 2097152) l, (fun (l : List Int) => (.tup [dI (dEk l), .sl false 1 (dI 0) (ML dI (dKl l))] : D)) l, (fun (l : List Int) => []) l) :=
  mkCon_fn (fun x y h _ => c24_inj x y h) (l : (List Int)) (by simp [nz, nz1, ML_nil, encLU]) rfl
@[simp] theorem c24_fn1 (s_l : Nat) (z_l : D) : c24.fn [.sl false s_l z_l []] [] = some ((fun (l : List Int) => l.length ≤ 2097152) [], (fun (l : List Int) => (.tup [dI (dEk l), .sl false 1 (dI 0) (ML dI (dKl l))] : D)) [], (fun (l : List Int) => []) []) :=
  mkCon_fn (fun x y h _ => c24_inj x y h) ([] : (List Int)) (by simp [nz, nz1, ML_nil, encLU]) rfl
theorem c24_pc (l : List Int) (hpre : l.length ≤ 2097152) : PCo Try.prog 24 [encLU l] (Tab.of []) (.tup [dI (dEk l), .sl false 1 (dI 0) (ML dI (dKl l))]) (Tab.of []) := by
  refine pco_of_run [] (E := ⟨[c31, c43, c45], [], []⟩) (m := false) (base := 0) (Env.ok_cons c31_ok (Env.ok_cons c43_ok (Env.ok_cons c45_ok Env.ok_nil))) G_ok mix 300 6 Try.func24 (by kernel_rfl) rfl (by kernel_rfl) (by kernel_rfl) rfl ?_
  have k1 := okCu_new hpre
  have k2 := okCu_w3 k1
  have ek : dEk l = (w3 (newC l)).1 := rfl
  have eb : dKl l = wsV (bN (w3 (newC l)).2 5) (bV (w3 (newC l)).2 5).toNat := rfl
  rw [ek, eb]
  obtain ⟨fn, hn, hn2⟩ := exNew
  obtain ⟨fw, gw, hw, hw1, hw2⟩ := exWord
  obtain ⟨fb, gb, hb, hb1, hb2⟩ := exWords
  rw [← hn2] at k1 k2 ⊢
  rw [← hw2] at k2 ⊢
  rw [← hb1, ← hw1]
  clear hn2 hw1 hw2 hb1 hb2
  simp [Try.f24, hn, hw, hb, -c31_fn, -c43_fn, -c45_fn, hpre, k1, k2]
theorem c24_ok : c24.ok Try.prog := mkCon_ok fun l hpre => c24_pc l hpre
/-- loop.example/g03007/spec.l1Str -/
noncomputable def c50 : Con := mkCon 50 true (α := TL1Cur × (List ByteArray)) (fun x => (fun (c : TL1Cur) (l : List ByteArray) => ([.ptr (0, 0) 0, encLS l] : List D)) x.1 x.2) (fun x => (fun (c : TL1Cur) (l : List ByteArray) => ([((0, 0), .box (encTL1Cur c))] : List (Nm × OO))) x.1 x.2) (fun x => (fun (c : TL1Cur) (l : List ByteArray) => okCu c ∧ 0 < l.length ∧ l.length ≤ 1099511627776) x.1 x.2) (fun x => (fun (c : TL1Cur) (l : List ByteArray) => (dS (l[(bV c l.length).toNat]?.getD ⟨#[]⟩) : D)) x.1 x.2) (fun x => (fun (c : TL1Cur) (l : List ByteArray) => ([((0, 0), .box (encTL1Cur (bN c l.length)))] : List (Nm × OO))) x.1 x.2)
@[simp] theorem c50_f : c50.f = 50 := rfl
@[simp] theorem c50_own : c50.own = true := rfl
theorem c50_inj : ∀ u_ v_ : TL1Cur × (List ByteArray), ((fun x => (fun (c : TL1Cur) (l : List ByteArray) => ([.ptr (0, 0) 0, encLS l] : List D)) x.1 x.2) u_).map nz = ((fun x => (fun (c : TL1Cur) (l : List ByteArray) => ([.ptr (0, 0) 0, encLS l] : List D)) x.1 x.2) v_).map nz → (fun x => (fun (c : TL1Cur) (l : List ByteArray) => ([((0, 0), .box (encTL1Cur c))] : List (Nm × OO))) x.1 x.2) u_ = (fun x => (fun (c : TL1Cur) (l : List ByteArray) => ([((0, 0), .box (encTL1Cur c))] : List (Nm × OO))) x.1 x.2) v_ → u_ = v_ := by
  intro u_ v_ h h2_
  obtain ⟨⟨c_b_, c_i_, c_h_⟩, l⟩ := u_
  obtain ⟨⟨c_b_', c_i_', c_h_'⟩, l'⟩ := v_
  simp [nz_lit, nz1_lit, nz_agg, nz_sl, nz1_sl, nz_sx, nz_el, nz1_el, nz_own, nz1_own, nz_ptr, nz_fn, nz_iface] at h h2_
  first | (simp [h, h2_]; done) | (obtain ⟨h3_, h4_⟩ := List.append_inj h2_ h.1; simp_all; done) | simp_all | grind
@[simp] theorem c50_fn (c_b_ : List Int) (c_i_ : Int) (c_h_ : Int) (l : List ByteArray) : c50.fn ([.ptr (0, 0) 0, (.sl false 1 (.lit (.string ⟨#[]⟩)) (ML dS l))]) ([((0, 0), .box (.agg [.sl false 1 (.lit (.int .u8 0)) (ML dU c_b_), .lit (.int .i64 c_i_), .lit (.int .i64 c_h_)]))]) = some (okCu (⟨c_b_, c_i_, c_h_⟩ : TL1Cur) ∧ 0 < l.length ∧ l.length ≤ 1099511627776, dS (l[(bV (⟨c_b_, c_i_, c_h_⟩ : TL1Cur) l.length).toNat]?.getD ⟨#[]⟩), [((0, 0), .box (encTL1Cur (bN (⟨c_b_, c_i_, c_h_⟩ : TL1Cur) l.length)))]) :=
  mkCon_fn c50_inj ((⟨c_b_, c_i_, c_h_⟩, l) : TL1Cur × (List ByteArray)) rfl rfl
theorem c50_pc (c : TL1Cur) (l : List ByteArray) (hpre : okCu c ∧ 0 < l.length ∧ l.length ≤ 1099511627776) : PCo Try.prog 50 ([.ptr (0, 0) 0, encLS l]) (Tab.of ([((0, 0), .box (encTL1Cur c))])) (dS (l[(bV c l.length).toNat]?.getD ⟨#[]⟩)) (Tab.of ([((0, 0), .box (encTL1Cur (bN c l.length)))])) := by
  refine pco_of_run [] (E := ⟨[c33], [], []⟩) (m := false) (base := 0) (Env.ok_cons c33_ok Env.ok_nil) G_ok mix 300 6 Try.func50 (by kernel_rfl) rfl (by kernel_rfl) (by kernel_rfl) rfl ?_
  obtain ⟨p1, p2, p3⟩ := hpre
  have hb := bV_bd c l.length (by omega)
  obtain ⟨fv, fs, hf, hv, hs⟩ := exBel
  rw [← hv, ← hs]
  rw [← hv] at hb
  simp [Try.f50, hf, -c33_fn]
  exact ⟨p1, hb⟩
theorem c50_ok : c50.ok Try.prog := mkCon_ok fun ⟨c, l⟩ hpre => c50_pc c l hpre
theorem exStr : ∃ (fi : TL1Cur → List ByteArray → ByteArray) (fs : TL1Cur → Int → TL1Cur), (∀ (c : TL1Cur) (l : List ByteArray), c50.fn [.ptr (0, 0) 0, .sl false 1 (.lit (.string ⟨#[]⟩)) (ML dS l)] [((0, 0), .box (.agg [.sl false 1 (.lit (.int .u8 0)) (ML dU c.b_), .lit (.int .i64 c.i_), .lit (.int .i64 c.h_)]))] = some (okCu c ∧ 0 < l.length ∧ l.length ≤ 1099511627776, dS (fi c l), [((0, 0), .box (encTL1Cur (fs c l.length)))])) ∧ (∀ c l, fi c l = l[(bV c l.length).toNat]?.getD ⟨#[]⟩) ∧ ∀ c n, fs c n = bN c n :=
  ⟨fun c l => l[(bV c l.length).toNat]?.getD ⟨#[]⟩, bN, fun c l => c50_fn c.b_ c.i_ c.h_ l, fun _ _ => rfl, fun _ _ => rfl⟩
def limS : List ByteArray := [⟨#[]⟩, ⟨#[97]⟩, ⟨#[98]⟩, ⟨#[97, 98]⟩, ⟨#[110, 101, 119, 115]⟩, ⟨#[120]⟩]
noncomputable def dDs (l : List Int) : ByteArray := limS[(bV (dEc l) 6).toNat]?.getD ⟨#[]⟩
/-- loop.example/g03007/spec.DrawDeriveFromString -/
noncomputable def c28 : Con := mkCon 28 false (α := (List Int)) (fun x => (fun (l : List Int) => [encLU l]) x) (fun _ => []) (fun x => (fun (l : List Int) => l.length ≤ 2097152) x) (fun x => (fun (l : List Int) => (.tup [dI (dEk l), dS (dDs l)] : D)) x) (fun x => (fun (l : List Int) => []) x)
@[simp] theorem c28_f : c28.f = 28 := rfl
@[simp] theorem c28_own : c28.own = false := rfl
theorem c28_inj : ∀ u_ v_ : (List Int), ((fun x => (fun (l : List Int) => [encLU l]) x) u_).map nz = ((fun x => (fun (l : List Int) => [encLU l]) x) v_).map nz → u_ = v_ := by
  intro u_ v_ h
  obtain l := u_
  obtain l' := v_
  simp [nz_lit, nz1_lit, nz_agg, nz_sl, nz1_sl, encLU] at h
  first | (simp [h]; done) | (obtain ⟨⟩ := h; simp_all; done) | simp_all
@[simp] theorem c28_fn (l : List Int) : c28.fn [.sl false 1 (.lit (.int .u8 0)) (ML dU l)] [] = some ((fun (l : List Int) => l.length ≤ 2097152) l, (fun (l : List Int) => (.tup [dI (dEk l), dS (dDs l)] : D)) l, (fun (l : List Int) => []) l) :=
  mkCon_fn (fun x y h _ => c28_inj x y h) (l : (List Int)) (by simp [nz, nz1, ML_nil, encLU]) rfl
@[simp] theorem c28_fn1 (s_l : Nat) (z_l : D) : c28.fn [.sl false s_l z_l []] [] = some ((fun (l : List Int) => l.length ≤ 2097152) [], (fun (l : List Int) => (.tup [dI (dEk l), dS (dDs l)] : D)) [], (fun (l : List Int) => []) []) :=
  mkCon_fn (fun x y h _ => c28_inj x y h) ([] : (List Int)) (by simp [nz, nz1, ML_nil, encLU]) rfl
theorem c28_pc (l : List Int) (hpre : l.length ≤ 2097152) : PCo Try.prog 28 [encLU l] (Tab.of []) (.tup [dI (dEk l), dS (dDs l)]) (Tab.of []) := by
  refine pco_of_run [] (E := ⟨[c31, c43, c50], [], []⟩) (m := false) (base := 1000000) (Env.ok_cons c31_ok (Env.ok_cons c43_ok (Env.ok_cons c50_ok Env.ok_nil))) G_ok mix 300 6 Try.func28 (by kernel_rfl) rfl (by kernel_rfl) (by kernel_rfl) rfl ?_
  have k1 := okCu_new hpre
  have k2 := okCu_w3 k1
  have ek : dEk l = (w3 (newC l)).1 := rfl
  have eb : dDs l = limS[(bV (w3 (newC l)).2 limS.length).toNat]?.getD ⟨#[]⟩ := rfl
  rw [ek, eb]
  obtain ⟨fn, hn, hn2⟩ := exNew
  obtain ⟨fw, gw, hw, hw1, hw2⟩ := exWord
  obtain ⟨fi, fm, hfi, hvi, hsi⟩ := exStr
  rw [← hn2] at k1 k2 ⊢
  rw [← hw2] at k2 ⊢
  rw [← hvi, ← hw1]
  have hl : limS = [⟨#[]⟩, ⟨#[97]⟩, ⟨#[98]⟩, ⟨#[97, 98]⟩, ⟨#[110, 101, 119, 115]⟩, ⟨#[120]⟩] := rfl
  have hfi6 := fun a0 a1 a2 a3 a4 a5 => hfi (gw (fn l)) [a0, a1, a2, a3, a4, a5]
  have e6 : ∀ a0 a1 a2 a3 a4 a5 : ByteArray, ML dS [a0, a1, a2, a3, a4, a5] = [dS a0, dS a1, dS a2, dS a3, dS a4, dS a5] := fun _ _ _ _ _ _ => rfl
  have e7 : ∀ a0 a1 a2 a3 a4 a5 : ByteArray, (([a0, a1, a2, a3, a4, a5] : List ByteArray).length : Int) = 6 := fun _ _ _ _ _ _ => rfl
  simp only [e6, e7] at hfi6
  rw [hl]
  clear hn2 hw1 hw2 hvi hsi
  simp [Try.f28, hn, hw, hfi6, -c31_fn, -c43_fn, -c50_fn, hpre, k1, k2]
  first | done | trace_state
theorem c28_ok : c28.ok Try.prog := mkCon_ok fun l hpre => c28_pc l hpre
def mAt (l : List Int) (i : Int) : Int := if i < l.length then l[i.toNat]?.getD 0 else (i * 31 + l.length * 7).tmod 256
theorem mAt_bd {l : List Int} {i : Int} (hi : 0 ≤ i) (h : ∀ x ∈ l, 0 ≤ x ∧ x ≤ 255) : 0 ≤ mAt l i ∧ mAt l i ≤ 255 := by
  simp only [mAt]; split
  · exact h _ (getD_mem (by omega))
  · have h1 : 0 ≤ i * 31 + l.length * 7 := by omega
    have h2 := Int.tmod_nonneg 256 h1
    have h3 := Int.tmod_lt_of_pos (i * 31 + (l.length : Int) * 7) (show (0 : Int) < 256 by omega)
    omega
/-- loop.example/g03007/laws.at -/
noncomputable def c17 : Con := mkCon 17 false (α := (List Int) × Int) (fun x => (fun (l : List Int) (i : Int) => [encLU l, dI i]) x.1 x.2) (fun _ => []) (fun x => (fun (l : List Int) (i : Int) => 0 ≤ i ∧ i ≤ 1000 ∧ l.length ≤ 2097152 ∧ ∀ x ∈ l, 0 ≤ x ∧ x ≤ 255) x.1 x.2) (fun x => (fun (l : List Int) (i : Int) => (dI (mAt l i) : D)) x.1 x.2) (fun x => (fun (l : List Int) (i : Int) => []) x.1 x.2)
@[simp] theorem c17_f : c17.f = 17 := rfl
@[simp] theorem c17_own : c17.own = false := rfl
theorem c17_inj : ∀ u_ v_ : (List Int) × Int, ((fun x => (fun (l : List Int) (i : Int) => [encLU l, dI i]) x.1 x.2) u_).map nz = ((fun x => (fun (l : List Int) (i : Int) => [encLU l, dI i]) x.1 x.2) v_).map nz → u_ = v_ := by
  intro u_ v_ h
  obtain ⟨l, i⟩ := u_
  obtain ⟨l', i'⟩ := v_
  simp [nz_lit, nz1_lit, nz_agg, nz_sl, nz1_sl, encLU] at h
  first | (simp [h]; done) | (obtain ⟨⟩ := h; simp_all; done) | simp_all
@[simp] theorem c17_fn (l : List Int) (i : Int) : c17.fn [.sl false 1 (.lit (.int .u8 0)) (ML dU l), .lit (.int .i64 i)] [] = some ((fun (l : List Int) (i : Int) => 0 ≤ i ∧ i ≤ 1000 ∧ l.length ≤ 2097152 ∧ ∀ x ∈ l, 0 ≤ x ∧ x ≤ 255) l i, (fun (l : List Int) (i : Int) => (dI (mAt l i) : D)) l i, (fun (l : List Int) (i : Int) => []) l i) :=
  mkCon_fn (fun x y h _ => c17_inj x y h) ((l, i) : (List Int) × Int) (by simp [nz, nz1, ML_nil, encLU]) rfl
@[simp] theorem c17_fn1 (s_l : Nat) (z_l : D) (i : Int) : c17.fn [.sl false s_l z_l [], .lit (.int .i64 i)] [] = some ((fun (l : List Int) (i : Int) => 0 ≤ i ∧ i ≤ 1000 ∧ l.length ≤ 2097152 ∧ ∀ x ∈ l, 0 ≤ x ∧ x ≤ 255) [] i, (fun (l : List Int) (i : Int) => (dI (mAt l i) : D)) [] i, (fun (l : List Int) (i : Int) => []) [] i) :=
  mkCon_fn (fun x y h _ => c17_inj x y h) (([], i) : (List Int) × Int) (by simp [nz, nz1, ML_nil, encLU]) rfl
theorem c17_pc (l : List Int) (i : Int) (hpre : 0 ≤ i ∧ i ≤ 1000 ∧ l.length ≤ 2097152 ∧ ∀ x ∈ l, 0 ≤ x ∧ x ≤ 255) : PCo Try.prog 17 [encLU l, dI i] (Tab.of []) (dI (mAt l i)) (Tab.of []) := by
  refine pco_of_run [] (E := ⟨[], [], []⟩) (m := false) (base := 0) Env.ok_nil G_ok mix 300 6 Try.func17 (by kernel_rfl) rfl (by kernel_rfl) (by kernel_rfl) rfl ?_
  simp [Try.f17]
  obtain ⟨h1, h2, h3, h4⟩ := hpre
  refine ⟨fun hlt => ?_, fun hge => ?_⟩
  · have hb := h4 _ (getD_mem (d := 0) (show i.toNat < l.length by omega))
    rw [mAt, if_pos hlt]
    exact ⟨⟨⟨h1, hlt⟩, by omega, by omega⟩, rfl⟩
  · rw [mAt, if_neg (by omega)]
    exact ⟨⟨⟨by omega, by omega⟩, ⟨by omega, by omega⟩, by omega, by omega⟩, rfl⟩
theorem c17_ok : c17.ok Try.prog := mkCon_ok fun ⟨l, i⟩ hpre => c17_pc l i hpre
theorem step_inj {a b c : Int} (ha : 0 ≤ a ∧ a < 2147483647) (hb : 0 ≤ b ∧ b < 2147483647) (h : hStep a c = hStep b c) : a = b := by
  simp only [hStep] at h
  omega
theorem fold_inj : ∀ (l : List Int) {a b : Int}, 0 ≤ a ∧ a < 2147483647 → 0 ≤ b ∧ b < 2147483647 → l.foldl (fun d v => hStep d (v % 2147483647)) a = l.foldl (fun d v => hStep d (v % 2147483647)) b → a = b
  | [], _, _, _, _, h => h
  | v :: l, a, b, ha, hb, h => step_inj ha hb (fold_inj l (hStep_bd _ _) (hStep_bd _ _) h)
theorem keyed_ne {k : Int} {l : List Int} {i : Nat} {v : Int} (hi : i < l.length) (hv : v % 2147483647 ≠ (l[i]?.getD 0) % 2147483647) : mKeyed k (l.set i v) ≠ mKeyed k l := by
  intro h
  have e1 : l = l.take i ++ l[i]?.getD 0 :: l.drop (i + 1) := by rw [← drop_at (d := 0) hi, List.take_append_drop]
  have e2 : l.set i v = l.take i ++ v :: l.drop (i + 1) := by rw [List.set_eq_take_append_cons_drop, if_pos hi]
  have h2 : mKeyed k (l.take i ++ v :: l.drop (i + 1)) = mKeyed k (l.take i ++ l[i]?.getD 0 :: l.drop (i + 1)) := by rw [← e2, h]; exact congrArg (mKeyed k) e1
  generalize l.take i = pre at h2
  generalize l.drop (i + 1) = post at h2
  simp only [mKeyed, mHash, List.foldl_cons, List.foldl_append, List.foldl_nil] at h2
  have h3 := fold_inj post (hStep_bd _ _) (hStep_bd _ _) (step_inj (fold_bd (fun a b => hStep_bd a _) post _ (hStep_bd _ _)) (fold_bd (fun a b => hStep_bd a _) post _ (hStep_bd _ _)) h2)
  simp only [hStep] at h3
  omega
theorem limS_sz {i : Int} (h : 0 ≤ i ∧ i < 6) : (limS[i.toNat]?.getD ⟨#[]⟩).size ≤ 4 := by
  rcases (by omega : i = 0 ∨ i = 1 ∨ i = 2 ∨ i = 3 ∨ i = 4 ∨ i = 5) with rfl | rfl | rfl | rfl | rfl | rfl <;> decide
theorem exDK : ∃ (K : List Int → Int) (B : List Int → List Int) (S : List Int → ByteArray), (∀ l, c24.fn [.sl false 1 (.lit (.int .u8 0)) (ML dU l)] [] = some (l.length ≤ 2097152, .tup [dI (K l), .sl false 1 (.lit (.int .i64 0)) (ML dI (B l))], [])) ∧
    (∀ l, c28.fn [.sl false 1 (.lit (.int .u8 0)) (ML dU l)] [] = some (l.length ≤ 2097152, .tup [dI (K l), dS (S l)], [])) ∧ ∀ l, (∀ x ∈ B l, -1 ≤ x ∧ x ≤ 2147483648) ∧ (B l).length ≤ 5 ∧ (S l).size ≤ 4 :=
  ⟨dEk, dKl, dDs, fun l => c24_fn l, fun l => c28_fn l, fun l => ⟨wsV_bd _ _, by
    have := bV_bd (dEc l) 5 (by omega)
    rw [dKl, wsV_len]; omega, limS_sz (bV_bd _ 6 (by omega))⟩⟩
/-- loop.example/g03007/laws.FnKeyedHash -/
theorem law6 (l : List Int) (wl : wfLU l) : PCo Try.prog 6 [encLU l] (Tab.of []) (dB true) (Tab.of []) := by
  refine pco_of_run [10] (E := ⟨[c7, c17, c24, c25, c26, c27, c28, c29, c30], [], []⟩) (m := false) (base := 0) (Env.ok_cons c7_ok (Env.ok_cons c17_ok (Env.ok_cons c24_ok (Env.ok_cons c25_ok (Env.ok_cons c26_ok (Env.ok_cons c27_ok (Env.ok_cons c28_ok (Env.ok_cons c29_ok (Env.ok_cons c30_ok Env.ok_nil))))))))) G_ok mix 400 6 Try.func6 (by kernel_rfl) rfl (by kernel_rfl) (by kernel_rfl) rfl ?_
  have hl : l.length ≤ maxLen := wl.1
  have hb : ∀ x ∈ l, 0 ≤ x ∧ x ≤ 255 := fun x hx => by have := wl.2 x hx; simpa [inR] using this
  by_cases hbig : 1048576 < l.length
  · simp [Try.f6, hbig]
  · have hp : l.length ≤ 2097152 := by omega
    obtain ⟨K, B, S, h1, h2, h3⟩ := exDK
    have h1 := h1 l; have h2 := h2 l; obtain ⟨h3, h4, h5⟩ := h3 l
    generalize K l = k at *
    generalize B l = m at *
    generalize S l = s at *
    have kb := mKeyed_bd k m
    have kn : ¬ mKeyed k m < 0 := by omega
    have kn2 : ¬ (2147483647 ≤ mKeyed k m) := by omega
    have a0 := mAt_bd (l := l) (i := 0) (by omega) hb
    have a1 := mAt_bd (l := l) (i := 1) (by omega) hb
    have ke : mKeyed k m = mHash (k :: (m ++ [k])) := rfl
    simp (config := {maxSteps := 3000000}) [Try.f6, hbig, h1, h2, -c24_fn, -c28_fn, kn, kn2]
    have hd : mIn (mDerive k s) 1 2147483646 = true := mIn_iff.2 (by
      have := mKeyed_bd k (mInts (bytesI s))
      simp only [mDerive]; omega)
    refine ⟨hp, by omega, ⟨by omega, by omega, by omega⟩, fun _ => ⟨fun hm => ?_, fun _ => ⟨hp, by omega, hd⟩⟩, ke⟩
    have t1 := Int.tmod_nonneg (m.length : Int) a0.1
    have t2 := Int.tmod_lt_of_pos (mAt l 0) (show (0 : Int) < m.length by omega)
    generalize hi : ((mAt l 0).tmod (m.length : Int)) = i at *
    have hi2 : i.toNat < m.length := by omega
    have hx := h3 _ (getD_mem (d := 0) hi2)
    have hne := keyed_ne (k := k) hi2 (v := mMod (m[i.toNat]?.getD 0 + 1 + mAt l 1) 2147483647) (by
      have e : mMod (m[i.toNat]?.getD 0 + 1 + mAt l 1) 2147483647 = (m[i.toNat]?.getD 0 + 1 + mAt l 1) % 2147483647 := by
        simp only [mMod]; rw [if_pos (mIn_iff.2 (by omega))]
      rw [e]; omega)
    have hm0 : ¬ m = [] := by intro e; rw [e] at hm; simp at hm
    repeat' (first | exact hb | exact hm0 | exact hne | exact hd | omega | refine And.intro ?_ ?_ | intro _)
theorem law6_pc (D0 : D) (h0 : Sh G 9 22 D0) : PC Try.prog 6 [D0] (dB true) [] := by
  obtain ⟨l, rfl, wl⟩ := sh22 (n := 7) h0
  exact law6 l wl

end Go.Proofs.Ytnnlpbogdkdghaa
