/- Contracts of the functions that the laws run. -/
import Derived.Test.Ytanmlliijcpdjaach20g
import Derived.Test.YtanmlliijcpdjaaEngB
namespace Go.Proofs.Ytanmlliijcpdjaa
open Go Go.Eng
set_option linter.unusedSimpArgs false
set_option linter.unusedVariables false
set_option maxRecDepth 10000
set_option maxHeartbeats 1000000
/-- loop.example/g03007/spec.l1Int -/
noncomputable def c16_b : Con := mkCon 16 true (α := TL1Cur × (List Int)) (fun x => (fun (c : TL1Cur) (l : List Int) => ([.ptr (0, 0) 0, .own (1, 0) 1 0 l.length] : List D)) x.1 x.2) (fun x => (fun (c : TL1Cur) (l : List Int) => ([((0, 0), .box (encTL1Cur c)), ((1, 0), .arr false 1 (dI 0) (ML dI l))] : List (Nm × OO))) x.1 x.2) (fun x => (fun (c : TL1Cur) (l : List Int) => okCu c ∧ 0 < l.length ∧ l.length ≤ 1099511627776) x.1 x.2) (fun x => (fun (c : TL1Cur) (l : List Int) => (dI (l[(bV c l.length).toNat]?.getD 0) : D)) x.1 x.2) (fun x => (fun (c : TL1Cur) (l : List Int) => ([((0, 0), .box (encTL1Cur (bN c l.length))), ((1, 0), .arr false 1 (dI 0) (ML dI l))] : List (Nm × OO))) x.1 x.2)
@[simp] theorem c16_b_f : c16_b.f = 16 := rfl
@[simp] theorem c16_b_own : c16_b.own = true := rfl
theorem c16_b_inj : ∀ u_ v_ : TL1Cur × (List Int), ((fun x => (fun (c : TL1Cur) (l : List Int) => ([.ptr (0, 0) 0, .own (1, 0) 1 0 l.length] : List D)) x.1 x.2) u_).map nz = ((fun x => (fun (c : TL1Cur) (l : List Int) => ([.ptr (0, 0) 0, .own (1, 0) 1 0 l.length] : List D)) x.1 x.2) v_).map nz → (fun x => (fun (c : TL1Cur) (l : List Int) => ([((0, 0), .box (encTL1Cur c)), ((1, 0), .arr false 1 (dI 0) (ML dI l))] : List (Nm × OO))) x.1 x.2) u_ = (fun x => (fun (c : TL1Cur) (l : List Int) => ([((0, 0), .box (encTL1Cur c)), ((1, 0), .arr false 1 (dI 0) (ML dI l))] : List (Nm × OO))) x.1 x.2) v_ → u_ = v_ := by
  intro u_ v_ h h2_
  obtain ⟨⟨c_b_, c_i_, c_h_⟩, l⟩ := u_
  obtain ⟨⟨c_b_', c_i_', c_h_'⟩, l'⟩ := v_
  simp [nz_lit, nz1_lit, nz_agg, nz_sl, nz1_sl, nz_sx, nz_el, nz1_el, nz_own, nz1_own, nz_ptr, nz_fn, nz_iface] at h h2_
  first | (simp [h, h2_]; done) | (obtain ⟨h3_, h4_⟩ := List.append_inj h2_ h.1; simp_all; done) | simp_all | grind
@[simp] theorem c16_b_fn (c_b_ : List Int) (c_i_ : Int) (c_h_ : Int) (l : List Int) : c16_b.fn ([.ptr (0, 0) 0, .own (1, 0) 1 0 l.length]) ([((0, 0), .box (.agg [.sl false 1 (.lit (.int .u8 0)) (ML dU c_b_), .lit (.int .i64 c_i_), .lit (.int .i64 c_h_)])), ((1, 0), .arr false 1 (dI 0) (ML dI l))]) = some (okCu (⟨c_b_, c_i_, c_h_⟩ : TL1Cur) ∧ 0 < l.length ∧ l.length ≤ 1099511627776, dI (l[(bV (⟨c_b_, c_i_, c_h_⟩ : TL1Cur) l.length).toNat]?.getD 0), [((0, 0), .box (encTL1Cur (bN (⟨c_b_, c_i_, c_h_⟩ : TL1Cur) l.length))), ((1, 0), .arr false 1 (dI 0) (ML dI l))]) :=
  mkCon_fn c16_b_inj ((⟨c_b_, c_i_, c_h_⟩, l) : TL1Cur × (List Int)) rfl rfl
theorem c16_b_pc (c : TL1Cur) (l : List Int) (hpre : okCu c ∧ 0 < l.length ∧ l.length ≤ 1099511627776) : PCo Try.prog 16 ([.ptr (0, 0) 0, .own (1, 0) 1 0 l.length]) (Tab.of ([((0, 0), .box (encTL1Cur c)), ((1, 0), .arr false 1 (dI 0) (ML dI l))])) (dI (l[(bV c l.length).toNat]?.getD 0)) (Tab.of ([((0, 0), .box (encTL1Cur (bN c l.length))), ((1, 0), .arr false 1 (dI 0) (ML dI l))])) := by
  refine pco_of_run [] (E := ⟨[c17], [], []⟩) (m := false) (base := 0) (Env.ok_cons c17_ok Env.ok_nil) G_ok mix 300 6 Try.func16 (by kernel_rfl) rfl (by kernel_rfl) (by kernel_rfl) rfl ?_
  obtain ⟨p1, p2, p3⟩ := hpre
  have hb := bV_bd c l.length (by omega)
  obtain ⟨fv, fs, hf, hv, hs⟩ := exBel
  rw [← hv, ← hs]
  rw [← hv] at hb
  simp [Try.f16, hf, -c17_fn]
  exact ⟨p1, hb, by omega⟩
theorem c16_b_ok : c16_b.ok Try.prog := mkCon_ok fun ⟨c, l⟩ hpre => c16_b_pc c l hpre
theorem exBelB : ∃ (fi : TL1Cur → List Int → Int) (fs : TL1Cur → Int → TL1Cur), (∀ (c : TL1Cur) (l : List Int), c16_b.fn [.ptr (0, 0) 0, .own (1, 0) 1 0 l.length] [((0, 0), .box (.agg [.sl false 1 (.lit (.int .u8 0)) (ML dU c.b_), .lit (.int .i64 c.i_), .lit (.int .i64 c.h_)])), ((1, 0), .arr false 1 (dI 0) (ML dI l))] = some (okCu c ∧ 0 < l.length ∧ l.length ≤ 1099511627776, dI (fi c l), [((0, 0), .box (encTL1Cur (fs c l.length))), ((1, 0), .arr false 1 (dI 0) (ML dI l))])) ∧ (∀ c l, fi c l = l[(bV c l.length).toNat]?.getD 0) ∧ ∀ c n, fs c n = bN c n :=
  ⟨fun c l => l[(bV c l.length).toNat]?.getD 0, bN, fun c l => c16_b_fn c.b_ c.i_ c.h_ l, fun _ _ => rfl, fun _ _ => rfl⟩
def pl8 : List Int := [0, 1, 7, 100, 9999, 10000000, 10000001, -1]
def pl6 : List Int := [0, 1, 2, 3, 7, 1000]
def pl2 : List Int := [-1, 1001]
noncomputable def SP (c : TL1Cur) : Nat → List Int × TL1Cur
  | 0 => ([], c)
  | p + 1 => ((SP c p).1 ++ [pl6[(bV (SP c p).2 6).toNat]?.getD 0], bN (SP c p).2 6)
theorem SP_len (c : TL1Cur) : ∀ p, (SP c p).1.length = p
  | 0 => rfl
  | p + 1 => by simp [SP, SP_len c p]
theorem okCu_SP {c : TL1Cur} (h : okCu c) : ∀ p, okCu (SP c p).2
  | 0 => h
  | p + 1 => okCu_bN (okCu_SP h p) 6
noncomputable def dPn (l : List Int) : Int := pl8[(bV (newC l) 8).toNat]?.getD 0
noncomputable def dPs (l : List Int) : List Int × TL1Cur := SP (bN (bN (newC l) 8) 6) (bV (bN (newC l) 8) 6).toNat
noncomputable def dPl (l : List Int) : List Int := if (bV (bN (newC l) 8) 6).toNat = 0 then [] else if bV (dPs l).2 8 = 0 then (dPs l).1.set 0 (pl2[(bV (bN (dPs l).2 8) 2).toNat]?.getD 0) else (dPs l).1
theorem dPl_len (l : List Int) : (dPl l).length ≤ 6 := by
  have b1 := bV_bd (bN (newC l) 8) 6 (by omega)
  have h := SP_len (bN (bN (newC l) 8) 6) (bV (bN (newC l) 8) 6).toNat
  have h2 : (dPs l).1.length = (bV (bN (newC l) 8) 6).toNat := h
  simp only [dPl]
  split
  · simp
  · split
    · simp; omega
    · omega
/-- loop.example/g03007/spec.DrawSplitMoney -/
noncomputable def c5 : Con := mkCon 5 false (α := (List Int)) (fun x => (fun (l : List Int) => [encLU l]) x) (fun _ => []) (fun x => (fun (l : List Int) => l.length ≤ 2097152) x) (fun x => (fun (l : List Int) => (.tup [dI (dPn l), .sl false 1 (dI 0) (ML dI (dPl l))] : D)) x) (fun x => (fun (l : List Int) => []) x)
@[simp] theorem c5_f : c5.f = 5 := rfl
@[simp] theorem c5_own : c5.own = false := rfl
theorem c5_inj : ∀ u_ v_ : (List Int), ((fun x => (fun (l : List Int) => [encLU l]) x) u_).map nz = ((fun x => (fun (l : List Int) => [encLU l]) x) v_).map nz → u_ = v_ := by
  intro u_ v_ h
  obtain l := u_
  obtain l' := v_
  simp [nz_lit, nz1_lit, nz_agg, nz_sl, nz1_sl, encLU] at h
  first | (simp [h]; done) | (obtain ⟨⟩ := h; simp_all; done) | simp_all
@[simp] theorem c5_fn (l : List Int) : c5.fn [.sl false 1 (.lit (.int .u8 0)) (ML dU l)] [] = some ((fun (l : List Int) => l.length ≤ 2097152) l, (fun (l : List Int) => (.tup [dI (dPn l), .sl false 1 (dI 0) (ML dI (dPl l))] : D)) l, (fun (l : List Int) => []) l) :=
  mkCon_fn (fun x y h _ => c5_inj x y h) (l : (List Int)) (by simp [nz, nz1, ML_nil, encLU]) rfl
@[simp] theorem c5_fn1 (s_l : Nat) (z_l : D) : c5.fn [.sl false s_l z_l []] [] = some ((fun (l : List Int) => l.length ≤ 2097152) [], (fun (l : List Int) => (.tup [dI (dPn l), .sl false 1 (dI 0) (ML dI (dPl l))] : D)) [], (fun (l : List Int) => []) []) :=
  mkCon_fn (fun x y h _ => c5_inj x y h) ([] : (List Int)) (by simp [nz, nz1, ML_nil, encLU]) rfl
theorem c5_pc (l : List Int) (hpre : l.length ≤ 2097152) : PCo Try.prog 5 [encLU l] (Tab.of []) (.tup [dI (dPn l), .sl false 1 (dI 0) (ML dI (dPl l))]) (Tab.of []) := by
  have k1 := okCu_new hpre
  have k2 := okCu_bN k1 8
  have k3 := okCu_bN k2 6
  have b1 := bV_bd (bN (newC l) 8) 6 (by omega)
  have hok := okCu_SP k3
  have hL := SP_len (bN (bN (newC l) 8) 6)
  have en : dPn l = pl8[(bV (newC l) pl8.length).toNat]?.getD 0 := rfl
  have el : dPl l = if (bV (bN (newC l) 8) 6).toNat = 0 then [] else if bV (SP (bN (bN (newC l) 8) 6) (bV (bN (newC l) 8) 6).toNat).2 8 = 0 then (SP (bN (bN (newC l) 8) 6) (bV (bN (newC l) 8) 6).toNat).1.set 0 (pl2[(bV (bN (SP (bN (bN (newC l) 8) 6) (bV (bN (newC l) 8) 6).toNat).2 8) pl2.length).toNat]?.getD 0) else (SP (bN (bN (newC l) 8) 6) (bV (bN (newC l) 8) 6).toNat).1 := rfl
  rw [en, el]
  obtain ⟨fn, hn, hn2⟩ := exNewM
  obtain ⟨fv, fs, hb, hbv, hbs⟩ := exBel
  obtain ⟨fi, fm, hfi, hvi, hsi⟩ := exBelB
  have hfo : ∀ (c : TL1Cur) (n : Int), c18.fn [.ptr (0, 0) 0, .lit (.int .i64 n)] [((0, 0), .box (.agg [.sl false 1 (.lit (.int .u8 0)) (ML dU c.b_), .lit (.int .i64 c.i_), .lit (.int .i64 c.h_)]))] = some (okCu c, .lit (.bool (decide (fv c n = 0))), [((0, 0), .box (encTL1Cur (fs c n)))]) := fun c n => by rw [hbv, hbs]; exact c18_fn c.b_ c.i_ c.h_ n
  have hD : ∀ p, (SP (bN (bN (newC l) 8) 6) (p + 1)).1 = (SP (bN (bN (newC l) 8) 6) p).1 ++ [fi (SP (bN (bN (newC l) 8) 6) p).2 [0, 1, 2, 3, 7, 1000]] := fun p => by rw [hvi]; rfl
  have hE : ∀ p, (SP (bN (bN (newC l) 8) 6) (p + 1)).2 = fm (SP (bN (bN (newC l) 8) 6) p).2 6 := fun p => by rw [hsi]; rfl
  have h0a : (SP (bN (bN (newC l) 8) 6) 0).1 = [] := rfl
  have h0b : (SP (bN (bN (newC l) 8) 6) 0).2 = bN (bN (newC l) 8) 6 := rfl
  rw [← hvi, ← hvi]
  generalize SP (bN (bN (newC l) 8) 6) = DD at *
  have kf : ∀ c n, okCu c → okCu (fs c n) := fun c n h => by rw [hbs]; exact okCu_bN h n
  simp only [← hn2] at k1 k2 k3 b1 h0b ⊢
  rw [← hbv] at b1
  simp only [← hbv] at b1 ⊢
  have hm8 : bN (fn l) 8 = fm (fn l) 8 := (hsi _ _).symm
  rw [hm8] at k2 k3 b1 h0b ⊢
  simp only [← hbs] at k3 h0b ⊢
  generalize hk : (fv (fm (fn l) 8) 6).toNat = k
  have hk2 : fv (fm (fn l) 8) 6 = (k : Int) := by omega
  have e8 : ∀ a0 a1 a2 a3 a4 a5 a6 a7 : Int, ML dI [a0, a1, a2, a3, a4, a5, a6, a7] = [dI a0, dI a1, dI a2, dI a3, dI a4, dI a5, dI a6, dI a7] := fun _ _ _ _ _ _ _ _ => rfl
  have e8l : ∀ a0 a1 a2 a3 a4 a5 a6 a7 : Int, (([a0, a1, a2, a3, a4, a5, a6, a7] : List Int).length : Int) = 8 := fun _ _ _ _ _ _ _ _ => rfl
  have e6 : ∀ a0 a1 a2 a3 a4 a5 : Int, ML dI [a0, a1, a2, a3, a4, a5] = [dI a0, dI a1, dI a2, dI a3, dI a4, dI a5] := fun _ _ _ _ _ _ => rfl
  have e6l : ∀ a0 a1 a2 a3 a4 a5 : Int, (([a0, a1, a2, a3, a4, a5] : List Int).length : Int) = 6 := fun _ _ _ _ _ _ => rfl
  have e2 : ∀ a0 a1 : Int, ML dI [a0, a1] = [dI a0, dI a1] := fun _ _ => rfl
  have e2l : ∀ a0 a1 : Int, (([a0, a1] : List Int).length : Int) = 2 := fun _ _ => rfl
  have e8n : ∀ a0 a1 a2 a3 a4 a5 a6 a7 : Int, ([a0, a1, a2, a3, a4, a5, a6, a7] : List Int).length = 8 := fun _ _ _ _ _ _ _ _ => rfl
  have e6n : ∀ a0 a1 a2 a3 a4 a5 : Int, ([a0, a1, a2, a3, a4, a5] : List Int).length = 6 := fun _ _ _ _ _ _ => rfl
  have e2n : ∀ a0 a1 : Int, ([a0, a1] : List Int).length = 2 := fun _ _ => rfl
  have h8 := fun c' a0 a1 a2 a3 a4 a5 a6 a7 => hfi c' [a0, a1, a2, a3, a4, a5, a6, a7]
  have h6 := fun c' a0 a1 a2 a3 a4 a5 => hfi c' [a0, a1, a2, a3, a4, a5]
  have h2 := fun c' a0 a1 => hfi c' [a0, a1]
  simp only [e8, e8l, e8n] at h8
  simp only [e6, e6l, e6n] at h6
  simp only [e2, e2l, e2n] at h2
  have hl8 : pl8 = [0, 1, 7, 100, 9999, 10000000, 10000001, -1] := rfl
  have hl2 : pl2 = [-1, 1001] := rfl
  rw [hl8, hl2]
  clear hn2 hvi hsi hbv hbs hm8
  have hLk := hL k
  have hkk := hok k
  have hk8 := kf _ 8 hkk
  by_cases n0 : k = 0
  · rw [if_pos n0]
    refine pco_of_run [] (E := ⟨[c15, c16_b, c17, c18], [], []⟩) (m := false) (base := 0) (Env.ok_cons c15_ok (Env.ok_cons c16_b_ok (Env.ok_cons c17_ok (Env.ok_cons c18_ok Env.ok_nil)))) G_ok mix 300 6 Try.func5 (by kernel_rfl) rfl (by kernel_rfl) (by kernel_rfl) rfl ?_
    simp [Try.f5, hn, hb, h8, h6, h2, hfo, hk2, -c15_fn, -c16_b_fn, -c17_fn, -c18_fn, hpre, k1, k2, k3]
    try refine ⟨hpre, ?_⟩
    refine loop_inv (fun p : Nat => p ≤ k) (fun p => [(4, .ptr (0, 1) 0), (5, dI (fi (fn l) [0, 1, 7, 100, 9999, 10000000, 10000001, -1])), (6, .own (1, 1) 1 0 p), (7, dI ((k : Int) - p))]) (fun p => [((0, 1), .box (encTL1Cur (DD p).2)), ((1, 1), .arr false 1 (dI 0) (ML dI (DD p).1))]) 2 (fun p => k - p) 0 400 (by simp) (by simp) (by simp [h0a, h0b]) ?_
    intro p hp
    have hLp := hL p
    have hkp := hok p
    by_cases hpk : p < k
    · simp [hn, hb, h8, h6, h2, hfo, hpk, hkp, -c15_fn, -c16_b_fn, -c17_fn, -c18_fn]
      refine ⟨⟨by omega, by omega⟩, ⟨by omega, by omega⟩, ?_⟩
      exact Again.mk (p + 1) (by omega) (by simp [hD, hE, hLp] <;> omega) (by first | omega | (simp; omega))
    · have e : p = k := by omega
      subst e
      simp [n0, h0a]
      first | done | omega | trace_state
  · rw [if_neg n0]
    by_cases q : fv (DD k).2 8 = 0
    · rw [if_pos q]
      refine pco_of_run [] (E := ⟨[c15, c16_b, c17, c18], [], []⟩) (m := false) (base := 0) (Env.ok_cons c15_ok (Env.ok_cons c16_b_ok (Env.ok_cons c17_ok (Env.ok_cons c18_ok Env.ok_nil)))) G_ok mix 300 6 Try.func5 (by kernel_rfl) rfl (by kernel_rfl) (by kernel_rfl) rfl ?_
      simp [Try.f5, hn, hb, h8, h6, h2, hfo, hk2, -c15_fn, -c16_b_fn, -c17_fn, -c18_fn, hpre, k1, k2, k3]
      try refine ⟨hpre, ?_⟩
      refine loop_inv (fun p : Nat => p ≤ k) (fun p => [(4, .ptr (0, 1) 0), (5, dI (fi (fn l) [0, 1, 7, 100, 9999, 10000000, 10000001, -1])), (6, .own (1, 1) 1 0 p), (7, dI ((k : Int) - p))]) (fun p => [((0, 1), .box (encTL1Cur (DD p).2)), ((1, 1), .arr false 1 (dI 0) (ML dI (DD p).1))]) 2 (fun p => k - p) 0 400 (by simp) (by simp) (by simp [h0a, h0b]) ?_
      intro p hp
      have hLp := hL p
      have hkp := hok p
      by_cases hpk : p < k
      · simp [hn, hb, h8, h6, h2, hfo, hpk, hkp, -c15_fn, -c16_b_fn, -c17_fn, -c18_fn]
        refine ⟨⟨by omega, by omega⟩, ⟨by omega, by omega⟩, ?_⟩
        exact Again.mk (p + 1) (by omega) (by simp [hD, hE, hLp] <;> omega) (by first | omega | (simp; omega))
      · have e : p = k := by omega
        subst e
        simp [n0, hn, hb, h8, h6, h2, hfo, hkp, hk8, hLp, q, -c15_fn, -c16_b_fn, -c17_fn, -c18_fn]
        first | done | omega | (simp; omega) | trace_state
    · rw [if_neg q]
      refine pco_of_run [] (E := ⟨[c15, c16_b, c17, c18], [], []⟩) (m := false) (base := 0) (Env.ok_cons c15_ok (Env.ok_cons c16_b_ok (Env.ok_cons c17_ok (Env.ok_cons c18_ok Env.ok_nil)))) G_ok mix 300 6 Try.func5 (by kernel_rfl) rfl (by kernel_rfl) (by kernel_rfl) rfl ?_
      simp [Try.f5, hn, hb, h8, h6, h2, hfo, hk2, -c15_fn, -c16_b_fn, -c17_fn, -c18_fn, hpre, k1, k2, k3]
      try refine ⟨hpre, ?_⟩
      refine loop_inv (fun p : Nat => p ≤ k) (fun p => [(4, .ptr (0, 1) 0), (5, dI (fi (fn l) [0, 1, 7, 100, 9999, 10000000, 10000001, -1])), (6, .own (1, 1) 1 0 p), (7, dI ((k : Int) - p))]) (fun p => [((0, 1), .box (encTL1Cur (DD p).2)), ((1, 1), .arr false 1 (dI 0) (ML dI (DD p).1))]) 2 (fun p => k - p) 0 400 (by simp) (by simp) (by simp [h0a, h0b]) ?_
      intro p hp
      have hLp := hL p
      have hkp := hok p
      by_cases hpk : p < k
      · simp [hn, hb, h8, h6, h2, hfo, hpk, hkp, -c15_fn, -c16_b_fn, -c17_fn, -c18_fn]
        refine ⟨⟨by omega, by omega⟩, ⟨by omega, by omega⟩, ?_⟩
        exact Again.mk (p + 1) (by omega) (by simp [hD, hE, hLp] <;> omega) (by first | omega | (simp; omega))
      · have e : p = k := by omega
        subst e
        simp [n0, hn, hb, h8, h6, h2, hfo, hkp, hk8, hLp, q, -c15_fn, -c16_b_fn, -c17_fn, -c18_fn]
        first | done | omega | (simp; omega) | trace_state
theorem c5_ok : c5.ok Try.prog := mkCon_ok fun l hpre => c5_pc l hpre
theorem exDM : ∃ (N SN SW FD : List Int → Int) (P : List Int → List Int) (FX RX : List Int → TThing), (∀ l, c5.fn [.sl false 1 (.lit (.int .u8 0)) (ML dU l)] [] = some (l.length ≤ 2097152, .tup [dI (N l), .sl false 1 (dI 0) (ML dI (P l))], [])) ∧
    (∀ l, c8.fn [.sl false 1 (.lit (.int .u8 0)) (ML dU l)] [] = some (l.length ≤ 2097152, .tup [dI (SN l), dI (SW l)], [])) ∧
    (∀ l, c11.fn [.sl false 1 (.lit (.int .u8 0)) (ML dU l)] [] = some (l.length ≤ 2097152, .tup [encTThing (FX l), dI (FD l)], [])) ∧
    (∀ l, c13.fn [.sl false 1 (.lit (.int .u8 0)) (ML dU l)] [] = some (l.length ≤ 2097152, encTThing (RX l), [])) ∧ ∀ l, (P l).length ≤ 6 :=
  ⟨dPn, dSaN, dSaW, dFd, dPl, dFx, dRx, fun l => c5_fn l, fun l => c8_fn l, fun l => c11_fn l, fun l => c13_fn l, dPl_len⟩

end Go.Proofs.Ytanmlliijcpdjaa
