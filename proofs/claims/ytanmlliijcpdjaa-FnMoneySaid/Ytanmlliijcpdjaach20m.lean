/- Contracts of the functions that the laws run. -/
import Derived.Test.Ytanmlliijcpdjaach20h
import Derived.Test.Ytanmlliijcpdjaach20
import Derived.Test.YtanmlliijcpdjaaEngB
namespace Go.Proofs.Ytanmlliijcpdjaa
open Go Go.Eng
set_option linter.unusedSimpArgs false
set_option linter.unusedVariables false
set_option maxRecDepth 10000
set_option maxHeartbeats 1000000
/-- loop.example/g03007/laws.big -/
noncomputable def c4 : Con := mkCon 4 false (α := (List Int)) (fun x => (fun (l : List Int) => [encLU l]) x) (fun _ => []) (fun x => (fun (l : List Int) => True) x) (fun x => (fun (l : List Int) => (dB (decide (1048576 < l.length)) : D)) x) (fun x => (fun (l : List Int) => []) x)
@[simp] theorem c4_f : c4.f = 4 := rfl
@[simp] theorem c4_own : c4.own = false := rfl
theorem c4_inj : ∀ u_ v_ : (List Int), ((fun x => (fun (l : List Int) => [encLU l]) x) u_).map nz = ((fun x => (fun (l : List Int) => [encLU l]) x) v_).map nz → u_ = v_ := by
  intro u_ v_ h
  obtain l := u_
  obtain l' := v_
  simp [nz_lit, nz1_lit, nz_agg, nz_sl, nz1_sl, encLU] at h
  first | (simp [h]; done) | (obtain ⟨⟩ := h; simp_all; done) | simp_all
@[simp] theorem c4_fn (l : List Int) : c4.fn [.sl false 1 (.lit (.int .u8 0)) (ML dU l)] [] = some ((fun (l : List Int) => True) l, (fun (l : List Int) => (dB (decide (1048576 < l.length)) : D)) l, (fun (l : List Int) => []) l) :=
  mkCon_fn (fun x y h _ => c4_inj x y h) (l : (List Int)) (by simp [nz, nz1, ML_nil, encLU]) rfl
@[simp] theorem c4_fn1 (s_l : Nat) (z_l : D) : c4.fn [.sl false s_l z_l []] [] = some ((fun (l : List Int) => True) [], (fun (l : List Int) => (dB (decide (1048576 < l.length)) : D)) [], (fun (l : List Int) => []) []) :=
  mkCon_fn (fun x y h _ => c4_inj x y h) ([] : (List Int)) (by simp [nz, nz1, ML_nil, encLU]) rfl
theorem c4_pc (l : List Int) : PCo Try.prog 4 [encLU l] (Tab.of []) (dB (decide (1048576 < l.length))) (Tab.of []) := by
  refine pco_of_run [] (E := ⟨[], [], []⟩) (m := false) (base := 0) Env.ok_nil G_ok mix 300 6 Try.func4 (by kernel_rfl) rfl (by kernel_rfl) (by kernel_rfl) rfl ?_
  simp [Try.f4]
  all_goals first | omega | (rw [Bool.eq_iff_iff]; simp; omega) | grind
theorem c4_ok : c4.ok Try.prog := mkCon_ok fun l hpre => c4_pc l
theorem sumI_gen_split {c : Int} {l : List Int} : ∀ n : Nat, sumI (gen (sAt c l) n) = sumI (gen (qAt c (sumI l) l) n) + min (n : Int) (max (leftP c l) 0)
  | 0 => by simp; omega
  | n + 1 => by
    have h := sumI_gen_split (c := c) (l := l) n
    rw [gen_succ, gen_succ, sumI_snoc, sumI_snoc, h, sAt]
    split <;> omega
theorem split_of {c : Int} {l : List Int} (h : kSplit c l = true) : sumI (mSplit c l) = c ∧ (mSplit c l).length = l.length ∧ ∀ p : Nat, p < l.length → (mSplit c l)[p]?.getD 0 = c * (l[p]?.getD 0) / sumI l + (if (p : Int) < leftP c l then 1 else 0) := by
  have h' := h
  simp only [kSplit, Bool.and_eq_true, decide_eq_true_eq] at h'
  have hb := left_bd (c := c) (l := l) h'.1.2
  have e : mSplit c l = gen (sAt c l) l.length := by simp [mSplit, h]
  refine ⟨?_, by simp [e], fun p hp => ?_⟩
  · rw [e, sumI_gen_split]
    simp only [leftP] at hb ⊢; omega
  · rw [e, gen_get hp]; rfl
theorem split_nil {c : Int} {l : List Int} (h : kSplit c l = false) : mSplit c l = [] := by simp [mSplit, h]
theorem sumI_take {l : List Int} {p : Nat} (hp : p ≤ l.length) (b : Int) (h : ∀ q, q < l.length → 0 ≤ l[q]?.getD 0 ∧ l[q]?.getD 0 ≤ b) : 0 ≤ sumI (l.take p) ∧ sumI (l.take p) ≤ b * p := by
  induction p with
  | zero => simp
  | succ p ih =>
    have h1 := ih (by omega)
    have h2 := h p (by omega)
    rw [sumI_at (by omega)]
    have e : b * ((p + 1 : Nat) : Int) = b * p + b := by push_cast; rw [Int.mul_add, Int.mul_one]
    rw [e]; omega
theorem q_le {c : Int} {l : List Int} (h : kSplit c l = true) {p : Nat} (hp : p < l.length) : 0 ≤ c * (l[p]?.getD 0) / sumI l ∧ c * (l[p]?.getD 0) / sumI l ≤ 10000000000 ∧ 0 ≤ c * (l[p]?.getD 0) ∧ c * (l[p]?.getD 0) ≤ 10000000000 ∧ (c * (l[p]?.getD 0)).tdiv (sumI l) = c * (l[p]?.getD 0) / sumI l := by
  have h' := h
  simp only [kSplit, Bool.and_eq_true, decide_eq_true_eq] at h'
  have hc := mIn_iff.1 h'.1.1.1
  have hx := okPs_get h'.1.1.2 hp
  have hcx : c * (l[p]?.getD 0) ≤ 10000000 * 1000 := Int.mul_le_mul hc.2 hx.2 hx.1 (by omega)
  have hq := q_bd (c := c) (w := sumI l) (l := l) (i := p) hc.1 (by omega) hx.1
  have h0 : 0 ≤ c * (l[p]?.getD 0) := Int.mul_nonneg hc.1 hx.1
  simp only [qAt] at hq
  exact ⟨hq.1, by omega, h0, by omega, Int.tdiv_eq_ediv_of_nonneg h0⟩
theorem okSum_s {c : Int} {l : List Int} (h : kSplit c l = true) (h6 : l.length ≤ 6) : ∀ p, p ≤ (mSplit c l).length → -1000000000000000 ≤ sumI ((mSplit c l).take p) ∧ sumI ((mSplit c l).take p) ≤ 1000000000000000 := by
  intro p hp
  obtain ⟨_, e2, e3⟩ := split_of h
  have := sumI_take (l := mSplit c l) hp 10000000001 (fun q hq => by
    rw [e3 q (by omega)]
    have := q_le h (p := q) (by omega)
    split <;> omega)
  omega
theorem okSum_p {c : Int} {l : List Int} (h : kSplit c l = true) (h6 : l.length ≤ 6) : ∀ p, p ≤ l.length → -1000000000000000 ≤ sumI (l.take p) ∧ sumI (l.take p) ≤ 1000000000000000 := by
  intro p hp
  simp only [kSplit, Bool.and_eq_true, decide_eq_true_eq] at h
  have := sumI_bd p (okPs_take h.1.1.2) hp
  omega
theorem sales_of (c w : Int) : mSales c w = [] ∧ mIn c 0 10000000 = false ∨ mSales c w = [⟨0, c⟩] ∧ mIn c 0 10000000 = true ∧ mIn w 1 999 = false ∨ ∃ a b, mSales c w = [⟨w, a⟩, ⟨0, b⟩] ∧ mIn c 0 10000000 = true ∧ mIn w 1 999 = true ∧ a + b = c ∧ 0 ≤ a ∧ 0 ≤ b := by
  simp only [mSales]
  cases h1 : mIn c 0 10000000 with
  | false => exact .inl ⟨rfl, rfl⟩
  | true =>
    cases h2 : mIn w 1 999 with
    | false => exact .inr (.inl ⟨rfl, rfl, rfl⟩)
    | true =>
      refine .inr (.inr ⟨_, _, rfl, rfl, rfl, ?_, ?_, ?_⟩)
      · have := (split_of (kSplit_19 h1)).1
        rw [mSplit_19 h1] at this
        simpa [sumI] using this
      · have := q_le (kSplit_19 h1) (p := 0) (by simp)
        simp only [sAt, qAt]; split <;> omega
      · have := q_le (kSplit_19 h1) (p := 1) (by simp)
        simp only [sAt, qAt]; split <;> omega
theorem total_sales (c w : Int) : mSales c w = [] ∨ mTotal (mSales c w) = c := by
  rcases sales_of c w with ⟨h, _⟩ | ⟨h, h1, _⟩ | ⟨a, b, h, h1, _, h3, h4, h5⟩
  · exact .inl h
  · have := mIn_iff.1 h1
    right; rw [h]; simp only [mTotal, List.foldl_cons, List.foldl_nil]; omega
  · have := mIn_iff.1 h1
    right; rw [h]; simp only [mTotal, List.foldl_cons, List.foldl_nil]; omega
theorem two_sales (c w : Int) : ((mSales c w).length = 2) ↔ (0 ≤ c ∧ c ≤ 10000000 ∧ 1 ≤ w ∧ w ≤ 999) := by
  rcases sales_of c w with ⟨h, h1⟩ | ⟨h, h1, h2⟩ | ⟨a, b, h, h1, h2, _⟩
  · have : ¬ (0 ≤ c ∧ c ≤ 10000000) := fun hh => by rw [mIn_iff.2 hh] at h1; cases h1
    rw [h]; simp; omega
  · have : ¬ (1 ≤ w ∧ w ≤ 999) := fun hh => by rw [mIn_iff.2 hh] at h2; cases h2
    rw [h]; simp; omega
  · have h3 := mIn_iff.1 h1; have h4 := mIn_iff.1 h2
    rw [h]; simp; omega
theorem fee_of (x : TThing) (d : Int) : 0 ≤ mFee x d ∧ (mFee x d = 0 ∨ mFee x d ≤ x.Worth) := by
  simp only [mFee]; split
  · rename_i h
    simp only [Bool.and_eq_true] at h
    have h1 := isThing_of h.1; have h2 := mIn_iff.1 h.2
    omega
  · exact ⟨by omega, .inl rfl⟩
theorem reward_of (x : TThing) : 0 ≤ mReward x ∧ (mReward x = 0 ∨ mReward x ≤ x.Worth) := by
  simp only [mReward]; split
  · rename_i h
    have h1 := isThing_of h
    omega
  · exact ⟨by omega, .inl rfl⟩
/-- loop.example/g03007/laws.FnMoney -/
theorem law3 (l : List Int) (wl : wfLU l) : PCo Try.prog 3 [encLU l] (Tab.of []) (dB true) (Tab.of []) := by
  refine pco_of_run [10] (E := ⟨[c4, c5, c6, c7, c8, c9, c10, c11, c12, c13, c14], [], []⟩) (m := false) (base := 0) (Env.ok_cons c4_ok (Env.ok_cons c5_ok (Env.ok_cons c6_ok (Env.ok_cons c7_ok (Env.ok_cons c8_ok (Env.ok_cons c9_ok (Env.ok_cons c10_ok (Env.ok_cons c11_ok (Env.ok_cons c12_ok (Env.ok_cons c13_ok (Env.ok_cons c14_ok Env.ok_nil))))))))))) G_ok mix 400 6 Try.func3 (by kernel_rfl) rfl (by kernel_rfl) (by kernel_rfl) rfl ?_
  have hl : l.length ≤ maxLen := wl.1
  by_cases hbig : 1048576 < l.length
  · simp [Try.f3, hbig]
  · have hp : l.length ≤ 2097152 := by omega
    obtain ⟨N, SN, SW, FD, P, FX, RX, h1, h2, h3, h4, h5⟩ := exDM
    have h1 := h1 l; have h2 := h2 l; have h3 := h3 l; have h4 := h4 l; have h5 := h5 l
    generalize N l = n at *
    generalize P l = P at *
    generalize SN l = sn at *
    generalize SW l = sw at *
    generalize FX l = x at *
    generalize FD l = d at *
    generalize RX l = y at *
    have hf := fee_of x d
    have hr := reward_of y
    have ht := total_sales sn sw
    have h2s := two_sales sn sw
    have hsl := mSales_len sn sw
    have hc : 0 < (mSales sn sw).length → mTotal (mSales sn sw) = sn := fun h => by
      rcases ht with e | e
      · rw [e] at h; simp at h
      · exact e
    have hd : (((mSales sn sw).length : Int) == 2) = (decide (0 ≤ sn) && decide (sn ≤ 10000000) && decide (1 ≤ sw) && decide (sw ≤ 999)) := by
      rw [Bool.eq_iff_iff]
      simp only [beq_iff_eq, Bool.and_eq_true, decide_eq_true_eq]
      omega
    cases hk : kSplit n P with
    | false =>
      have hm := split_nil hk
      simp [Try.f3, hbig, h1, h2, h3, h4, -c5_fn, -c8_fn, -c11_fn, -c13_fn, hm]
      refine ⟨hp, by omega, ?_⟩
      refine loop_unroll 400 ?_
      simp [Try.f3, hbig, h1, h2, h3, h4, -c5_fn, -c8_fn, -c11_fn, -c13_fn, hm]
      exact ⟨hp, fun _ => by omega, ⟨hc, hd⟩, fun _ _ => ⟨hp, ⟨hf, hr.1⟩, hr.2⟩⟩
    | true =>
      obtain ⟨s1, s2, s3⟩ := split_of hk
      have o1 := okSum_s hk h5
      rw [s2] at o1
      have o2 := okSum_p hk h5
      simp [Try.f3, hbig, h1, h2, h3, h4, -c5_fn, -c8_fn, -c11_fn, -c13_fn, s1, s2]
      refine ⟨hp, by omega, fun _ => ⟨by omega, o1⟩, ?_⟩
      refine loop_inv (fun p : Nat => p ≤ P.length) (fun p => [(0, encLU l), (2, dB false), (3, dI n), (4, encLI P), (5, .own (0, 1) 1 0 P.length), (6, dI p)]) (fun _ => [((0, 1), .arr false 1 (dI 0) (ML dI (mSplit n P)))]) 2 (fun p => P.length - p) 0 400 (by simp) (by simp) (by simp) ?_
      intro p hpP
      by_cases hlt : p < P.length
      · have e3 := s3 p hlt
        obtain ⟨q1, q2, q3, q4, q5⟩ := q_le hk hlt
        simp [hbig, h1, h2, h3, h4, -c5_fn, -c8_fn, -c11_fn, -c13_fn, s2, e3, q5]
        have kw : 0 < sumI P := by
          simp only [kSplit, Bool.and_eq_true, decide_eq_true_eq] at hk
          exact hk.1.2
        have hb : 0 ≤ (if (p : Int) < leftP n P then (1 : Int) else 0) ∧ (if (p : Int) < leftP n P then (1 : Int) else 0) ≤ 1 := by split <;> omega
        clear e3 q5
        generalize (if (p : Int) < leftP n P then (1 : Int) else 0) = b at *
        generalize n * (P[p]?.getD 0) / sumI P = a at *
        generalize n * (P[p]?.getD 0) = m at *
        refine ⟨fun _ => ?_, fun h => absurd hlt (by omega)⟩
        repeat' (first | exact o2 | omega | refine And.intro ?_ ?_ | intro _)
        all_goals first | exact Again.mk (p + 1) (by omega) (by simp) (by first | omega | (simp; omega)) | trace_state
      · simp [hbig, h1, h2, h3, h4, -c5_fn, -c8_fn, -c11_fn, -c13_fn, s2, hlt]
        exact ⟨hp, fun _ => by omega, ⟨hc, hd⟩, fun _ _ => ⟨hp, ⟨hf, hr.1⟩, hr.2⟩⟩
theorem law3_pc (D0 : D) (h0 : Sh G 9 22 D0) : PC Try.prog 3 [D0] (dB true) [] := by
  obtain ⟨l, rfl, wl⟩ := sh22 (n := 7) h0
  exact law3 l wl

end Go.Proofs.Ytanmlliijcpdjaa
