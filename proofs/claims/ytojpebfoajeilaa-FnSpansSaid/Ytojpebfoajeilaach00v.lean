/- Contracts of the functions that the laws run. -/
import Derived.Test.Ytojpebfoajeilaach00u
import Derived.Test.YtojpebfoajeilaaEngB
namespace Go.Proofs.Ytojpebfoajeilaa
open Go Go.Eng
set_option linter.unusedSimpArgs false
set_option linter.unusedVariables false
set_option maxRecDepth 10000
set_option maxHeartbeats 1000000
/-- loop.example/g03007/laws.big -/
noncomputable def c5 : Con := mkCon 5 false (α := (List Int)) (fun x => (fun (l : List Int) => [encLU l]) x) (fun _ => []) (fun x => (fun (l : List Int) => True) x) (fun x => (fun (l : List Int) => (dB (decide (1048576 < l.length)) : D)) x) (fun x => (fun (l : List Int) => []) x)
@[simp] theorem c5_f : c5.f = 5 := rfl
@[simp] theorem c5_own : c5.own = false := rfl
theorem c5_inj : ∀ u_ v_ : (List Int), ((fun x => (fun (l : List Int) => [encLU l]) x) u_).map nz = ((fun x => (fun (l : List Int) => [encLU l]) x) v_).map nz → u_ = v_ := by
  intro u_ v_ h
  obtain l := u_
  obtain l' := v_
  simp [nz_lit, nz1_lit, nz_agg, nz_sl, nz1_sl, encLU] at h
  first | (simp [h]; done) | (obtain ⟨⟩ := h; simp_all; done) | simp_all
@[simp] theorem c5_fn (l : List Int) : c5.fn [.sl false 1 (.lit (.int .u8 0)) (ML dU l)] [] = some ((fun (l : List Int) => True) l, (fun (l : List Int) => (dB (decide (1048576 < l.length)) : D)) l, (fun (l : List Int) => []) l) :=
  mkCon_fn (fun x y h _ => c5_inj x y h) (l : (List Int)) (by simp [nz, nz1, ML_nil, encLU]) rfl
@[simp] theorem c5_fn1 (s_l : Nat) (z_l : D) : c5.fn [.sl false s_l z_l []] [] = some ((fun (l : List Int) => True) [], (fun (l : List Int) => (dB (decide (1048576 < l.length)) : D)) [], (fun (l : List Int) => []) []) :=
  mkCon_fn (fun x y h _ => c5_inj x y h) ([] : (List Int)) (by simp [nz, nz1, ML_nil, encLU]) rfl
theorem c5_pc (l : List Int) : PCo Try.prog 5 [encLU l] (Tab.of []) (dB (decide (1048576 < l.length))) (Tab.of []) := by
  refine pco_of_run [] (E := ⟨[], [], []⟩) (m := false) (base := 0) Env.ok_nil G_ok mix 300 6 Try.func5 (by kernel_rfl) rfl (by kernel_rfl) (by kernel_rfl) rfl ?_
  simp [Try.f5]
  all_goals first | omega | (rw [Bool.eq_iff_iff]; simp; omega) | grind
theorem c5_ok : c5.ok Try.prog := mkCon_ok fun l hpre => c5_pc l
theorem hours_bd (s : TSpan) : 0 ≤ mHours s ∧ mHours s ≤ 100001 := by
  rw [mHours]; split
  · rename_i h; have := isSpan_of h; omega
  · omega
theorem meet_comm (a b : TSpan) : mMeet b a = mMeet a b := by simp only [mMeet, Int.max_comm, Int.min_comm]
theorem kMeet_comm (a b : TSpan) : kMeet b a = kMeet a b := by simp only [kMeet, meet_comm]; cases mIsSpan a <;> cases mIsSpan b <;> rfl
theorem kMeet_of {a b : TSpan} (h : kMeet a b = true) : mIsSpan a = true ∧ mIsSpan b = true ∧ mIsSpan (mMeet a b) = true := by
  simp only [kMeet, Bool.and_eq_true] at h; exact ⟨h.1.1, h.1.2, h.2⟩
theorem hours_of {s : TSpan} (h : mIsSpan s = true) : mHours s = s.Until - s.From + 1 := by rw [mHours, if_pos h]
theorem meet_le {a b : TSpan} (h : kMeet a b = true) : mHours (mMeet a b) ≤ mHours a ∧ mHours (mMeet a b) ≤ mHours b := by
  obtain ⟨h1, h2, h3⟩ := kMeet_of h
  rw [hours_of h1, hours_of h2, hours_of h3]; simp only [mMeet]; omega
theorem meet_hull {a b : TSpan} (h : kMeet a b = true) : kHull a b = true := by
  obtain ⟨h1, h2, _⟩ := kMeet_of h; simp [kHull, h1, h2]
theorem hull_of {a b : TSpan} (h : kHull a b = true) : mIsSpan a = true ∧ mIsSpan b = true := by
  simpa only [kHull, Bool.and_eq_true] using h
theorem hull_holds {a b : TSpan} (h : kHull a b = true) : mHolds (mHull a b) a.From = true ∧ mHolds (mHull a b) a.Until = true ∧ mHolds (mHull a b) b.From = true ∧ mHolds (mHull a b) b.Until = true := by
  obtain ⟨h1, h2⟩ := hull_of h
  have k1 := isSpan_of h1
  have k2 := isSpan_of h2
  have k3 := hull_ok h
  simp only [mHolds, k3, Bool.true_and, mIn_iff]
  simp only [mHull]; omega
theorem hull_hours {a b : TSpan} (h : kMeet a b = true) : mHours (mHull a b) ≤ mHours a + mHours b := by
  obtain ⟨h1, h2, h3⟩ := kMeet_of h
  have k3 := isSpan_of h3
  rw [hours_of h1, hours_of h2, hours_of (hull_ok (meet_hull h))]
  simp only [mMeet] at k3
  simp only [mHull]; omega
theorem meet_holds {a b : TSpan} {x : Int} (h : kMeet a b = true) (ha : mHolds a x = true) : mHolds b x = mHolds (mMeet a b) x := by
  obtain ⟨h1, h2, h3⟩ := kMeet_of h
  simp only [mHolds, h1, h2, h3, Bool.true_and, mIn_iff] at ha ⊢
  rw [Bool.eq_iff_iff, mIn_iff, mIn_iff]
  simp only [mMeet]; omega
theorem widen_hours {s : TSpan} {n : Int} (h : kWiden s n = true) : mHours s ≤ mHours (mWiden s n) := by
  have h0 := h
  simp only [kWiden, Bool.and_eq_true] at h
  have k1 := isSpan_of h.1
  have k2 := mIn_iff.1 h.2
  rw [hours_of h.1, hours_of (widen_ok h0)]
  simp only [mWiden]; omega
theorem holds_hours {s : TSpan} {x : Int} (h : mHolds s x = true) : 0 < mHours s := by
  simp only [mHolds, Bool.and_eq_true] at h
  have k1 := isSpan_of h.1
  rw [hours_of h.1]; omega
theorem exDraws : ∃ (A B : List Int → TSpan) (H W : List Int → Int), (∀ l, c6.fn [.sl false 1 (.lit (.int .u8 0)) (ML dU l)] [] = some (l.length ≤ 2097152, .tup [encTSpan (A l), encTSpan (B l)], [])) ∧
    (∀ l, c12.fn [.sl false 1 (.lit (.int .u8 0)) (ML dU l)] [] = some (l.length ≤ 2097152, .tup [encTSpan (A l), dI (H l)], [])) ∧
    (∀ l, c13.fn [.sl false 1 (.lit (.int .u8 0)) (ML dU l)] [] = some (l.length ≤ 2097152, .tup [encTSpan (A l), dI (W l)], [])) :=
  ⟨dMa, dMb, dHk, dWk, fun l => c6_fn l, fun l => c12_fn l, fun l => c13_fn l⟩
/-- loop.example/g03007/laws.FnSpans -/
theorem law3 (l : List Int) (wl : wfLU l) : PCo Try.prog 3 [encLU l] (Tab.of []) (dB true) (Tab.of []) := by
  refine pco_of_run [10, 12, 15, 19] (E := ⟨[c5, c6, c7, c8, c9, c10, c11, c12, c13, c14, c15], [], []⟩) (m := false) (base := 0) (Env.ok_cons c5_ok (Env.ok_cons c6_ok (Env.ok_cons c7_ok (Env.ok_cons c8_ok (Env.ok_cons c9_ok (Env.ok_cons c10_ok (Env.ok_cons c11_ok (Env.ok_cons c12_ok (Env.ok_cons c13_ok (Env.ok_cons c14_ok (Env.ok_cons c15_ok Env.ok_nil))))))))))) G_ok mix 400 6 Try.func3 (by kernel_rfl) rfl (by kernel_rfl) (by kernel_rfl) rfl ?_
  have hl : l.length ≤ maxLen := wl.1
  by_cases hbig : 1048576 < l.length
  · simp [Try.f3, hbig]
  · have hp : l.length ≤ 2097152 := by omega
    obtain ⟨A, B, H, W, h1, h2, h3⟩ := exDraws
    have h1 := h1 l; have h2 := h2 l; have h3 := h3 l
    generalize A l = a at *
    generalize B l = b at *
    generalize H l = x at *
    generalize W l = n at *
    have b1 := hours_bd a
    have b2 := hours_bd b
    have w1 : (kWiden a n = true → mHours a ≤ mHours (mWiden a n)) := widen_hours
    have w2 : (mHolds a x = true → 0 < mHours a) := holds_hours
    have fin1 : kWiden a n = false ∨ mIsSpan (okS (kWiden a n) (mWiden a n) a) = true ∧ mHours a ≤ mHours (okS (kWiden a n) (mWiden a n) a) := by
      cases hw : kWiden a n with
      | true => exact .inr ⟨widen_ok hw, widen_hours hw⟩
      | false => exact .inl rfl
    have fin2 : mHolds a x = false ∨ 0 < mHours a := by
      cases hw : mHolds a x with
      | true => exact .inr (w2 hw)
      | false => exact .inl rfl
    cases hk : kMeet a b with
    | true =>
      have hc := kMeet_comm a b
      rw [hk] at hc
      have hh := meet_hull hk
      obtain ⟨m1, m2⟩ := meet_le hk
      obtain ⟨u1, u2, u3, u4⟩ := hull_holds hh
      have v1 := hull_hours hk
      have v2 := meet_holds (x := x) hk
      simp (config := {maxSteps := 3000000}) [Try.f3, hbig, h1, h2, h3, -c6_fn, -c12_fn, -c13_fn, hk, hc, hh, meet_comm a b, u1, u2, u3, u4]
      exact ⟨hp, ⟨m1, m2⟩, fun _ _ => ⟨⟨by omega, by omega⟩, v1, fun _ => ⟨hp, v2, fun _ => ⟨hp, fin1, fin2⟩⟩⟩⟩
    | false =>
      have hc := kMeet_comm a b
      rw [hk] at hc
      cases hh : kHull a b with
      | true =>
        obtain ⟨u1, u2, u3, u4⟩ := hull_holds hh
        simp (config := {maxSteps := 3000000}) [Try.f3, hbig, h1, h2, h3, -c6_fn, -c12_fn, -c13_fn, hk, hc, hh, meet_comm a b, u1, u2, u3, u4]
        repeat' (first | exact hp | exact fin1 | exact fin2 | omega | refine And.intro ?_ ?_ | intro _)
        all_goals (first | done | trace_state)
      | false =>
        simp (config := {maxSteps := 3000000}) [Try.f3, hbig, h1, h2, h3, -c6_fn, -c12_fn, -c13_fn, hk, hc, hh, meet_comm a b]
        repeat' (first | exact hp | exact fin1 | exact fin2 | omega | refine And.intro ?_ ?_ | intro _)
        all_goals (first | done | trace_state)
theorem law3_pc (D0 : D) (h0 : Sh G 9 22 D0) : PC Try.prog 3 [D0] (dB true) [] := by
  obtain ⟨l, rfl, wl⟩ := sh22 (n := 7) h0
  exact law3 l wl

end Go.Proofs.Ytojpebfoajeilaa
