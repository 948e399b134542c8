/- Contracts of the functions that the laws run. -/
import Derived.Test.YtojpebfoajeilaaDoorch00k
import Derived.Test.YtojpebfoajeilaaDoorEngB
namespace Go.Proofs.YtojpebfoajeilaaDoor
open Go Go.Eng
set_option linter.unusedSimpArgs false
set_option linter.unusedVariables false
set_option maxRecDepth 10000
set_option maxHeartbeats 1000000
/-- the loop's list and cursor before its round p -/
noncomputable def LC (c : TL1Cur) : Nat → List TThing × TL1Cur
  | 0 => ([], c)
  | p + 1 => ((LC c p).1 ++ [dT (bN (LC c p).2 7) (2 * ((p : Int) + 1))], dTN (bN (LC c p).2 7))
theorem LC_len (c : TL1Cur) : ∀ p, (LC c p).1.length = p
  | 0 => rfl
  | p + 1 => by simp [LC, LC_len c p]
theorem okCu_LC {c : TL1Cur} (h : okCu c) : ∀ p, okCu (LC c p).2
  | 0 => h
  | p + 1 => okCu_bN (okCu_bN (okCu_bN (okCu_bN (okCu_bN (okCu_LC h p) 7) 8) 8) 20) 500
theorem exT4L : ∃ (fd : TL1Cur → Int → TThing) (fe : TL1Cur → TL1Cur), (∀ (c : TL1Cur) (id : Int), c20.fn [.ptr (0, 0) 0, .lit (.int .i64 id)] [((0, 0), .box (.agg [.sl false 1 (.lit (.int .u8 0)) (ML dU c.b_), .lit (.int .i64 c.i_), .lit (.int .i64 c.h_)]))] = some (okCu c, encTThing (fd c id), [((0, 0), .box (encTL1Cur (fe c)))])) ∧ (∀ c id, fd c id = dT c id) ∧ ∀ c, fe c = dTN c :=
  ⟨dT, dTN, fun c id => c20_fn c.b_ c.i_ c.h_ id, fun _ _ => rfl, fun _ => rfl⟩
theorem stop_ex (f : Nat → Int) (h : ∀ p, f p < 7) : ∃ n : Nat, n ≤ 6 ∧ (∀ q, q < n → (q : Int) + 1 ≤ f q) ∧ ¬ (n : Int) + 1 ≤ f n := by
  have key : ∀ k : Nat, (∃ n : Nat, n < k ∧ (∀ q, q < n → (q : Int) + 1 ≤ f q) ∧ ¬ (n : Int) + 1 ≤ f n) ∨ ∀ q, q < k → (q : Int) + 1 ≤ f q := by
    intro k
    induction k with
    | zero => exact .inr (fun q hq => absurd hq (by omega))
    | succ k ih =>
      rcases ih with ⟨n, h1, h2, h3⟩ | ih
      · exact .inl ⟨n, by omega, h2, h3⟩
      · by_cases hk : (k : Int) + 1 ≤ f k
        · refine .inr fun q hq => ?_
          by_cases e : q = k
          · subst e; exact hk
          · exact ih q (by omega)
        · exact .inl ⟨k, by omega, ih, hk⟩
  rcases key 7 with ⟨n, h1, h2, h3⟩ | h1
  · exact ⟨n, by omega, h2, h3⟩
  · have := h1 6 (by omega); have := h 6; omega
theorem list4_ex (c : TL1Cur) (hc : okCu c) : ∃ (l : List TThing) (c' : TL1Cur), okCu c' ∧ l.length ≤ 6 ∧ PCo Tryd.prog 19 [.ptr (0, 0) 0] (Tab.of [((0, 0), .box (encTL1Cur c))]) (.own (0, 1) 5 0 l.length) (Tab.of [((0, 0), .box (encTL1Cur c')), ((0, 1), .arr false 5 yTThing (ML encTThing l))]) := by
  have hL := LC_len c
  have hok := okCu_LC hc
  obtain ⟨n, hn6, hlo, hst⟩ := stop_ex (fun p => bV (LC c p).2 7) (fun p => (bV_bd (LC c p).2 7 (by omega)).2)
  obtain ⟨fv, fs, hf, hv, hs⟩ := exBel
  obtain ⟨fd, fe, hfd, hvd, hsd⟩ := exT4L
  obtain ⟨fa, fg, hfa, hva, hsa, hga⟩ := exA4
  have hfo : ∀ (c : TL1Cur) (n : Int), c28.fn [.ptr (0, 0) 0, .lit (.int .i64 n)] [((0, 0), .box (.agg [.sl false 1 (.lit (.int .u8 0)) (ML dU c.b_), .lit (.int .i64 c.i_), .lit (.int .i64 c.h_)]))] = some (okCu c, .lit (.bool (decide (fv c n = 0))), [((0, 0), .box (encTL1Cur (fs c n)))]) := fun c n => by rw [hv, hs]; exact c28_fn c.b_ c.i_ c.h_ n
  have hD : ∀ p, (LC c (p + 1)).1 = (LC c p).1 ++ [fd (fs (LC c p).2 7) (2 * ((p : Int) + 1))] := fun p => by rw [hvd, hs]; rfl
  have hE : ∀ p, (LC c (p + 1)).2 = fe (fs (LC c p).2 7) := fun p => by rw [hsd, hs]; rfl
  have ks : ∀ c n, okCu c → okCu (fs c n) := fun c n h => by rw [hs]; exact okCu_bN h n
  have hbd : ∀ c n, 0 < n → 0 ≤ fv c n ∧ fv c n < n := fun c n h => by rw [hv]; exact bV_bd c n h
  have h0a : (LC c 0).1 = [] := rfl
  have h0b : (LC c 0).2 = c := rfl
  simp only [← hv] at hlo hst
  clear hv hs hvd hsd hva hsa
  generalize LC c = DD at *
  have hkn := ks _ 7 (hok n)
  have hk8 := ks _ 8 hkn
  have hLn := hL n
  by_cases n0 : n = 0
  · refine ⟨(DD n).1, fs (DD n).2 7, hkn, by omega, ?_⟩
    refine pco_of_run [] (E := ⟨[c20, c21, c15, c28], [], []⟩) (m := false) (base := 0) (Env.ok_cons c20_ok (Env.ok_cons c21_ok (Env.ok_cons c15_ok (Env.ok_cons c28_ok Env.ok_nil)))) G_ok mix 300 6 Tryd.func19 (by kernel_rfl) rfl (by kernel_rfl) (by kernel_rfl) rfl ?_
    simp [Tryd.f19, hf, hfd, hfa, hfo, -c20_fn, -c21_fn, -c15_fn, -c28_fn]
    refine loop_inv (fun p : Nat => p ≤ n) (fun p => [(0, .ptr (0, 0) 0), (3, .own (0, 1) 5 0 p), (4, dI ((p : Int) + 1))]) (fun p => [((0, 0), .box (encTL1Cur (DD p).2)), ((0, 1), .arr false 5 yTThing (ML encTThing (DD p).1))]) 2 (fun p => n - p) 0 400 (by simp) (by simp) (by simp [h0a, h0b]) ?_
    intro p hp
    have hLp := hL p
    have hkp := hok p
    have hk7 := ks _ 7 hkp
    have hb := hbd (DD p).2 7 (by omega)
    have hlo' := hlo p
    simp [hf, hfd, hfa, hfo, -c20_fn, -c21_fn, -c15_fn, -c28_fn, hkp, hk7]
    refine ⟨fun hle => ?_, fun hgt => ?_⟩
    · have hpn : p < n := by
        rcases Nat.lt_or_ge p n with h | h
        · exact h
        · have e : p = n := by omega
          subst e; omega
      refine ⟨⟨by omega, by omega, by omega⟩, by omega, ?_⟩
      exact Again.mk (p + 1) (by omega) (by simp [hD, hE, hLp] <;> omega) (by first | omega | (simp; omega))
    · have e : p = n := by
        rcases Nat.lt_or_ge p n with h | h
        · have := hlo' h; omega
        · omega
      subst e
      simp [n0, h0a]
      first | done | omega | trace_state
  · by_cases q : fv (fs (DD n).2 7) 8 = 0
    · refine ⟨(DD n).1.set (fv (fs (fs (DD n).2 7) 8) n).toNat (fa (fs (fs (fs (DD n).2 7) 8) n)), fg (fs (fs (fs (DD n).2 7) 8) n), hga _ (ks _ _ hk8), by simp; omega, ?_⟩
      refine pco_of_run [] (E := ⟨[c20, c21, c15, c28], [], []⟩) (m := false) (base := 0) (Env.ok_cons c20_ok (Env.ok_cons c21_ok (Env.ok_cons c15_ok (Env.ok_cons c28_ok Env.ok_nil)))) G_ok mix 300 6 Tryd.func19 (by kernel_rfl) rfl (by kernel_rfl) (by kernel_rfl) rfl ?_
      simp [Tryd.f19, hf, hfd, hfa, hfo, -c20_fn, -c21_fn, -c15_fn, -c28_fn]
      refine loop_inv (fun p : Nat => p ≤ n) (fun p => [(0, .ptr (0, 0) 0), (3, .own (0, 1) 5 0 p), (4, dI ((p : Int) + 1))]) (fun p => [((0, 0), .box (encTL1Cur (DD p).2)), ((0, 1), .arr false 5 yTThing (ML encTThing (DD p).1))]) 2 (fun p => n - p) 0 400 (by simp) (by simp) (by simp [h0a, h0b]) ?_
      intro p hp
      have hLp := hL p
      have hkp := hok p
      have hk7 := ks _ 7 hkp
      have hb := hbd (DD p).2 7 (by omega)
      have hlo' := hlo p
      simp [hf, hfd, hfa, hfo, -c20_fn, -c21_fn, -c15_fn, -c28_fn, hkp, hk7]
      refine ⟨fun hle => ?_, fun hgt => ?_⟩
      · have hpn : p < n := by
          rcases Nat.lt_or_ge p n with h | h
          · exact h
          · have e : p = n := by omega
            subst e; omega
        refine ⟨⟨by omega, by omega, by omega⟩, by omega, ?_⟩
        exact Again.mk (p + 1) (by omega) (by simp [hD, hE, hLp] <;> omega) (by first | omega | (simp; omega))
      · have e : p = n := by
          rcases Nat.lt_or_ge p n with h | h
          · have := hlo' h; omega
          · omega
        subst e
        have hp0 : 0 < p := by omega
        have hb2 := hbd (fs (fs (DD p).2 7) 8) p (by omega)
        have hpz : ¬ p = 0 := by omega
        simp [hp0, hpz, hLp, q, hf, hfd, hfa, hfo, -c20_fn, -c21_fn, -c15_fn, -c28_fn, hkp, hk7, hk8, ks]
        repeat' (first | done | omega | (exact fun a b _ ha hb _ => Or.inl ⟨hb, ha⟩) | (rintro a b _ rfl rfl rfl a b h; simp at h; done) | refine And.intro ?_ ?_)
        all_goals first | done | trace_state
    · refine ⟨(DD n).1, fs (fs (DD n).2 7) 8, hk8, by omega, ?_⟩
      refine pco_of_run [] (E := ⟨[c20, c21, c15, c28], [], []⟩) (m := false) (base := 0) (Env.ok_cons c20_ok (Env.ok_cons c21_ok (Env.ok_cons c15_ok (Env.ok_cons c28_ok Env.ok_nil)))) G_ok mix 300 6 Tryd.func19 (by kernel_rfl) rfl (by kernel_rfl) (by kernel_rfl) rfl ?_
      simp [Tryd.f19, hf, hfd, hfa, hfo, -c20_fn, -c21_fn, -c15_fn, -c28_fn]
      refine loop_inv (fun p : Nat => p ≤ n) (fun p => [(0, .ptr (0, 0) 0), (3, .own (0, 1) 5 0 p), (4, dI ((p : Int) + 1))]) (fun p => [((0, 0), .box (encTL1Cur (DD p).2)), ((0, 1), .arr false 5 yTThing (ML encTThing (DD p).1))]) 2 (fun p => n - p) 0 400 (by simp) (by simp) (by simp [h0a, h0b]) ?_
      intro p hp
      have hLp := hL p
      have hkp := hok p
      have hk7 := ks _ 7 hkp
      have hb := hbd (DD p).2 7 (by omega)
      have hlo' := hlo p
      simp [hf, hfd, hfa, hfo, -c20_fn, -c21_fn, -c15_fn, -c28_fn, hkp, hk7]
      refine ⟨fun hle => ?_, fun hgt => ?_⟩
      · have hpn : p < n := by
          rcases Nat.lt_or_ge p n with h | h
          · exact h
          · have e : p = n := by omega
            subst e; omega
        refine ⟨⟨by omega, by omega, by omega⟩, by omega, ?_⟩
        exact Again.mk (p + 1) (by omega) (by simp [hD, hE, hLp] <;> omega) (by first | omega | (simp; omega))
      · have e : p = n := by
          rcases Nat.lt_or_ge p n with h | h
          · have := hlo' h; omega
          · omega
        subst e
        have hp0 : 0 < p := by omega
        have hb2 := hbd (fs (fs (DD p).2 7) 8) p (by omega)
        have hpz : ¬ p = 0 := by omega
        simp [hp0, hpz, hLp, q, hf, hfd, hfa, hfo, -c20_fn, -c21_fn, -c15_fn, -c28_fn, hkp, hk7, hk8, ks]
        repeat' (first | done | omega | (exact fun a b _ ha hb _ => Or.inl ⟨hb, ha⟩) | (rintro a b _ rfl rfl rfl a b h; simp at h; done) | refine And.intro ?_ ?_)
        all_goals first | done | trace_state

end Go.Proofs.YtojpebfoajeilaaDoor
