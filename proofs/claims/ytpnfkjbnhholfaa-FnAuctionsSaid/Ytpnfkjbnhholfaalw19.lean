/- Contracts of the functions that the laws run. -/
import Derived.Test.YtpnfkjbnhholfaaEngB
import Derived.Test.YtpnfkjbnhholfaaEngB
import Derived.Test.YtpnfkjbnhholfaaEngB
import Derived.Test.Ytpnfkjbnhholfaalw19m
import Derived.Test.YtpnfkjbnhholfaaEngB
namespace Go.Proofs.Ytpnfkjbnhholfaa
open Go Go.Eng
set_option linter.unusedSimpArgs false
set_option linter.unusedVariables false
set_option maxRecDepth 10000
set_option maxHeartbeats 1000000
/-- loop.example/g03007/impl.HighestBids -/
noncomputable def c62f : Con := mkCon 62 false (α := (List TBid) × Int) (fun x => (fun (l : List TBid) (n : Int) => [encLTBid l, dI n]) x.1 x.2) (fun _ => []) (fun x => (fun (l : List TBid) (n : Int) => l.length ≤ 1073741823) x.1 x.2) (fun x => (fun (l : List TBid) (n : Int) => (encLI (mHigh l n) : D)) x.1 x.2) (fun x => (fun (l : List TBid) (n : Int) => []) x.1 x.2)
@[simp] theorem c62f_f : c62f.f = 62 := rfl
@[simp] theorem c62f_own : c62f.own = false := rfl
theorem c62f_inj : ∀ u_ v_ : (List TBid) × Int, ((fun x => (fun (l : List TBid) (n : Int) => [encLTBid l, dI n]) x.1 x.2) u_).map nz = ((fun x => (fun (l : List TBid) (n : Int) => [encLTBid l, dI n]) x.1 x.2) v_).map nz → u_ = v_ := by
  intro u_ v_ h
  obtain ⟨l, n⟩ := u_
  obtain ⟨l', n'⟩ := v_
  simp [nz_lit, nz1_lit, nz_agg, nz_sl, nz1_sl, encLTBid] at h
  first | (simp [h]; done) | (obtain ⟨⟩ := h; simp_all; done) | simp_all
@[simp] theorem c62f_fn (l : List TBid) (n : Int) : c62f.fn [.sl false 3 yTBid (ML encTBid l), .lit (.int .i64 n)] [] = some ((fun (l : List TBid) (n : Int) => l.length ≤ 1073741823) l n, (fun (l : List TBid) (n : Int) => (encLI (mHigh l n) : D)) l n, (fun (l : List TBid) (n : Int) => []) l n) :=
  mkCon_fn (fun x y h _ => c62f_inj x y h) ((l, n) : (List TBid) × Int) (by simp [nz, nz1, ML_nil, encLTBid]) rfl
@[simp] theorem c62f_fn1 (s_l : Nat) (z_l : D) (n : Int) : c62f.fn [.sl false s_l z_l [], .lit (.int .i64 n)] [] = some ((fun (l : List TBid) (n : Int) => l.length ≤ 1073741823) [] n, (fun (l : List TBid) (n : Int) => (encLI (mHigh l n) : D)) [] n, (fun (l : List TBid) (n : Int) => []) [] n) :=
  mkCon_fn (fun x y h _ => c62f_inj x y h) (([], n) : (List TBid) × Int) (by simp [nz, nz1, ML_nil, encLTBid]) rfl
theorem c62f_pc (l : List TBid) (n : Int) (hpre : l.length ≤ 1073741823) : PCo Try.prog 62 [encLTBid l, dI n] (Tab.of []) (encLI (mHigh l n)) (Tab.of []) := by
  exact pco_frz1 (by simp) (c62_pc l n hpre)
theorem c62f_ok : c62f.ok Try.prog := mkCon_ok fun ⟨l, n⟩ hpre => c62f_pc l n hpre
/-- loop.example/g03007/impl.WithoutBid -/
noncomputable def c63f : Con := mkCon 63 false (α := (List TBid) × Int) (fun x => (fun (l : List TBid) (k : Int) => [encLTBid l, dI k]) x.1 x.2) (fun _ => []) (fun x => (fun (l : List TBid) (k : Int) => l.length ≤ 1073741823) x.1 x.2) (fun x => (fun (l : List TBid) (k : Int) => (.sl false 3 yTBid (ML encTBid (mWithout l k)) : D)) x.1 x.2) (fun x => (fun (l : List TBid) (k : Int) => []) x.1 x.2)
@[simp] theorem c63f_f : c63f.f = 63 := rfl
@[simp] theorem c63f_own : c63f.own = false := rfl
theorem c63f_inj : ∀ u_ v_ : (List TBid) × Int, ((fun x => (fun (l : List TBid) (k : Int) => [encLTBid l, dI k]) x.1 x.2) u_).map nz = ((fun x => (fun (l : List TBid) (k : Int) => [encLTBid l, dI k]) x.1 x.2) v_).map nz → u_ = v_ := by
  intro u_ v_ h
  obtain ⟨l, k⟩ := u_
  obtain ⟨l', k'⟩ := v_
  simp [nz_lit, nz1_lit, nz_agg, nz_sl, nz1_sl, encLTBid] at h
  first | (simp [h]; done) | (obtain ⟨⟩ := h; simp_all; done) | simp_all
@[simp] theorem c63f_fn (l : List TBid) (k : Int) : c63f.fn [.sl false 3 yTBid (ML encTBid l), .lit (.int .i64 k)] [] = some ((fun (l : List TBid) (k : Int) => l.length ≤ 1073741823) l k, (fun (l : List TBid) (k : Int) => (.sl false 3 yTBid (ML encTBid (mWithout l k)) : D)) l k, (fun (l : List TBid) (k : Int) => []) l k) :=
  mkCon_fn (fun x y h _ => c63f_inj x y h) ((l, k) : (List TBid) × Int) (by simp [nz, nz1, ML_nil, encLTBid]) rfl
@[simp] theorem c63f_fn1 (s_l : Nat) (z_l : D) (k : Int) : c63f.fn [.sl false s_l z_l [], .lit (.int .i64 k)] [] = some ((fun (l : List TBid) (k : Int) => l.length ≤ 1073741823) [] k, (fun (l : List TBid) (k : Int) => (.sl false 3 yTBid (ML encTBid (mWithout l k)) : D)) [] k, (fun (l : List TBid) (k : Int) => []) [] k) :=
  mkCon_fn (fun x y h _ => c63f_inj x y h) (([], k) : (List TBid) × Int) (by simp [nz, nz1, ML_nil, encLTBid]) rfl
theorem c63f_pc (l : List TBid) (k : Int) (hpre : l.length ≤ 1073741823) : PCo Try.prog 63 [encLTBid l, dI k] (Tab.of []) (.sl false 3 yTBid (ML encTBid (mWithout l k))) (Tab.of []) := by
  have h := c63_pc l k hpre
  have e : ML encTBid (mWithout l k ++ tailD l k) = ML encTBid (mWithout l k) ++ ML encTBid (tailD l k) := by simp
  rw [e] at h
  exact pco_frz1 (by simp) (pco_cut h)
theorem c63f_ok : c63f.ok Try.prog := mkCon_ok fun ⟨l, k⟩ hpre => c63f_pc l k hpre
theorem high_full {l : List TBid} (h : mAreBids l = true) : mHighN l l.length = l.length := by
  rw [mHighN, if_neg (by rintro (e | e); · rw [h] at e; cases e
                         · omega)]; omega
theorem high_le (l : List TBid) (n : Int) : mHighN l n ≤ l.length := by
  simp only [mHighN]; split <;> omega
/-- loop.example/g03007/laws.FnAuctions -/
theorem law8 (l : List Int) (wl : wfLU l) : PCo Try.prog 8 [encLU l] (Tab.of []) (dB true) (Tab.of []) := by
  refine pco_of_run [29] (E := ⟨[c9, c58, c59, c60, c61, c62f, c63f, c64, c65, c66, c67], [], []⟩) (m := false) (base := 0) (Env.ok_cons c9_ok (Env.ok_cons c58_ok (Env.ok_cons c59_ok (Env.ok_cons c60_ok (Env.ok_cons c61_ok (Env.ok_cons c62f_ok (Env.ok_cons c63f_ok (Env.ok_cons c64_ok (Env.ok_cons c65_ok (Env.ok_cons c66_ok (Env.ok_cons c67_ok Env.ok_nil))))))))))) G_ok mix 400 6 Try.func8 (by kernel_rfl) rfl (by kernel_rfl) (by kernel_rfl) rfl ?_
  have hl : l.length ≤ maxLen := wl.1
  by_cases hbig : 1048576 < l.length
  · simp [Try.f8, hbig]
  · have hp : l.length ≤ 2097152 := by omega
    have b1 := v58_ok l hp
    have b2 := v64_ok l hp
    have h1 := c58_fn l
    have h2 := c64_fn l
    have h3 := c65_fn l
    generalize v58 l = L at *
    generalize v64 l = Y at *
    generalize v65 l = Z at *
    obtain ⟨A, n⟩ := Y
    obtain ⟨x, salt⟩ := Z
    simp only at b1 b2 h1 h2 h3
    have hA : (mHigh A n).length ≤ A.length := by have := high_le A n; simpa [mHigh] using this
    have hx : mIsOpened x salt = false ∨ mSealBid salt x.Who x.Cents = x.Seal := by
      cases h : mIsOpened x salt with
      | false => exact .inl rfl
      | true => simp [mIsOpened] at h; exact .inr h.2
    by_cases hg : mAreBids L = true ∧ 0 < L.length
    · obtain ⟨hb, hl0⟩ := hg
      obtain ⟨w1, w2, w3, w4, w5, w6, w7⟩ := win_all hb hl0
      have hh1 : (mHigh L L.length).length = L.length := by simp [mHigh, high_full hb]
      have hh2 : (mHigh L L.length)[0]?.getD 0 = (mWin L).1 := by rw [← w2, mHigh, high_full hb]; exact gen_get hl0
      generalize hR : mWithout L (mWin L).1 = R at *
      generalize hwp : mWin L = wp at *
      obtain ⟨w, pr⟩ := wp
      simp only at w1 w2 w3 w4 hR w5 w6 w7 hh2
      have hlR : (R.length : Int) = (L.length : Int) - 1 := by omega
      have hne : ¬ L = [] := List.length_pos_iff.1 hl0
      simp (config := {maxSteps := 3000000}) [Try.f8, hbig, h1, h2, h3, -c58_fn, -c64_fn, -c65_fn, hb, hwp, w1, hR, hh1, hh2, hlR]
      repeat' (with_reducible first | apply And.intro | intro _)
      all_goals try (first | omega | assumption | (simp; done) | (simp only [below_eq, Int.reduceLT]; omega))
      all_goals try (first | omega | (simp [w1, hl0]; done))
      refine loop_inv (fun p : Nat => p ≤ L.length) (fun p => [(0, encLU l), (3, encLTBid L), (4, dI w), (5, dI pr), (7, encLTBid R), (8, dI 0), (9, dI p)]) (fun _ => []) 1 (fun p => L.length - p) 0 400 (by simp) (by simp) (by simp) ?_
      intro p hpL
      by_cases hlt : p < L.length
      · have q3 := w3 _ (getD_mem (d := default) hlt)
        have q4 := w4 _ (getD_mem (d := default) hlt)
        by_cases he : (L[p]?.getD default).Who = w
        · have q3 := q3 he
          simp (config := {maxSteps := 3000000}) [he]
          repeat' (with_reducible first | apply And.intro | intro _)
          all_goals try (first | omega | assumption | (simp; done) | (simp only [below_eq, Int.reduceLT]; omega))
          all_goals first | exact Again.mk (p + 1) (by omega) (by simp) (by first | omega | (simp; omega)) | trace_state
        · have q4 := q4 he
          simp (config := {maxSteps := 3000000}) [he]
          repeat' (with_reducible first | apply And.intro | intro _)
          all_goals try (first | omega | assumption | (simp; done) | (simp only [below_eq, Int.reduceLT]; omega))
          all_goals first | exact Again.mk (p + 1) (by omega) (by simp) (by first | omega | (simp; omega)) | trace_state
      · simp (config := {maxSteps := 3000000}) [hlt]
        repeat' (with_reducible first | apply And.intro | intro _)
        all_goals try (first | omega | assumption | (simp; done) | (simp only [below_eq, Int.reduceLT]; omega))
        refine loop_inv (fun q : Nat => q ≤ R.length) (fun q => [(0, encLU l), (3, encLTBid L), (5, dI pr), (7, encLTBid R), (8, dI ((R.take q).foldl stepM 0)), (10, dI q)]) (fun _ => []) 1 (fun q => R.length - q) 0 400 (by simp) (by simp) (by simp) ?_
        intro q hqR
        by_cases hlq : q < R.length
        · have hs : (R.take (q + 1)).foldl stepM 0 = stepM ((R.take q).foldl stepM 0) (R[q]?.getD default) := foldl_at (d := default) hlq
          by_cases hg : (R.take q).foldl stepM 0 < (R[q]?.getD default).Cents
          · rw [stepM, if_pos hg] at hs
            simp (config := {maxSteps := 3000000}) [hg]
            repeat' (with_reducible first | apply And.intro | intro _)
            all_goals try (first | omega | assumption | (simp; done) | (simp only [below_eq, Int.reduceLT]; omega))
            all_goals first | exact Again.mk (q + 1) (by omega) (by simp [hs]) (by first | omega | (simp; omega)) | trace_state
          · rw [stepM, if_neg hg] at hs
            simp (config := {maxSteps := 3000000}) [hg]
            repeat' (with_reducible first | apply And.intro | intro _)
            all_goals try (first | omega | assumption | (simp; done) | (simp only [below_eq, Int.reduceLT]; omega))
            all_goals first | exact Again.mk (q + 1) (by omega) (by simp [hs]) (by first | omega | (simp; omega)) | trace_state
        · have e : q = R.length := by omega
          subst e
          have w6' : 0 < R.length → R.foldl stepM 0 = pr := fun h => (w6 h).symm
          simp (config := {maxSteps := 3000000}) [hbig, h2, h3, -c64_fn, -c65_fn, hlR]
          repeat' (with_reducible first | apply And.intro | intro _)
          all_goals try (first | omega | assumption | (simp; done) | (simp only [below_eq, Int.reduceLT]; omega))
          all_goals first | exact w6 (by omega) | exact w7 (by omega) | exact hx | omega | trace_state
    · have hm : mWin L = (0, 0) := by
        rw [mWin, if_pos]
        rcases Nat.eq_zero_or_pos L.length with h0 | h0
        · exact .inl h0
        · refine .inr ?_
          cases h : mAreBids L with
          | false => rfl
          | true => exact absurd ⟨h, h0⟩ hg
      have hg2 : mAreBids L = true → ¬ 0 < L.length := fun a b => hg ⟨a, b⟩
      simp (config := {maxSteps := 3000000}) [Try.f8, hbig, h1, h2, h3, -c58_fn, -c64_fn, -c65_fn, hm]
      have hg3 : 0 < L.length → mAreBids L = false := fun h0 => by
        cases h : mAreBids L with
        | false => rfl
        | true => exact absurd h0 (hg2 h)
      repeat' (with_reducible first | apply And.intro | intro _)
      all_goals try (first | omega | assumption | (simp; done) | (simp only [below_eq, Int.reduceLT]; omega))
      all_goals first | exact hg3 (by assumption) | exact hx | omega | trace_state
theorem law8_pc (D0 : D) (h0 : Sh G 9 22 D0) : PC Try.prog 8 [D0] (dB true) [] := by
  obtain ⟨l, rfl, wl⟩ := sh22 (n := 7) h0
  exact law8 l wl

end Go.Proofs.Ytpnfkjbnhholfaa
