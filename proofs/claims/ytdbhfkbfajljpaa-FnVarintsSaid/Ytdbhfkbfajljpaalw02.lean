/- Contracts of the functions that the laws run. -/
import Derived.Test.YtdbhfkbfajljpaaEngB
import Derived.Test.YtdbhfkbfajljpaaEngB
import Derived.Test.YtdbhfkbfajljpaaEngB
import Derived.Test.Ytdbhfkbfajljpaalw02v
import Derived.Test.Ytdbhfkbfajljpaalawb
import Derived.Test.YtdbhfkbfajljpaaEngB
namespace Go.Proofs.Ytdbhfkbfajljpaa
open Go Go.Eng
set_option linter.unusedSimpArgs false
set_option linter.unusedVariables false
set_option maxRecDepth 10000
set_option maxHeartbeats 1000000
theorem enc_dec {b : List Int} {n : Int} (h : 0 ≤ n ∧ n ≤ 1000000000000) : mRead (b ++ uv 5 n) b.length = some (n, ((b ++ uv 5 n).length : Int)) := by
  rw [mRead, if_neg (by omega)]
  have hd : (b ++ uv 5 n).drop ((b.length : Int) + ((0 : Nat) : Int)).toNat = uv 5 n ++ [] := by
    have : ((b.length : Int) + ((0 : Nat) : Int)).toNat = b.length := by omega
    rw [this]; simp
  have hpw : n < 128 ^ (5 + 1) := by
    have e : (128 : Int) ^ (5 + 1) = 4398046511104 := by decide
    rw [e]; omega
  have := rd_uv (b ++ uv 5 n) b.length [] (by omega) 5 n 0 0 6 hd h.1 hpw (by omega) (by simp) (by simpa using h.2) (fun _ => rfl) (by omega) (by omega)
  rw [this]
  simp
theorem dec_enc {y : List Int} {off v e : Int} (hy : okBy y) (h : mRead y off = some (v, e)) : 0 ≤ off ∧ off < e ∧ e ≤ y.length ∧ (0 ≤ v ∧ v ≤ 1000000000000) ∧ mPutU [] v = (y.drop off.toNat).take (e - off).toNat := by
  rw [mRead] at h
  by_cases h0 : off < 0
  · rw [if_pos h0] at h; cases h
  · rw [if_neg h0] at h
    obtain ⟨g1, g2, g3, m, g4, g5, _, g7⟩ := uv_rd y off (by omega) hy 6 0 0 v e (by omega) (by omega) (by simp) h
    have hv : v = m := by simpa using g5
    subst hv
    simp only [Int.natCast_zero, Int.add_zero] at g2 g7
    refine ⟨by omega, by simpa using g2, g3, ⟨g4, g1⟩, ?_⟩
    have hin : mIn v 0 1000000000000 = true := mIn_iff.2 ⟨g4, g1⟩
    rw [mPutU, if_pos hin, List.nil_append]
    simpa using g7.symm
/-- loop.example/g03007/impl.AppendUvarint -/
noncomputable def c8f : Con := mkCon 8 false (α := (List Int) × Int) (fun x => (fun (l : List Int) (n : Int) => [encLU l, dI n]) x.1 x.2) (fun _ => []) (fun x => (fun (l : List Int) (n : Int) => l.length ≤ 1073741823) x.1 x.2) (fun x => (fun (l : List Int) (n : Int) => (encLU (mPutU l n) : D)) x.1 x.2) (fun x => (fun (l : List Int) (n : Int) => []) x.1 x.2)
@[simp] theorem c8f_f : c8f.f = 8 := rfl
@[simp] theorem c8f_own : c8f.own = false := rfl
theorem c8f_inj : ∀ u_ v_ : (List Int) × Int, ((fun x => (fun (l : List Int) (n : Int) => [encLU l, dI n]) x.1 x.2) u_).map nz = ((fun x => (fun (l : List Int) (n : Int) => [encLU l, dI n]) x.1 x.2) v_).map nz → u_ = v_ := by
  intro u_ v_ h
  obtain ⟨l, n⟩ := u_
  obtain ⟨l', n'⟩ := v_
  simp [nz_lit, nz1_lit, nz_agg, nz_sl, nz1_sl, encLU] at h
  first | (simp [h]; done) | (obtain ⟨⟩ := h; simp_all; done) | simp_all
@[simp] theorem c8f_fn (l : List Int) (n : Int) : c8f.fn [.sl false 1 (.lit (.int .u8 0)) (ML dU l), .lit (.int .i64 n)] [] = some ((fun (l : List Int) (n : Int) => l.length ≤ 1073741823) l n, (fun (l : List Int) (n : Int) => (encLU (mPutU l n) : D)) l n, (fun (l : List Int) (n : Int) => []) l n) :=
  mkCon_fn (fun x y h _ => c8f_inj x y h) ((l, n) : (List Int) × Int) (by simp [nz, nz1, ML_nil, encLU]) rfl
@[simp] theorem c8f_fn1 (s_l : Nat) (z_l : D) (n : Int) : c8f.fn [.sl false s_l z_l [], .lit (.int .i64 n)] [] = some ((fun (l : List Int) (n : Int) => l.length ≤ 1073741823) [] n, (fun (l : List Int) (n : Int) => (encLU (mPutU l n) : D)) [] n, (fun (l : List Int) (n : Int) => []) [] n) :=
  mkCon_fn (fun x y h _ => c8f_inj x y h) (([], n) : (List Int) × Int) (by simp [nz, nz1, ML_nil, encLU]) rfl
theorem c8f_pc (l : List Int) (n : Int) (hpre : l.length ≤ 1073741823) : PCo Try.prog 8 [encLU l, dI n] (Tab.of []) (encLU (mPutU l n)) (Tab.of []) := by
  exact pco_frz1 (by simp) (c8_pc l n hpre)
theorem c8f_ok : c8f.ok Try.prog := mkCon_ok fun ⟨l, n⟩ hpre => c8f_pc l n hpre
/-- loop.example/g03007/laws.FnVarints -/
theorem law3 (l : List Int) (wl : wfLU l) : PCo Try.prog 3 [encLU l] (Tab.of []) (dB true) (Tab.of []) := by
  refine pco_of_run [] (E := ⟨[c6, c7, c8, c9, c10, c11, c12], [], []⟩) (m := false) (base := 0) (Env.ok_cons c6_ok (Env.ok_cons c7_ok (Env.ok_cons c8_ok (Env.ok_cons c9_ok (Env.ok_cons c10_ok (Env.ok_cons c11_ok (Env.ok_cons c12_ok Env.ok_nil))))))) G_ok mix 400 6 Try.func3 (by kernel_rfl) rfl (by kernel_rfl) (by kernel_rfl) rfl ?_
  have hl : l.length ≤ maxLen := wl.1
  by_cases hbig : 1048576 < l.length
  · simp [Try.f3, hbig]
  · have hp : l.length ≤ 2097152 := by omega
    have b1 := v7_ok l hp
    have b2 := v11_ok l hp
    have h1 := c7_fn l
    have h2 := c11_fn l
    generalize v7 l = X at *
    generalize v11 l = Y at *
    obtain ⟨b, n⟩ := X
    obtain ⟨y, off⟩ := Y
    simp only at b1 b2 h1 h2
    have hby : ∀ x ∈ mPutU b n, 0 ≤ x ∧ x ≤ 255 := okBy_put b1.2 n
    have hpl := mPutU_len b n
    have hyb : ∀ x ∈ y, 0 ≤ x ∧ x ≤ 255 := b2.2
    have hde := fun v e => @dec_enc y off v e b2.2
    cases hr : mRead y off with
    | none =>
      cases hn : mIn n 0 1000000000000 with
      | true =>
        have e1 : mPutU b n = b ++ uv 5 n := by rw [mPutU, if_pos hn]
        have e2 := enc_dec (b := b) (mIn_iff.1 hn)
        rw [← e1] at e2
        have hnb := mIn_iff.1 hn
        simp (config := {maxSteps := 3000000}) [Try.f3, hbig, h1, h2, -c7_fn, -c11_fn, e2, hr]
        repeat' (with_reducible first | apply And.intro | intro _)
        all_goals try (first | omega | assumption | (simp; done) | (simp only [below_eq, Int.reduceLT]; omega))
        all_goals first | exact (hby _ (by assumption)).1 | exact (hby _ (by assumption)).2 | exact (hyb _ (by assumption)).1 | exact (hyb _ (by assumption)).2 | exact (b1.2 _ (by assumption)).1 | exact (b1.2 _ (by assumption)).2 | omega | trace_state
      | false =>
        have e1 : mPutU b n = b := by rw [mPutU, if_neg (by simp [hn])]
        have e2 : mRead b b.length = none := by rw [mRead, if_neg (by omega)]; exact rdU_end _ _ _ _ _ (by omega)
        have hnb : ¬ (0 ≤ n ∧ n ≤ 1000000000000) := fun h => by rw [mIn_iff.2 h] at hn; cases hn
        simp (config := {maxSteps := 3000000}) [Try.f3, hbig, h1, h2, -c7_fn, -c11_fn, e1, e2, hr]
        repeat' (with_reducible first | apply And.intro | intro _)
        all_goals try (first | omega | assumption | (simp; done) | (simp only [below_eq, Int.reduceLT]; omega))
        all_goals first | exact (hby _ (by assumption)).1 | exact (hby _ (by assumption)).2 | exact (hyb _ (by assumption)).1 | exact (hyb _ (by assumption)).2 | exact (b1.2 _ (by assumption)).1 | exact (b1.2 _ (by assumption)).2 | omega | trace_state
    | some q =>
      obtain ⟨v, e⟩ := q
      obtain ⟨d1, d2, d3, d4, d5⟩ := hde v e hr
      cases hn : mIn n 0 1000000000000 with
      | true =>
        have e1 : mPutU b n = b ++ uv 5 n := by rw [mPutU, if_pos hn]
        have e2 := enc_dec (b := b) (mIn_iff.1 hn)
        rw [← e1] at e2
        have hnb := mIn_iff.1 hn
        simp (config := {maxSteps := 3000000}) [Try.f3, hbig, h1, h2, -c7_fn, -c11_fn, e2, hr, d1, d2, d3, d5]
        repeat' (with_reducible first | apply And.intro | intro _)
        all_goals try (first | omega | assumption | (simp; done) | (simp only [below_eq, Int.reduceLT]; omega))
        all_goals first | exact (hby _ (by assumption)).1 | exact (hby _ (by assumption)).2 | exact (hyb _ (by assumption)).1 | exact (hyb _ (by assumption)).2 | exact (b1.2 _ (by assumption)).1 | exact (b1.2 _ (by assumption)).2 | omega | trace_state
      | false =>
        have e1 : mPutU b n = b := by rw [mPutU, if_neg (by simp [hn])]
        have e2 : mRead b b.length = none := by rw [mRead, if_neg (by omega)]; exact rdU_end _ _ _ _ _ (by omega)
        have hnb : ¬ (0 ≤ n ∧ n ≤ 1000000000000) := fun h => by rw [mIn_iff.2 h] at hn; cases hn
        simp (config := {maxSteps := 3000000}) [Try.f3, hbig, h1, h2, -c7_fn, -c11_fn, e1, e2, hr, d1, d2, d3, d5]
        repeat' (with_reducible first | apply And.intro | intro _)
        all_goals try (first | omega | assumption | (simp; done) | (simp only [below_eq, Int.reduceLT]; omega))
        all_goals first | exact (hby _ (by assumption)).1 | exact (hby _ (by assumption)).2 | exact (hyb _ (by assumption)).1 | exact (hyb _ (by assumption)).2 | exact (b1.2 _ (by assumption)).1 | exact (b1.2 _ (by assumption)).2 | omega | trace_state
theorem law3_pc (D0 : D) (h0 : Sh G 9 22 D0) : PC Try.prog 3 [D0] (dB true) [] := by
  obtain ⟨l, rfl, wl⟩ := sh22 (n := 7) h0
  exact law3 l wl

end Go.Proofs.Ytdbhfkbfajljpaa
