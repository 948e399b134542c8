/- Contracts of the functions that the laws run. -/
import Derived.Test.YtpnfkjbnhholfaaEngB
import Derived.Test.YtpnfkjbnhholfaaEngB
import Derived.Test.YtpnfkjbnhholfaaEngB
import Derived.Test.Ytpnfkjbnhholfaalw16m
import Derived.Test.YtpnfkjbnhholfaaEngB
namespace Go.Proofs.Ytpnfkjbnhholfaa
open Go Go.Eng
set_option linter.unusedSimpArgs false
set_option linter.unusedVariables false
set_option maxRecDepth 10000
set_option maxHeartbeats 1000000
/-- loop.example/g03007/impl.AddHand -/
noncomputable def c50f : Con := mkCon 50 false (α := (List THand) × THand) (fun x => (fun (l : List THand) (x : THand) => [encLTHand l, encTHand x]) x.1 x.2) (fun _ => []) (fun x => (fun (l : List THand) (x : THand) => l.length ≤ 1073741823) x.1 x.2) (fun x => (fun (l : List THand) (x : THand) => (.tup [.sl false 5 yTHand (ML encTHand (mAddHand l x)), dB (mIsChain (l ++ [mAddH l x]))] : D)) x.1 x.2) (fun x => (fun (l : List THand) (x : THand) => []) x.1 x.2)
@[simp] theorem c50f_f : c50f.f = 50 := rfl
@[simp] theorem c50f_own : c50f.own = false := rfl
theorem c50f_inj : ∀ u_ v_ : (List THand) × THand, ((fun x => (fun (l : List THand) (x : THand) => [encLTHand l, encTHand x]) x.1 x.2) u_).map nz = ((fun x => (fun (l : List THand) (x : THand) => [encLTHand l, encTHand x]) x.1 x.2) v_).map nz → u_ = v_ := by
  intro u_ v_ h
  obtain ⟨l, ⟨x_Thing, x_Holder, x_Who, x_At, x_Seal⟩⟩ := u_
  obtain ⟨l', ⟨x_Thing', x_Holder', x_Who', x_At', x_Seal'⟩⟩ := v_
  simp [nz_lit, nz1_lit, nz_agg, nz_sl, nz1_sl, encLTHand, encTHand] at h
  first | (simp [h]; done) | (obtain ⟨⟩ := h; simp_all; done) | simp_all
@[simp] theorem c50f_fn (l : List THand) (x_Thing : Int) (x_Holder : Int) (x_Who : Int) (x_At : Int) (x_Seal : Int) : c50f.fn [.sl false 5 yTHand (ML encTHand l), .agg [.lit (.int .i64 x_Thing), .lit (.int .i64 x_Holder), .lit (.int .i64 x_Who), .lit (.int .i64 x_At), .lit (.int .i64 x_Seal)]] [] = some ((fun (l : List THand) (x : THand) => l.length ≤ 1073741823) l ⟨x_Thing, x_Holder, x_Who, x_At, x_Seal⟩, (fun (l : List THand) (x : THand) => (.tup [.sl false 5 yTHand (ML encTHand (mAddHand l x)), dB (mIsChain (l ++ [mAddH l x]))] : D)) l ⟨x_Thing, x_Holder, x_Who, x_At, x_Seal⟩, (fun (l : List THand) (x : THand) => []) l ⟨x_Thing, x_Holder, x_Who, x_At, x_Seal⟩) :=
  mkCon_fn (fun x y h _ => c50f_inj x y h) ((l, ⟨x_Thing, x_Holder, x_Who, x_At, x_Seal⟩) : (List THand) × THand) (by simp [nz, nz1, ML_nil, encLTHand, encTHand]) rfl
@[simp] theorem c50f_fn1 (s_l : Nat) (z_l : D) (x_Thing : Int) (x_Holder : Int) (x_Who : Int) (x_At : Int) (x_Seal : Int) : c50f.fn [.sl false s_l z_l [], .agg [.lit (.int .i64 x_Thing), .lit (.int .i64 x_Holder), .lit (.int .i64 x_Who), .lit (.int .i64 x_At), .lit (.int .i64 x_Seal)]] [] = some ((fun (l : List THand) (x : THand) => l.length ≤ 1073741823) [] ⟨x_Thing, x_Holder, x_Who, x_At, x_Seal⟩, (fun (l : List THand) (x : THand) => (.tup [.sl false 5 yTHand (ML encTHand (mAddHand l x)), dB (mIsChain (l ++ [mAddH l x]))] : D)) [] ⟨x_Thing, x_Holder, x_Who, x_At, x_Seal⟩, (fun (l : List THand) (x : THand) => []) [] ⟨x_Thing, x_Holder, x_Who, x_At, x_Seal⟩) :=
  mkCon_fn (fun x y h _ => c50f_inj x y h) (([], ⟨x_Thing, x_Holder, x_Who, x_At, x_Seal⟩) : (List THand) × THand) (by simp [nz, nz1, ML_nil, encLTHand, encTHand]) rfl
theorem c50f_pc (l : List THand) (x : THand) (hpre : l.length ≤ 1073741823) : PCo Try.prog 50 [encLTHand l, encTHand x] (Tab.of []) (.tup [.sl false 5 yTHand (ML encTHand (mAddHand l x)), dB (mIsChain (l ++ [mAddH l x]))]) (Tab.of []) := by
  exact pco_frz2 (by simp) (c50_pc l x hpre)
theorem c50f_ok : c50f.ok Try.prog := mkCon_ok fun ⟨l, x⟩ hpre => c50f_pc l x hpre
/-- loop.example/g03007/impl.HandsOf -/
noncomputable def c55f : Con := mkCon 55 false (α := (List THand) × Int) (fun x => (fun (l : List THand) (k : Int) => [encLTHand l, dI k]) x.1 x.2) (fun _ => []) (fun x => (fun (l : List THand) (k : Int) => l.length ≤ 1073741823) x.1 x.2) (fun x => (fun (l : List THand) (k : Int) => (.sl false 5 yTHand (ML encTHand (mHands l k)) : D)) x.1 x.2) (fun x => (fun (l : List THand) (k : Int) => []) x.1 x.2)
@[simp] theorem c55f_f : c55f.f = 55 := rfl
@[simp] theorem c55f_own : c55f.own = false := rfl
theorem c55f_inj : ∀ u_ v_ : (List THand) × Int, ((fun x => (fun (l : List THand) (k : Int) => [encLTHand l, dI k]) x.1 x.2) u_).map nz = ((fun x => (fun (l : List THand) (k : Int) => [encLTHand l, dI k]) x.1 x.2) v_).map nz → u_ = v_ := by
  intro u_ v_ h
  obtain ⟨l, k⟩ := u_
  obtain ⟨l', k'⟩ := v_
  simp [nz_lit, nz1_lit, nz_agg, nz_sl, nz1_sl, encLTHand] at h
  first | (simp [h]; done) | (obtain ⟨⟩ := h; simp_all; done) | simp_all
@[simp] theorem c55f_fn (l : List THand) (k : Int) : c55f.fn [.sl false 5 yTHand (ML encTHand l), .lit (.int .i64 k)] [] = some ((fun (l : List THand) (k : Int) => l.length ≤ 1073741823) l k, (fun (l : List THand) (k : Int) => (.sl false 5 yTHand (ML encTHand (mHands l k)) : D)) l k, (fun (l : List THand) (k : Int) => []) l k) :=
  mkCon_fn (fun x y h _ => c55f_inj x y h) ((l, k) : (List THand) × Int) (by simp [nz, nz1, ML_nil, encLTHand]) rfl
@[simp] theorem c55f_fn1 (s_l : Nat) (z_l : D) (k : Int) : c55f.fn [.sl false s_l z_l [], .lit (.int .i64 k)] [] = some ((fun (l : List THand) (k : Int) => l.length ≤ 1073741823) [] k, (fun (l : List THand) (k : Int) => (.sl false 5 yTHand (ML encTHand (mHands l k)) : D)) [] k, (fun (l : List THand) (k : Int) => []) [] k) :=
  mkCon_fn (fun x y h _ => c55f_inj x y h) (([], k) : (List THand) × Int) (by simp [nz, nz1, ML_nil, encLTHand]) rfl
theorem c55f_pc (l : List THand) (k : Int) (hpre : l.length ≤ 1073741823) : PCo Try.prog 55 [encLTHand l, dI k] (Tab.of []) (.sl false 5 yTHand (ML encTHand (mHands l k))) (Tab.of []) := by
  exact pco_frz1 (by simp) (c55_pc l k hpre)
theorem c55f_ok : c55f.ok Try.prog := mkCon_ok fun ⟨l, k⟩ hpre => c55f_pc l k hpre
/-- loop.example/g03007/impl.InHouse -/
noncomputable def c57f : Con := mkCon 57 false (α := (List THand) × Int) (fun x => (fun (l : List THand) (h : Int) => [encLTHand l, dI h]) x.1 x.2) (fun _ => []) (fun x => (fun (l : List THand) (h : Int) => l.length ≤ 1073741823) x.1 x.2) (fun x => (fun (l : List THand) (h : Int) => (encLI (mInHouse l h) : D)) x.1 x.2) (fun x => (fun (l : List THand) (h : Int) => []) x.1 x.2)
@[simp] theorem c57f_f : c57f.f = 57 := rfl
@[simp] theorem c57f_own : c57f.own = false := rfl
theorem c57f_inj : ∀ u_ v_ : (List THand) × Int, ((fun x => (fun (l : List THand) (h : Int) => [encLTHand l, dI h]) x.1 x.2) u_).map nz = ((fun x => (fun (l : List THand) (h : Int) => [encLTHand l, dI h]) x.1 x.2) v_).map nz → u_ = v_ := by
  intro u_ v_ h
  obtain ⟨l, h⟩ := u_
  obtain ⟨l', h'⟩ := v_
  simp [nz_lit, nz1_lit, nz_agg, nz_sl, nz1_sl, encLTHand] at h
  first | (simp [h]; done) | (obtain ⟨⟩ := h; simp_all; done) | simp_all
@[simp] theorem c57f_fn (l : List THand) (h : Int) : c57f.fn [.sl false 5 yTHand (ML encTHand l), .lit (.int .i64 h)] [] = some ((fun (l : List THand) (h : Int) => l.length ≤ 1073741823) l h, (fun (l : List THand) (h : Int) => (encLI (mInHouse l h) : D)) l h, (fun (l : List THand) (h : Int) => []) l h) :=
  mkCon_fn (fun x y h _ => c57f_inj x y h) ((l, h) : (List THand) × Int) (by simp [nz, nz1, ML_nil, encLTHand]) rfl
@[simp] theorem c57f_fn1 (s_l : Nat) (z_l : D) (h : Int) : c57f.fn [.sl false s_l z_l [], .lit (.int .i64 h)] [] = some ((fun (l : List THand) (h : Int) => l.length ≤ 1073741823) [] h, (fun (l : List THand) (h : Int) => (encLI (mInHouse l h) : D)) [] h, (fun (l : List THand) (h : Int) => []) [] h) :=
  mkCon_fn (fun x y h _ => c57f_inj x y h) (([], h) : (List THand) × Int) (by simp [nz, nz1, ML_nil, encLTHand]) rfl
theorem c57f_pc (l : List THand) (h : Int) (hpre : l.length ≤ 1073741823) : PCo Try.prog 57 [encLTHand l, dI h] (Tab.of []) (encLI (mInHouse l h)) (Tab.of []) := by
  exact pco_frz1 (by simp) (c57_pc l h hpre)
theorem c57f_ok : c57f.ok Try.prog := mkCon_ok fun ⟨l, h⟩ hpre => c57f_pc l h hpre
/-- loop.example/g03007/laws.FnCustody -/
theorem law7 (l : List Int) (wl : wfLU l) : PCo Try.prog 7 [encLU l] (Tab.of []) (dB true) (Tab.of []) := by
  refine pco_of_run [] (E := ⟨[c9, c20, c49, c50f, c51, c52, c53, c54, c55f, c56, c57f], [], []⟩) (m := false) (base := 0) (Env.ok_cons c9_ok (Env.ok_cons c20_ok (Env.ok_cons c49_ok (Env.ok_cons c50f_ok (Env.ok_cons c51_ok (Env.ok_cons c52_ok (Env.ok_cons c53_ok (Env.ok_cons c54_ok (Env.ok_cons c55f_ok (Env.ok_cons c56_ok (Env.ok_cons c57f_ok Env.ok_nil))))))))))) G_ok mix 400 6 Try.func7 (by kernel_rfl) rfl (by kernel_rfl) (by kernel_rfl) rfl ?_
  have hl : l.length ≤ maxLen := wl.1
  by_cases hbig : 1048576 < l.length
  · simp [Try.f7, hbig]
  · have hp : l.length ≤ 2097152 := by omega
    have b1 := v49_ok l hp
    have b2 := v54_ok l hp
    have b3 := v56_ok l hp
    have h1 := c49_fn l
    have h2 := c54_fn l
    have h3 := c56_fn l
    generalize v49 l = X at *
    generalize v54 l = Y at *
    generalize v56 l = Z at *
    obtain ⟨L, x⟩ := X
    obtain ⟨A, k, hr⟩ := Y
    obtain ⟨B, ho⟩ := Z
    simp only at b1 b2 b3 h1 h2 h3
    have fA : hoA (mHold A k hr) = 0 ∨ (¬ mHands A k = [] ∧ mIsChain A = true) := by
      by_cases h : hoA (mHold A k hr) = 0
      · exact .inl h
      · obtain ⟨q1, q2⟩ := hold_some h
        exact .inr ⟨List.length_pos_iff.1 q2, q1⟩
    have hml := mHands_len A k
    have hmi := mInHouse_len B ho
    have hin : ∀ p, p < (mInHouse B ho).length → hoA (mHold B ((mInHouse B ho)[p]?.getD 0) 100000) = 2 ∧ hoB (mHold B ((mInHouse B ho)[p]?.getD 0) 100000) = ho := fun p h => in_has (getD_mem h)
    have has := in_asc B ho
    generalize hI : mInHouse B ho = I at *
    cases hk : mIsChain (L ++ [mAddH L x]) with
    | true =>
      have e1 := mAddHand_yes hk
      have hh := hold_last hk
      have hn := fun h3 : 3 ≤ x.Holder => no_more (l := L) h3 1
      have hs := seal_new (l := L) (x := x)
      have hy1 : ((L ++ [mAddH L x]).length : Int) = (L.length : Int) + 1 := by simp
      have hy2 : (L ++ [mAddH L x])[L.length]?.getD default = mAddH L x := by simp
      have m1 : (mAddH L x).Holder = x.Holder := rfl
      have m2 : (mAddH L x).Who = x.Who := rfl
      generalize hyE : L ++ [mAddH L x] = y at *
      generalize hmE : mAddH L x = m at *
      by_cases hge : 3 ≤ x.Holder
      · have hn := hn hge
        simp (config := {maxSteps := 3000000}) [Try.f7, hbig, h1, h2, h3, -c49_fn, -c54_fn, -c56_fn, hyE, hmE, hI, hk, e1, hh, hge, hn, hy1, hy2, m1, m2]
        repeat' (with_reducible first | apply And.intro | intro _)
        all_goals try (first | omega | assumption | (simp; done) | (simp only [below_eq, Int.reduceLT]; omega))
        all_goals try (rcases fA with fA | fA <;> first | exact absurd fA (by assumption) | exact fA.1 | exact fA.2)
        all_goals try (intro e; have q := hs (by simp [e]); omega)
        refine loop_inv (fun p : Nat => p ≤ I.length) (fun p => [(16, encLTHand B), (17, dI ho), (18, encLI I), (19, dI p)]) (fun _ => []) 1 (fun p => I.length - p) 0 400 (by simp) (by simp) (by simp) ?_
        intro p hpI
        by_cases hlt : p < I.length
        · obtain ⟨q1, q2⟩ := hin p hlt
          simp (config := {maxSteps := 3000000}) [q1, q2]
          repeat' (with_reducible first | apply And.intro | intro _)
          all_goals try (first | omega | assumption | (simp; done) | (simp only [below_eq, Int.reduceLT]; omega))
          all_goals first | exact Again.mk (p + 1) (by omega) (by simp) (by first | omega | (simp; omega)) | trace_state
        · simp (config := {maxSteps := 3000000}) [hlt, has]
          repeat' (with_reducible first | apply And.intro | intro _)
          all_goals try (first | omega | assumption | (simp; done) | (simp only [below_eq, Int.reduceLT]; omega))
          all_goals first | exact has | trace_state
      · simp (config := {maxSteps := 3000000}) [Try.f7, hbig, h1, h2, h3, -c49_fn, -c54_fn, -c56_fn, hyE, hmE, hI, hk, e1, hh, hge, hy1, hy2, m1, m2]
        repeat' (with_reducible first | apply And.intro | intro _)
        all_goals try (first | omega | assumption | (simp; done) | (simp only [below_eq, Int.reduceLT]; omega))
        all_goals try (rcases fA with fA | fA <;> first | exact absurd fA (by assumption) | exact fA.1 | exact fA.2)
        all_goals try (intro e; have q := hs (by simp [e]); omega)
        refine loop_inv (fun p : Nat => p ≤ I.length) (fun p => [(16, encLTHand B), (17, dI ho), (18, encLI I), (19, dI p)]) (fun _ => []) 1 (fun p => I.length - p) 0 400 (by simp) (by simp) (by simp) ?_
        intro p hpI
        by_cases hlt : p < I.length
        · obtain ⟨q1, q2⟩ := hin p hlt
          simp (config := {maxSteps := 3000000}) [q1, q2]
          repeat' (with_reducible first | apply And.intro | intro _)
          all_goals try (first | omega | assumption | (simp; done) | (simp only [below_eq, Int.reduceLT]; omega))
          all_goals first | exact Again.mk (p + 1) (by omega) (by simp) (by first | omega | (simp; omega)) | trace_state
        · simp (config := {maxSteps := 3000000}) [hlt, has]
          repeat' (with_reducible first | apply And.intro | intro _)
          all_goals try (first | omega | assumption | (simp; done) | (simp only [below_eq, Int.reduceLT]; omega))
          all_goals first | exact has | trace_state
    | false =>
      have e1 := mAddHand_no hk
      simp (config := {maxSteps := 3000000}) [Try.f7, hbig, h1, h2, h3, -c49_fn, -c54_fn, -c56_fn, hI, hk, e1]
      repeat' (with_reducible first | apply And.intro | intro _)
      all_goals try (first | omega | assumption | (simp; done) | (simp only [below_eq, Int.reduceLT]; omega))
      all_goals try (rcases fA with fA | fA <;> first | exact absurd fA (by assumption) | exact fA.1 | exact fA.2)
      refine loop_inv (fun p : Nat => p ≤ I.length) (fun p => [(16, encLTHand B), (17, dI ho), (18, encLI I), (19, dI p)]) (fun _ => []) 1 (fun p => I.length - p) 0 400 (by simp) (by simp) (by simp) ?_
      intro p hpI
      by_cases hlt : p < I.length
      · obtain ⟨q1, q2⟩ := hin p hlt
        simp (config := {maxSteps := 3000000}) [q1, q2]
        repeat' (with_reducible first | apply And.intro | intro _)
        all_goals try (first | omega | assumption | (simp; done) | (simp only [below_eq, Int.reduceLT]; omega))
        all_goals first | exact Again.mk (p + 1) (by omega) (by simp) (by first | omega | (simp; omega)) | trace_state
      · simp (config := {maxSteps := 3000000}) [hlt, has]
        repeat' (with_reducible first | apply And.intro | intro _)
        all_goals try (first | omega | assumption | (simp; done) | (simp only [below_eq, Int.reduceLT]; omega))
        all_goals first | exact has | trace_state
theorem law7_pc (D0 : D) (h0 : Sh G 9 22 D0) : PC Try.prog 7 [D0] (dB true) [] := by
  obtain ⟨l, rfl, wl⟩ := sh22 (n := 7) h0
  exact law7 l wl

end Go.Proofs.Ytpnfkjbnhholfaa
