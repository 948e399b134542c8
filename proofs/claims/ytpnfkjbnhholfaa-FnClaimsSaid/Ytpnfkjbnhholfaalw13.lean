/- Contracts of the functions that the laws run. -/
import Derived.Test.YtpnfkjbnhholfaaEngB
import Derived.Test.YtpnfkjbnhholfaaEngB
import Derived.Test.YtpnfkjbnhholfaaEngB
import Derived.Test.Ytpnfkjbnhholfaadr13
import Derived.Test.Ytpnfkjbnhholfaalawx
import Derived.Test.YtpnfkjbnhholfaaEngB
namespace Go.Proofs.Ytpnfkjbnhholfaa
open Go Go.Eng
set_option linter.unusedSimpArgs false
set_option linter.unusedVariables false
set_option maxRecDepth 10000
set_option maxHeartbeats 1000000
theorem indexBy_nums {α : Type} {num : α → Int} {n : Int} : ∀ {l l' : List α} (i : Int), l.map num = l'.map num → indexBy (wantN num n) i l = indexBy (wantN num n) i l'
  | [], [], _, _ => rfl
  | [], _ :: _, _, h => by simp at h
  | _ :: _, [], _, h => by simp at h
  | x :: l, y :: l', i, h => by
    simp only [List.map_cons, List.cons.injEq] at h
    simp only [indexBy]
    have e : wantN num n x = wantN num n y := by simp only [wantN, h.1]
    rw [e, indexBy_nums (i + 1) h.2]
theorem setS_nums {l : List TClaim} {k : Nat} {st : Int} : (setS l k st).map nClaim = l.map nClaim := by
  apply List.ext_getElem
  · simp [setS]
  · intro i h1 h2
    simp only [setS, List.getElem_map, List.getElem_set]
    split
    · rename_i e; subst e
      simp at h2
      simp [List.getElem?_eq_getElem h2]
    · rfl
theorem insC_mem (l : List TClaim) (x : TClaim) : x ∈ insC l x := by simp [insC]
theorem okAdd_of {l : List TClaim} {x : TClaim} (h : okAdd l x = true) : mAddClaim l x = insC l x ∧ mAreClaims (insC l x) = true := by
  refine ⟨by rw [mAddClaim, if_pos h], ?_⟩
  simp only [okAdd, Bool.and_eq_true] at h
  exact h.2
theorem again_no {l : List TClaim} {x : TClaim} (i : Int) : okAdd (insC l x) ⟨i, x.Who, x.Thing, x.At, 0⟩ = false := by
  have : (insC l x).any (pairIs x.Thing x.Who) = true := List.any_eq_true.2 ⟨x, insC_mem l x, by simp [pairIs]⟩
  simp [okAdd, this]
theorem claims_asc {l : List TClaim} (h : mAreClaims l = true) : ascBy mIsClaim nClaim none l = true := by
  simp only [mAreClaims, Bool.and_eq_true] at h
  exact h.1.2
theorem find_of {l : List TClaim} {x : TClaim} (h : mAreClaims l = true) (hx : x ∈ l) : 0 ≤ mFindClaim l x.Id ∧ mFindClaim l x.Id < l.length ∧ l[(mFindClaim l x.Id).toNat]?.getD default = x :=
  index_uniq (claims_asc h) hx
theorem okSet_of {l : List TClaim} {n st : Int} (h : okSet l n st = true) : mSetState l n st = setS l (mFindClaim l n).toNat st ∧ mAreClaims (setS l (mFindClaim l n).toNat st) = true ∧ 0 ≤ mFindClaim l n ∧ mFindClaim l n < l.length ∧ mFindClaim (setS l (mFindClaim l n).toNat st) n = mFindClaim l n ∧
    ((setS l (mFindClaim l n).toNat st)[(mFindClaim l n).toNat]?.getD default).State = st ∧ ¬ (l[(mFindClaim l n).toNat]?.getD default).State = 3 ∧ ¬ (l[(mFindClaim l n).toNat]?.getD default).State = 2 := by
  have h0 := h
  simp only [okSet, Bool.and_eq_true, decide_eq_true_eq] at h
  obtain ⟨h1, h2, h3, h4⟩ := h
  have hb := indexBy_bd (want := wantN nClaim n) l 0
  have hb2 : mFindClaim l n < l.length := by
    simp only [mFindClaim] at h1 ⊢; omega
  refine ⟨by rw [mSetState, if_pos h0], h4, h1, hb2, indexBy_nums 0 setS_nums, ?_, ?_, ?_⟩
  · have : (mFindClaim l n).toNat < l.length := by omega
    simp [setS, this]
  · intro e; rw [e] at h3; simp [nextOk] at h3
  · intro e; rw [e] at h3; simp [nextOk] at h3
theorem fold_first : ∀ (l : List TClaim) (o : Option TClaim) {x : TClaim}, l.foldl stepP o = some x → ((x ∈ l ∧ stateIs 1 x = true) ∨ o = some x) ∧ (∀ y ∈ l, stateIs 1 y = true → x.At ≤ y.At) ∧ ∀ z, o = some z → x.At ≤ z.At
  | [], o, x, h => by
    simp only [List.foldl_nil] at h
    subst h
    exact ⟨.inr rfl, by simp, fun z hz => by cases hz; omega⟩
  | y :: l, o, x, h => by
    simp only [List.foldl_cons] at h
    obtain ⟨h1, h2, h3⟩ := fold_first l (stepP o y) h
    by_cases hs : stateIs 1 y = true
    · cases o with
      | none =>
        have e : stepP none y = some y := by simp [stepP, hs]
        rw [e] at h1 h3
        refine ⟨.inl ?_, fun z hz hz1 => ?_, fun z hz => by cases hz⟩
        · rcases h1 with h1 | h1
          · exact ⟨by simp [h1.1], h1.2⟩
          · cases h1; exact ⟨by simp, hs⟩
        · rcases List.mem_cons.1 hz with rfl | hz
          · exact h3 _ rfl
          · exact h2 z hz hz1
      | some q =>
        by_cases hlt : y.At < q.At
        · have e : stepP (some q) y = some y := by simp [stepP, hs, hlt]
          rw [e] at h1 h3
          refine ⟨.inl ?_, fun z hz hz1 => ?_, fun z hz => ?_⟩
          · rcases h1 with h1 | h1
            · exact ⟨by simp [h1.1], h1.2⟩
            · cases h1; exact ⟨by simp, hs⟩
          · rcases List.mem_cons.1 hz with rfl | hz
            · exact h3 _ rfl
            · exact h2 z hz hz1
          · cases hz; have := h3 _ rfl; omega
        · have e : stepP (some q) y = some q := by simp [stepP, hs, hlt]
          rw [e] at h1 h3
          refine ⟨?_, fun z hz hz1 => ?_, fun z hz => ?_⟩
          · rcases h1 with h1 | h1
            · exact .inl ⟨by simp [h1.1], h1.2⟩
            · exact .inr h1
          · rcases List.mem_cons.1 hz with rfl | hz
            · have := h3 _ rfl; omega
            · exact h2 z hz hz1
          · cases hz; exact h3 _ rfl
    · have e : stepP o y = o := by simp [stepP, hs]
      rw [e] at h1 h3
      refine ⟨?_, fun z hz hz1 => ?_, h3⟩
      · rcases h1 with h1 | h1
        · exact .inl ⟨by simp [h1.1], h1.2⟩
        · exact .inr h1
      · rcases List.mem_cons.1 hz with rfl | hz
        · exact absurd hz1 hs
        · exact h2 z hz hz1
theorem first_least {l : List TClaim} {k : Int} (h : ¬ mFirst l k = 0) (ha : mAreClaims l = true) : 0 ≤ mFindClaim l (mFirst l k) ∧ mFindClaim l (mFirst l k) < l.length ∧ ∀ y ∈ l, y.Thing = k → y.State = 1 → (l[(mFindClaim l (mFirst l k)).toNat]?.getD default).At ≤ y.At := by
  cases hf : firstC l k with
  | none => exact absurd (by simp [mFirst, hf]) h
  | some x =>
    have hx : mFirst l k = x.Id := by simp [mFirst, hf]
    obtain ⟨h1, h2, _⟩ := fold_first _ _ hf
    have hm : x ∈ l := by
      rcases h1 with h1 | h1
      · exact (List.mem_filter.1 h1.1).1
      · cases h1
    obtain ⟨g1, g2, g3⟩ := find_of ha hm
    rw [hx, g3]
    refine ⟨g1, g2, fun y hy hk hs => h2 y (List.mem_filter.2 ⟨hy, by simp [thIs, kTh, hk]⟩) (by simp [stateIs, hs])⟩
/-- loop.example/g03007/impl.AddClaim -/
noncomputable def c32f : Con := mkCon 32 false (α := (List TClaim) × TClaim) (fun x => (fun (l : List TClaim) (x : TClaim) => [encLTClaim l, encTClaim x]) x.1 x.2) (fun _ => []) (fun x => (fun (l : List TClaim) (x : TClaim) => l.length ≤ 1073741000) x.1 x.2) (fun x => (fun (l : List TClaim) (x : TClaim) => (.tup [.sl false 5 yTClaim (ML encTClaim (mAddClaim l x)), dB (okAdd l x)] : D)) x.1 x.2) (fun x => (fun (l : List TClaim) (x : TClaim) => []) x.1 x.2)
@[simp] theorem c32f_f : c32f.f = 32 := rfl
@[simp] theorem c32f_own : c32f.own = false := rfl
theorem c32f_inj : ∀ u_ v_ : (List TClaim) × TClaim, ((fun x => (fun (l : List TClaim) (x : TClaim) => [encLTClaim l, encTClaim x]) x.1 x.2) u_).map nz = ((fun x => (fun (l : List TClaim) (x : TClaim) => [encLTClaim l, encTClaim x]) x.1 x.2) v_).map nz → u_ = v_ := by
  intro u_ v_ h
  obtain ⟨l, ⟨x_Id, x_Who, x_Thing, x_At, x_State⟩⟩ := u_
  obtain ⟨l', ⟨x_Id', x_Who', x_Thing', x_At', x_State'⟩⟩ := v_
  simp [nz_lit, nz1_lit, nz_agg, nz_sl, nz1_sl, encLTClaim, encTClaim] at h
  first | (simp [h]; done) | (obtain ⟨⟩ := h; simp_all; done) | simp_all
@[simp] theorem c32f_fn (l : List TClaim) (x_Id : Int) (x_Who : Int) (x_Thing : Int) (x_At : Int) (x_State : Int) : c32f.fn [.sl false 5 yTClaim (ML encTClaim l), .agg [.lit (.int .i64 x_Id), .lit (.int .i64 x_Who), .lit (.int .i64 x_Thing), .lit (.int .i64 x_At), .lit (.int .i64 x_State)]] [] = some ((fun (l : List TClaim) (x : TClaim) => l.length ≤ 1073741000) l ⟨x_Id, x_Who, x_Thing, x_At, x_State⟩, (fun (l : List TClaim) (x : TClaim) => (.tup [.sl false 5 yTClaim (ML encTClaim (mAddClaim l x)), dB (okAdd l x)] : D)) l ⟨x_Id, x_Who, x_Thing, x_At, x_State⟩, (fun (l : List TClaim) (x : TClaim) => []) l ⟨x_Id, x_Who, x_Thing, x_At, x_State⟩) :=
  mkCon_fn (fun x y h _ => c32f_inj x y h) ((l, ⟨x_Id, x_Who, x_Thing, x_At, x_State⟩) : (List TClaim) × TClaim) (by simp [nz, nz1, ML_nil, encLTClaim, encTClaim]) rfl
@[simp] theorem c32f_fn1 (s_l : Nat) (z_l : D) (x_Id : Int) (x_Who : Int) (x_Thing : Int) (x_At : Int) (x_State : Int) : c32f.fn [.sl false s_l z_l [], .agg [.lit (.int .i64 x_Id), .lit (.int .i64 x_Who), .lit (.int .i64 x_Thing), .lit (.int .i64 x_At), .lit (.int .i64 x_State)]] [] = some ((fun (l : List TClaim) (x : TClaim) => l.length ≤ 1073741000) [] ⟨x_Id, x_Who, x_Thing, x_At, x_State⟩, (fun (l : List TClaim) (x : TClaim) => (.tup [.sl false 5 yTClaim (ML encTClaim (mAddClaim l x)), dB (okAdd l x)] : D)) [] ⟨x_Id, x_Who, x_Thing, x_At, x_State⟩, (fun (l : List TClaim) (x : TClaim) => []) [] ⟨x_Id, x_Who, x_Thing, x_At, x_State⟩) :=
  mkCon_fn (fun x y h _ => c32f_inj x y h) (([], ⟨x_Id, x_Who, x_Thing, x_At, x_State⟩) : (List TClaim) × TClaim) (by simp [nz, nz1, ML_nil, encLTClaim, encTClaim]) rfl
theorem c32f_pc (l : List TClaim) (x : TClaim) (hpre : l.length ≤ 1073741000) : PCo Try.prog 32 [encLTClaim l, encTClaim x] (Tab.of []) (.tup [.sl false 5 yTClaim (ML encTClaim (mAddClaim l x)), dB (okAdd l x)]) (Tab.of []) := by
  exact pco_frz2 (by simp) (c32_pc l x hpre)
theorem c32f_ok : c32f.ok Try.prog := mkCon_ok fun ⟨l, x⟩ hpre => c32f_pc l x hpre
/-- loop.example/g03007/impl.SetState -/
noncomputable def c37f : Con := mkCon 37 false (α := (List TClaim) × Int × Int) (fun x => (fun (l : List TClaim) (n : Int) (st : Int) => [encLTClaim l, dI n, dI st]) x.1 x.2.1 x.2.2) (fun _ => []) (fun x => (fun (l : List TClaim) (n : Int) (st : Int) => l.length ≤ 1073741000) x.1 x.2.1 x.2.2) (fun x => (fun (l : List TClaim) (n : Int) (st : Int) => (.tup [.sl false 5 yTClaim (ML encTClaim (mSetState l n st)), dB (okSet l n st)] : D)) x.1 x.2.1 x.2.2) (fun x => (fun (l : List TClaim) (n : Int) (st : Int) => []) x.1 x.2.1 x.2.2)
@[simp] theorem c37f_f : c37f.f = 37 := rfl
@[simp] theorem c37f_own : c37f.own = false := rfl
theorem c37f_inj : ∀ u_ v_ : (List TClaim) × Int × Int, ((fun x => (fun (l : List TClaim) (n : Int) (st : Int) => [encLTClaim l, dI n, dI st]) x.1 x.2.1 x.2.2) u_).map nz = ((fun x => (fun (l : List TClaim) (n : Int) (st : Int) => [encLTClaim l, dI n, dI st]) x.1 x.2.1 x.2.2) v_).map nz → u_ = v_ := by
  intro u_ v_ h
  obtain ⟨l, n, st⟩ := u_
  obtain ⟨l', n', st'⟩ := v_
  simp [nz_lit, nz1_lit, nz_agg, nz_sl, nz1_sl, encLTClaim] at h
  first | (simp [h]; done) | (obtain ⟨⟩ := h; simp_all; done) | simp_all
@[simp] theorem c37f_fn (l : List TClaim) (n : Int) (st : Int) : c37f.fn [.sl false 5 yTClaim (ML encTClaim l), .lit (.int .i64 n), .lit (.int .i64 st)] [] = some ((fun (l : List TClaim) (n : Int) (st : Int) => l.length ≤ 1073741000) l n st, (fun (l : List TClaim) (n : Int) (st : Int) => (.tup [.sl false 5 yTClaim (ML encTClaim (mSetState l n st)), dB (okSet l n st)] : D)) l n st, (fun (l : List TClaim) (n : Int) (st : Int) => []) l n st) :=
  mkCon_fn (fun x y h _ => c37f_inj x y h) ((l, n, st) : (List TClaim) × Int × Int) (by simp [nz, nz1, ML_nil, encLTClaim]) rfl
@[simp] theorem c37f_fn1 (s_l : Nat) (z_l : D) (n : Int) (st : Int) : c37f.fn [.sl false s_l z_l [], .lit (.int .i64 n), .lit (.int .i64 st)] [] = some ((fun (l : List TClaim) (n : Int) (st : Int) => l.length ≤ 1073741000) [] n st, (fun (l : List TClaim) (n : Int) (st : Int) => (.tup [.sl false 5 yTClaim (ML encTClaim (mSetState l n st)), dB (okSet l n st)] : D)) [] n st, (fun (l : List TClaim) (n : Int) (st : Int) => []) [] n st) :=
  mkCon_fn (fun x y h _ => c37f_inj x y h) (([], n, st) : (List TClaim) × Int × Int) (by simp [nz, nz1, ML_nil, encLTClaim]) rfl
theorem c37f_pc (l : List TClaim) (n : Int) (st : Int) (hpre : l.length ≤ 1073741000) : PCo Try.prog 37 [encLTClaim l, dI n, dI st] (Tab.of []) (.tup [.sl false 5 yTClaim (ML encTClaim (mSetState l n st)), dB (okSet l n st)]) (Tab.of []) := by
  exact pco_frz2 (by simp) (c37_pc l n st hpre)
theorem c37f_ok : c37f.ok Try.prog := mkCon_ok fun ⟨l, n, st⟩ hpre => c37f_pc l n st hpre
/-- loop.example/g03007/impl.ClaimsFor -/
noncomputable def c35f : Con := mkCon 35 false (α := (List TClaim) × Int) (fun x => (fun (l : List TClaim) (k : Int) => [encLTClaim l, dI k]) x.1 x.2) (fun _ => []) (fun x => (fun (l : List TClaim) (k : Int) => l.length ≤ 1073741823) x.1 x.2) (fun x => (fun (l : List TClaim) (k : Int) => (encLI (mClaimsFor l k) : D)) x.1 x.2) (fun x => (fun (l : List TClaim) (k : Int) => []) x.1 x.2)
@[simp] theorem c35f_f : c35f.f = 35 := rfl
@[simp] theorem c35f_own : c35f.own = false := rfl
theorem c35f_inj : ∀ u_ v_ : (List TClaim) × Int, ((fun x => (fun (l : List TClaim) (k : Int) => [encLTClaim l, dI k]) x.1 x.2) u_).map nz = ((fun x => (fun (l : List TClaim) (k : Int) => [encLTClaim l, dI k]) x.1 x.2) v_).map nz → u_ = v_ := by
  intro u_ v_ h
  obtain ⟨l, k⟩ := u_
  obtain ⟨l', k'⟩ := v_
  simp [nz_lit, nz1_lit, nz_agg, nz_sl, nz1_sl, encLTClaim] at h
  first | (simp [h]; done) | (obtain ⟨⟩ := h; simp_all; done) | simp_all
@[simp] theorem c35f_fn (l : List TClaim) (k : Int) : c35f.fn [.sl false 5 yTClaim (ML encTClaim l), .lit (.int .i64 k)] [] = some ((fun (l : List TClaim) (k : Int) => l.length ≤ 1073741823) l k, (fun (l : List TClaim) (k : Int) => (encLI (mClaimsFor l k) : D)) l k, (fun (l : List TClaim) (k : Int) => []) l k) :=
  mkCon_fn (fun x y h _ => c35f_inj x y h) ((l, k) : (List TClaim) × Int) (by simp [nz, nz1, ML_nil, encLTClaim]) rfl
@[simp] theorem c35f_fn1 (s_l : Nat) (z_l : D) (k : Int) : c35f.fn [.sl false s_l z_l [], .lit (.int .i64 k)] [] = some ((fun (l : List TClaim) (k : Int) => l.length ≤ 1073741823) [] k, (fun (l : List TClaim) (k : Int) => (encLI (mClaimsFor l k) : D)) [] k, (fun (l : List TClaim) (k : Int) => []) [] k) :=
  mkCon_fn (fun x y h _ => c35f_inj x y h) (([], k) : (List TClaim) × Int) (by simp [nz, nz1, ML_nil, encLTClaim]) rfl
theorem c35f_pc (l : List TClaim) (k : Int) (hpre : l.length ≤ 1073741823) : PCo Try.prog 35 [encLTClaim l, dI k] (Tab.of []) (encLI (mClaimsFor l k)) (Tab.of []) := by
  exact pco_frz1 (by simp) (c35_pc l k hpre)
theorem c35f_ok : c35f.ok Try.prog := mkCon_ok fun ⟨l, k⟩ hpre => c35f_pc l k hpre
/-- loop.example/g03007/laws.FnClaims -/
theorem law5 (l : List Int) (wl : wfLU l) : PCo Try.prog 5 [encLU l] (Tab.of []) (dB true) (Tab.of []) := by
  refine pco_of_run [7, 22] (E := ⟨[c9, c14, c31, c32f, c33, c34, c35f, c36, c37f, c38, c39, c40], [], []⟩) (m := false) (base := 0) (Env.ok_cons c9_ok (Env.ok_cons c14_ok (Env.ok_cons c31_ok (Env.ok_cons c32f_ok (Env.ok_cons c33_ok (Env.ok_cons c34_ok (Env.ok_cons c35f_ok (Env.ok_cons c36_ok (Env.ok_cons c37f_ok (Env.ok_cons c38_ok (Env.ok_cons c39_ok (Env.ok_cons c40_ok Env.ok_nil)))))))))))) G_ok mix 400 6 Try.func5 (by kernel_rfl) rfl (by kernel_rfl) (by kernel_rfl) rfl ?_
  have hl : l.length ≤ maxLen := wl.1
  by_cases hbig : 1048576 < l.length
  · simp [Try.f5, hbig]
  · have hp : l.length ≤ 2097152 := by omega
    have b1 := v31_ok l hp
    have b2 := v36_ok l hp
    have b3 := v38_ok l hp
    have h1 := c31_fn l
    have h2 := c36_fn l
    have h3 := c38_fn l
    generalize v31 l = X at *
    generalize v36 l = Y at *
    generalize v38 l = Z at *
    obtain ⟨L, x⟩ := X
    obtain ⟨a, n, st⟩ := Y
    obtain ⟨C, k⟩ := Z
    simp only at b1 b2 b3 h1 h2 h3
    have hlen := insC_len L x
    have hg1 := again_no (l := L) (x := x) 998
    have hpk : (mClaimsFor (insC L x) x.Thing).length ≤ (insC L x).length := pick_len _
    have hml := mSetState_le a n st
    have fst : ¬ mFirst C k = 0 → mAreClaims C = true → 0 ≤ mFindClaim C (mFirst C k) ∧ mFindClaim C (mFirst C k) < C.length ∧ ∀ y ∈ C, y.Thing = k → y.State = 1 → (C[(mFindClaim C (mFirst C k)).toNat]?.getD default).At ≤ y.At := fun h1 h2 => first_least h1 h2
    cases hk : okAdd L x with
    | true =>
      obtain ⟨e1, e2⟩ := okAdd_of hk
      obtain ⟨f1, f2, f3⟩ := find_of e2 (insC_mem L x)
      have hc : mHas (mClaimsFor (insC L x) x.Thing) x.Id = true := pick_has (num := nClaim) (insC_mem L x) (by simp [thIs, kTh])
      have hlz : ((insC L x).length : Int) = (L.length : Int) + 1 := by omega
      cases hs : okSet a n st with
      | true =>
        obtain ⟨s1, s2, s3, s4, s5, s6, s7, s8⟩ := okSet_of hs
        have s9 : (setS a (mFindClaim a n).toNat st).length = a.length := by simp [setS]
        simp (config := {maxSteps := 3000000}) [Try.f5, hbig, h1, h2, h3, -c31_fn, -c36_fn, -c38_fn, hk, e1, e2, hg1, f1, hc, hlz, hs, s1, s2, s3, s5, s6, s7, s8, s9]
        repeat' (with_reducible first | apply And.intro | intro _)
        all_goals try (first | omega | assumption | (simp; done) | (simp only [below_eq, Int.reduceLT]; omega))
        refine loop_inv (fun p : Nat => p ≤ C.length) (fun p => [(9, encLTClaim a), (12, encLTClaim (setS a (mFindClaim a n).toNat st)), (15, encLTClaim C), (16, dI k), (17, dI (mFirst C k)), (18, dI p)]) (fun _ => []) 1 (fun p => C.length - p) 0 400 (by simp) (by simp) (by simp) ?_
        intro p hpC
        simp
        repeat' (first | omega | refine And.intro ?_ ?_ | intro _)
        all_goals first | exact Again.mk (p + 1) (by omega) (by simp) (by first | omega | (simp; omega)) | exact (fst (by assumption) (by assumption)).1 | exact (fst (by assumption) (by assumption)).2.1 | (have q := fst (by assumption) (by assumption); omega) | (have q := (fst (by assumption) (by assumption)).2.2 _ (getD_mem (p := p) (d := default) (by omega)) (by assumption) (by assumption); omega) | assumption | trace_state
      | false =>
        have s1 : mSetState a n st = a := by rw [mSetState, if_neg (by simp [hs])]
        simp (config := {maxSteps := 3000000}) [Try.f5, hbig, h1, h2, h3, -c31_fn, -c36_fn, -c38_fn, hk, e1, e2, hg1, f1, hc, hlz, hs, s1]
        repeat' (with_reducible first | apply And.intro | intro _)
        all_goals try (first | omega | assumption | (simp; done) | (simp only [below_eq, Int.reduceLT]; omega))
        refine loop_inv (fun p : Nat => p ≤ C.length) (fun p => [(9, encLTClaim a), (12, encLTClaim a), (15, encLTClaim C), (16, dI k), (17, dI (mFirst C k)), (18, dI p)]) (fun _ => []) 1 (fun p => C.length - p) 0 400 (by simp) (by simp) (by simp) ?_
        intro p hpC
        simp
        repeat' (first | omega | refine And.intro ?_ ?_ | intro _)
        all_goals first | exact Again.mk (p + 1) (by omega) (by simp) (by first | omega | (simp; omega)) | exact (fst (by assumption) (by assumption)).1 | exact (fst (by assumption) (by assumption)).2.1 | (have q := fst (by assumption) (by assumption); omega) | (have q := (fst (by assumption) (by assumption)).2.2 _ (getD_mem (p := p) (d := default) (by omega)) (by assumption) (by assumption); omega) | assumption | trace_state
    | false =>
      have e1 : mAddClaim L x = L := by rw [mAddClaim, if_neg (by simp [hk])]
      cases hs : okSet a n st with
      | true =>
        obtain ⟨s1, s2, s3, s4, s5, s6, s7, s8⟩ := okSet_of hs
        have s9 : (setS a (mFindClaim a n).toNat st).length = a.length := by simp [setS]
        simp (config := {maxSteps := 3000000}) [Try.f5, hbig, h1, h2, h3, -c31_fn, -c36_fn, -c38_fn, hk, e1, hs, s1, s2, s3, s5, s6, s7, s8, s9]
        repeat' (with_reducible first | apply And.intro | intro _)
        all_goals try (first | omega | assumption | (simp; done) | (simp only [below_eq, Int.reduceLT]; omega))
        refine loop_inv (fun p : Nat => p ≤ C.length) (fun p => [(9, encLTClaim a), (12, encLTClaim (setS a (mFindClaim a n).toNat st)), (15, encLTClaim C), (16, dI k), (17, dI (mFirst C k)), (18, dI p)]) (fun _ => []) 1 (fun p => C.length - p) 0 400 (by simp) (by simp) (by simp) ?_
        intro p hpC
        simp
        repeat' (first | omega | refine And.intro ?_ ?_ | intro _)
        all_goals first | exact Again.mk (p + 1) (by omega) (by simp) (by first | omega | (simp; omega)) | exact (fst (by assumption) (by assumption)).1 | exact (fst (by assumption) (by assumption)).2.1 | (have q := fst (by assumption) (by assumption); omega) | (have q := (fst (by assumption) (by assumption)).2.2 _ (getD_mem (p := p) (d := default) (by omega)) (by assumption) (by assumption); omega) | assumption | trace_state
      | false =>
        have s1 : mSetState a n st = a := by rw [mSetState, if_neg (by simp [hs])]
        simp (config := {maxSteps := 3000000}) [Try.f5, hbig, h1, h2, h3, -c31_fn, -c36_fn, -c38_fn, hk, e1, hs, s1]
        repeat' (with_reducible first | apply And.intro | intro _)
        all_goals try (first | omega | assumption | (simp; done) | (simp only [below_eq, Int.reduceLT]; omega))
        refine loop_inv (fun p : Nat => p ≤ C.length) (fun p => [(9, encLTClaim a), (12, encLTClaim a), (15, encLTClaim C), (16, dI k), (17, dI (mFirst C k)), (18, dI p)]) (fun _ => []) 1 (fun p => C.length - p) 0 400 (by simp) (by simp) (by simp) ?_
        intro p hpC
        simp
        repeat' (first | omega | refine And.intro ?_ ?_ | intro _)
        all_goals first | exact Again.mk (p + 1) (by omega) (by simp) (by first | omega | (simp; omega)) | exact (fst (by assumption) (by assumption)).1 | exact (fst (by assumption) (by assumption)).2.1 | (have q := fst (by assumption) (by assumption); omega) | (have q := (fst (by assumption) (by assumption)).2.2 _ (getD_mem (p := p) (d := default) (by omega)) (by assumption) (by assumption); omega) | assumption | trace_state
theorem law5_pc (D0 : D) (h0 : Sh G 9 22 D0) : PC Try.prog 5 [D0] (dB true) [] := by
  obtain ⟨l, rfl, wl⟩ := sh22 (n := 7) h0
  exact law5 l wl

end Go.Proofs.Ytpnfkjbnhholfaa
