/- Contracts of the functions that the laws run. -/
import Derived.Test.Ytadbjlnfdjbbjaach32g
import Derived.Test.YtadbjlnfdjbbjaaEngB
namespace Go.Proofs.Ytadbjlnfdjbbjaa
open Go Go.Eng
set_option linter.unusedSimpArgs false
set_option linter.unusedVariables false
set_option maxRecDepth 10000
set_option maxHeartbeats 1000000
def stayF (now : Int) : List THand → Int → Int
  | [], _ => 0
  | x :: t, u => if now < x.At then stayF now t u else (if x.Holder = 2 then u - x.At else 0) + stayF now t x.At
def mStay (l : List THand) (k now : Int) : Int := if mIsChain l && mIn now 0 100000 then stayF now (l.filter (thH k)).reverse now else 0
theorem chain_asc : ∀ {r b : List THand}, chainB b r = true → (∀ y ∈ r, (lastH b).At ≤ y.At ∧ 0 ≤ y.At ∧ y.At ≤ 100000) ∧ r.Pairwise fun a c => a.At ≤ c.At
  | [], b, _ => by simp
  | x :: r, b, h => by
    simp only [chainB, Bool.and_eq_true, decide_eq_true_eq] at h
    obtain ⟨⟨⟨⟨h1, h2⟩, _⟩, _⟩, h5⟩ := h
    have ih := chain_asc h5
    have hl : lastH (b ++ [x]) = x := by rw [lastH, List.getLast?_concat]; rfl
    rw [hl] at ih
    have h6 := mIn_iff.1 (hand_ok.1 h1).2.2.2
    refine ⟨fun y hy => ?_, List.pairwise_cons.2 ⟨fun y hy => (ih.1 y hy).1, ih.2⟩⟩
    rcases List.mem_cons.1 hy with rfl | hy
    · exact ⟨h2, h6.1, h6.2⟩
    · have := ih.1 y hy; exact ⟨by omega, this.2⟩
/-- what is known of a thing's hands, the last one first -/
def rowOk (r : List THand) : Prop := (∀ x ∈ r, 0 ≤ x.At ∧ x.At ≤ 100000) ∧ r.Pairwise fun a c => c.At ≤ a.At
theorem chain_row {l : List THand} (h : mIsChain l = true) (k : Int) : rowOk (l.filter (thH k)).reverse ∧ (l.filter (thH k)).reverse.length ≤ 100 := by
  simp only [mIsChain, Bool.and_eq_true, decide_eq_true_eq] at h
  have hc := chain_asc h.2
  refine ⟨⟨fun x hx => ?_, ?_⟩, ?_⟩
  · rw [List.mem_reverse] at hx
    exact (hc.1 x (List.mem_filter.1 hx).1).2
  · rw [List.pairwise_reverse]; exact hc.2.filter _
  · rw [List.length_reverse]; exact Nat.le_trans (List.length_filter_le _ _) h.1
theorem rowOk_tail {x : THand} {u : List THand} (h : rowOk (x :: u)) : rowOk u := ⟨fun y hy => h.1 y (by simp [hy]), (List.pairwise_cons.1 h.2).2⟩
/-- loop.example/g03007/impl.StayHours -/
noncomputable def c92 : Con := mkCon 92 false (α := (List THand) × Int × Int) (fun x => (fun (l : List THand) (k : Int) (now : Int) => [encLTHand l, dI k, dI now]) x.1 x.2.1 x.2.2) (fun _ => []) (fun x => (fun (l : List THand) (k : Int) (now : Int) => l.length ≤ 1073741823) x.1 x.2.1 x.2.2) (fun x => (fun (l : List THand) (k : Int) (now : Int) => (dI (mStay l k now) : D)) x.1 x.2.1 x.2.2) (fun x => (fun (l : List THand) (k : Int) (now : Int) => []) x.1 x.2.1 x.2.2)
@[simp] theorem c92_f : c92.f = 92 := rfl
@[simp] theorem c92_own : c92.own = false := rfl
theorem c92_inj : ∀ u_ v_ : (List THand) × Int × Int, ((fun x => (fun (l : List THand) (k : Int) (now : Int) => [encLTHand l, dI k, dI now]) x.1 x.2.1 x.2.2) u_).map nz = ((fun x => (fun (l : List THand) (k : Int) (now : Int) => [encLTHand l, dI k, dI now]) x.1 x.2.1 x.2.2) v_).map nz → u_ = v_ := by
  intro u_ v_ h
  obtain ⟨l, k, now⟩ := u_
  obtain ⟨l', k', now'⟩ := v_
  simp [nz_lit, nz1_lit, nz_agg, nz_sl, nz1_sl, encLTHand] at h
  first | (simp [h]; done) | (obtain ⟨⟩ := h; simp_all; done) | simp_all
@[simp] theorem c92_fn (l : List THand) (k : Int) (now : Int) : c92.fn [.sl false 5 yTHand (ML encTHand l), .lit (.int .i64 k), .lit (.int .i64 now)] [] = some ((fun (l : List THand) (k : Int) (now : Int) => l.length ≤ 1073741823) l k now, (fun (l : List THand) (k : Int) (now : Int) => (dI (mStay l k now) : D)) l k now, (fun (l : List THand) (k : Int) (now : Int) => []) l k now) :=
  mkCon_fn (fun x y h _ => c92_inj x y h) ((l, k, now) : (List THand) × Int × Int) (by simp [nz, nz1, ML_nil, encLTHand]) rfl
@[simp] theorem c92_fn1 (s_l : Nat) (z_l : D) (k : Int) (now : Int) : c92.fn [.sl false s_l z_l [], .lit (.int .i64 k), .lit (.int .i64 now)] [] = some ((fun (l : List THand) (k : Int) (now : Int) => l.length ≤ 1073741823) [] k now, (fun (l : List THand) (k : Int) (now : Int) => (dI (mStay l k now) : D)) [] k now, (fun (l : List THand) (k : Int) (now : Int) => []) [] k now) :=
  mkCon_fn (fun x y h _ => c92_inj x y h) (([], k, now) : (List THand) × Int × Int) (by simp [nz, nz1, ML_nil, encLTHand]) rfl
theorem c92_pc (l : List THand) (k : Int) (now : Int) (hpre : l.length ≤ 1073741823) : PCo Try.prog 92 [encLTHand l, dI k, dI now] (Tab.of []) (dI (mStay l k now)) (Tab.of []) := by
  refine pco_of_run [] (E := ⟨[c47, c117, c147], []⟩) (m := false) (base := 0) (Env.ok_cons c47_ok (Env.ok_cons c117_ok (Env.ok_cons c147_ok Env.ok_nil))) G_ok mix 300 6 Try.func92 (by kernel_rfl) rfl (by kernel_rfl) (by kernel_rfl) rfl ?_
  cases hc : mIsChain l with
  | false =>
    have : mStay l k now = 0 := by simp [mStay, hc]
    rw [this]
    simp [Try.f92, hc]
    omega
  | true =>
    cases hn : mIn now 0 100000 with
    | false =>
      have : mStay l k now = 0 := by simp [mStay, hn]
      rw [this]
      simp [Try.f92, hc, hn]
      omega
    | true =>
      have hnow := mIn_iff.1 hn
      have hm : mStay l k now = stayF now (l.filter (thH k)).reverse now := by simp [mStay, hn, hc]
      rw [hm]
      have hl := look_link (bkH l) k
      rw [bkH_get] at hl
      obtain ⟨hrow, hlen⟩ := chain_row hc k
      generalize (l.filter (thH k)).reverse = r0 at hl hrow hlen ⊢
      cases r0 with
      | nil =>
        simp only [linkR_nil] at hl
        simp [Try.f92, hc, hn, hl]
        refine ⟨by omega, loop_unroll 400 ?_⟩
        simp [stayF]
      | cons y t =>
        simp only [linkR_cons] at hl
        simp [Try.f92, hc, hn, hl]
        refine ⟨by omega, ?_⟩
        generalize hT : stayF now (y :: t) now = T
        refine loop_inv (fun q : List THand × Int × Int => q.2.1 + stayF now q.1 q.2.2 = T ∧ rowOk q.1 ∧ q.1.length ≤ 100 ∧ (0 ≤ q.2.2 ∧ q.2.2 ≤ 100000) ∧ (-100000 * (100 - (q.1.length : Int)) ≤ q.2.1 ∧ q.2.1 ≤ 100000 * (100 - (q.1.length : Int)))) (fun q => [(2, dI now), (7, dI q.2.1), (8, dI q.2.2), (9, linkR q.1)]) (fun _ => []) 1 (fun q => q.1.length) (y :: t, 0, now) 400 (by simp) ⟨by simp [hT], hrow, hlen, hnow, by simp at hlen ⊢; omega, by simp at hlen ⊢; omega⟩ (by simp [linkR_cons]) ?_
        intro ⟨r, s, u⟩ ⟨h1, h2, h3, h4, h5⟩
        simp only at h1 h2 h3 h4 h5
        cases r with
        | nil =>
          simp only [stayF] at h1
          simp [linkR_nil]
          omega
        | cons x v =>
          have hx := h2.1 x (by simp)
          have hv := rowOk_tail h2
          simp only [List.length_cons] at h3 h5
          simp only [stayF] at h1
          cases v with
          | nil =>
            simp [linkR_cons, linkR_nil]
            refine ⟨fun h6 => ?_, fun h6 => ⟨fun h7 => ⟨⟨by omega, by omega⟩, ?_⟩, fun h7 => ?_⟩⟩
            · rw [if_pos h6] at h1
              exact Again.mk (([] : List THand), s, u) ⟨h1, hv, by simp at h3 ⊢ <;> omega, h4, by simp at h5 ⊢ <;> omega, by simp at h5 ⊢ <;> omega⟩ (by simp [linkR_cons, linkR_nil]) (by simp)
            · rw [if_neg (by omega), if_pos h7] at h1
              exact Again.mk (([] : List THand), s + (u - x.At), x.At) ⟨by simp only; omega, hv, by simp at h3 ⊢ <;> omega, hx, by simp at h5 ⊢ <;> omega, by simp at h5 ⊢ <;> omega⟩ (by simp [linkR_cons, linkR_nil]) (by simp)
            · rw [if_neg (by omega), if_neg h7] at h1
              exact Again.mk (([] : List THand), s, x.At) ⟨by simp only; omega, hv, by simp at h3 ⊢ <;> omega, hx, by simp at h5 ⊢ <;> omega, by simp at h5 ⊢ <;> omega⟩ (by simp [linkR_cons, linkR_nil]) (by simp)
          | cons z w =>
            simp [linkR_cons]
            refine ⟨fun h6 => ?_, fun h6 => ⟨fun h7 => ⟨⟨by omega, by omega⟩, ?_⟩, fun h7 => ?_⟩⟩
            · rw [if_pos h6] at h1
              exact Again.mk (z :: w, s, u) ⟨h1, hv, by simp at h3 ⊢ <;> omega, h4, by simp at h5 ⊢ <;> omega, by simp at h5 ⊢ <;> omega⟩ (by simp [linkR_cons]) (by simp)
            · rw [if_neg (by omega), if_pos h7] at h1
              exact Again.mk (z :: w, s + (u - x.At), x.At) ⟨by simp only; omega, hv, by simp at h3 ⊢ <;> omega, hx, by simp at h5 ⊢ <;> omega, by simp at h5 ⊢ <;> omega⟩ (by simp [linkR_cons]) (by simp)
            · rw [if_neg (by omega), if_neg h7] at h1
              exact Again.mk (z :: w, s, x.At) ⟨by simp only; omega, hv, by simp at h3 ⊢ <;> omega, hx, by simp at h5 ⊢ <;> omega, by simp at h5 ⊢ <;> omega⟩ (by simp [linkR_cons]) (by simp)
theorem c92_ok : c92.ok Try.prog := mkCon_ok fun ⟨l, k, now⟩ hpre => c92_pc l k now hpre
def specR (now : Int) : List THand → Int → Int
  | [], _ => 0
  | x :: t, e => (if x.Holder = 2 then max 0 (e - x.At) else 0) + specR now t (min now x.At)
theorem stay_spec {now : Int} : ∀ (r : List THand) (e : Int), e ≤ now → (e = now ∨ ∀ x ∈ r, x.At ≤ e) → (r.Pairwise fun a c => c.At ≤ a.At) → stayF now r e = specR now r e
  | [], _, _, _, _ => rfl
  | x :: t, e, h1, h2, h3 => by
    have hp := List.pairwise_cons.1 h3
    simp only [stayF, specR]
    by_cases h : now < x.At
    · have he : e = now := by
        rcases h2 with h2 | h2
        · exact h2
        · have := h2 x (by simp); omega
      subst he
      rw [if_pos h, stay_spec t e (by omega) (.inl rfl) hp.2, show min e x.At = e by omega]
      split <;> omega
    · have hx : x.At ≤ e := by
        rcases h2 with h2 | h2
        · omega
        · exact h2 x (by simp)
      rw [if_neg h, stay_spec t x.At (by omega) (.inr hp.1) hp.2, show min now x.At = x.At by omega, show max 0 (e - x.At) = e - x.At by omega]
def capH (now : Int) (h : List THand) (p : Nat) : Int := if p < h.length then min now (h[p]?.getD default).At else now
def stS (now : Int) (h : List THand) : Nat → Int
  | 0 => 0
  | p + 1 => stS now h p + if (h[p]?.getD default).Holder = 2 then max 0 (capH now h (p + 1) - (h[p]?.getD default).At) else 0
theorem stS_rev {now : Int} {h : List THand} : ∀ {p : Nat}, p ≤ h.length → stS now h p = specR now (h.take p).reverse (capH now h p)
  | 0, _ => rfl
  | p + 1, hp => by
    have ih := stS_rev (now := now) (h := h) (p := p) (by omega)
    rw [take_at (d := default) (by omega), List.reverse_append]
    have e : capH now h p = min now (h[p]?.getD default).At := by rw [capH, if_pos (by omega)]
    simp only [List.reverse_cons, List.reverse_nil, List.nil_append, List.singleton_append, specR, stS]
    rw [ih, e]; omega
theorem stS_bd {now : Int} {h : List THand} (hn : 0 ≤ now ∧ now ≤ 100000) (hh : ∀ x ∈ h, 0 ≤ x.At ∧ x.At ≤ 100000) : ∀ {p : Nat}, p ≤ h.length → 0 ≤ stS now h p ∧ stS now h p ≤ 100000 * p
  | 0, _ => by simp [stS]
  | p + 1, hp => by
    have ih := stS_bd hn hh (p := p) (by omega)
    have h2 := hh _ (getD_mem (d := default) (show p < h.length by omega))
    have h3 : capH now h (p + 1) ≤ 100000 := by simp only [capH]; split <;> omega
    simp only [stS]
    split <;> omega
theorem stS_yes1 {now : Int} {h : List THand} {p : Nat} (h1 : p + 1 < h.length) (h2 : (h[p]?.getD default).Holder = 2) : stS now h (p + 1) = stS now h p + max 0 (min now (h[p + 1]?.getD default).At - (h[p]?.getD default).At) := by
  rw [stS, if_pos h2, capH, if_pos h1]
theorem stS_yes2 {now : Int} {h : List THand} {p : Nat} (h1 : h.length ≤ p + 1) (h2 : (h[p]?.getD default).Holder = 2) : stS now h (p + 1) = stS now h p + max 0 (now - (h[p]?.getD default).At) := by
  rw [stS, if_pos h2, capH, if_neg (by omega)]
theorem stS_no {now : Int} {h : List THand} {p : Nat} (h2 : ¬ (h[p]?.getD default).Holder = 2) : stS now h (p + 1) = stS now h p := by
  rw [stS, if_neg h2]; omega
/-- loop.example/g03007/spec.StayHours -/
noncomputable def c91 : Con := mkCon 91 false (α := (List THand) × Int × Int) (fun x => (fun (l : List THand) (k : Int) (now : Int) => [encLTHand l, dI k, dI now]) x.1 x.2.1 x.2.2) (fun _ => []) (fun x => (fun (l : List THand) (k : Int) (now : Int) => l.length ≤ 1073741823) x.1 x.2.1 x.2.2) (fun x => (fun (l : List THand) (k : Int) (now : Int) => (dI (mStay l k now) : D)) x.1 x.2.1 x.2.2) (fun x => (fun (l : List THand) (k : Int) (now : Int) => []) x.1 x.2.1 x.2.2)
@[simp] theorem c91_f : c91.f = 91 := rfl
@[simp] theorem c91_own : c91.own = false := rfl
theorem c91_inj : ∀ u_ v_ : (List THand) × Int × Int, ((fun x => (fun (l : List THand) (k : Int) (now : Int) => [encLTHand l, dI k, dI now]) x.1 x.2.1 x.2.2) u_).map nz = ((fun x => (fun (l : List THand) (k : Int) (now : Int) => [encLTHand l, dI k, dI now]) x.1 x.2.1 x.2.2) v_).map nz → u_ = v_ := by
  intro u_ v_ h
  obtain ⟨l, k, now⟩ := u_
  obtain ⟨l', k', now'⟩ := v_
  simp [nz_lit, nz1_lit, nz_agg, nz_sl, nz1_sl, encLTHand] at h
  first | (simp [h]; done) | (obtain ⟨⟩ := h; simp_all; done) | simp_all
@[simp] theorem c91_fn (l : List THand) (k : Int) (now : Int) : c91.fn [.sl false 5 yTHand (ML encTHand l), .lit (.int .i64 k), .lit (.int .i64 now)] [] = some ((fun (l : List THand) (k : Int) (now : Int) => l.length ≤ 1073741823) l k now, (fun (l : List THand) (k : Int) (now : Int) => (dI (mStay l k now) : D)) l k now, (fun (l : List THand) (k : Int) (now : Int) => []) l k now) :=
  mkCon_fn (fun x y h _ => c91_inj x y h) ((l, k, now) : (List THand) × Int × Int) (by simp [nz, nz1, ML_nil, encLTHand]) rfl
@[simp] theorem c91_fn1 (s_l : Nat) (z_l : D) (k : Int) (now : Int) : c91.fn [.sl false s_l z_l [], .lit (.int .i64 k), .lit (.int .i64 now)] [] = some ((fun (l : List THand) (k : Int) (now : Int) => l.length ≤ 1073741823) [] k now, (fun (l : List THand) (k : Int) (now : Int) => (dI (mStay l k now) : D)) [] k now, (fun (l : List THand) (k : Int) (now : Int) => []) [] k now) :=
  mkCon_fn (fun x y h _ => c91_inj x y h) (([], k, now) : (List THand) × Int × Int) (by simp [nz, nz1, ML_nil, encLTHand]) rfl
theorem c91_pc (l : List THand) (k : Int) (now : Int) (hpre : l.length ≤ 1073741823) : PCo Try.prog 91 [encLTHand l, dI k, dI now] (Tab.of []) (dI (mStay l k now)) (Tab.of []) := by
  refine pco_of_run [] (E := ⟨[c45, c56, c95, c145, c146], []⟩) (m := false) (base := 0) (Env.ok_cons c45_ok (Env.ok_cons c56_ok (Env.ok_cons c95_ok (Env.ok_cons c145_ok (Env.ok_cons c146_ok Env.ok_nil))))) G_ok mix 300 6 Try.func91 (by kernel_rfl) rfl (by kernel_rfl) (by kernel_rfl) rfl ?_
  have hb := mHands_len l k
  by_cases hcn : (mIsChain l && mIn now 0 100000) = true
  · have hc := (Bool.and_eq_true _ _ ▸ hcn).1
    have hn := (Bool.and_eq_true _ _ ▸ hcn).2
    have hnow := mIn_iff.1 hn
    obtain ⟨hrow, hlen⟩ := chain_row hc k
    have hm : mStay l k now = stS now (mHands l k) (mHands l k).length := by
      rw [stS_rev (Nat.le_refl _), List.take_length, mStay, hcn, if_pos rfl, capH, if_neg (by omega)]
      exact stay_spec _ _ (Int.le_refl _) (.inl rfl) hrow.2
    rw [hm]
    have hbd : ∀ x ∈ mHands l k, 0 ≤ x.At ∧ x.At ≤ 100000 := fun x hx => hrow.1 x (by rw [List.mem_reverse]; exact hx)
    have hl100 : (mHands l k).length ≤ 100 := by rw [List.length_reverse] at hlen; exact hlen
    simp [Try.f91, hc, hn]
    generalize mHands l k = r at hb hbd hl100 ⊢
    refine ⟨hpre, ?_⟩
    refine loop_inv (fun p : Nat => p ≤ r.length) (fun p => [(0, encLTHand l), (2, dI now), (7, dI (stS now r p)), (8, .own (0, 1) 5 0 r.length), (9, dI p)]) (fun p => [((0, 1), .arr false 5 yTHand (ML encTHand r))]) 2 (fun p => r.length - p) 0 400 (by simp) (by simp) (by simp [stS]) ?_
    intro p hp
    simp [hc, hn]
    have hs := stS_bd hnow hbd (p := p) hp
    have hx : p < r.length → 0 ≤ (r[p]?.getD default).At ∧ (r[p]?.getD default).At ≤ 100000 := fun h => hbd _ (getD_mem h)
    refine ⟨fun _ => by omega, fun hlt => ?_, fun hge => by rw [show p = r.length by omega]⟩
    have hx1 := hx hlt
    refine ⟨by omega, fun h1 => ⟨⟨by omega, by omega, by omega⟩, hlt, fun h2 => ?_, fun h2 => ⟨by omega, ?_⟩⟩, fun h1 => ⟨hlt, fun h2 => ?_, fun h2 => ⟨by omega, ?_⟩⟩⟩
    · have hx2 := hbd _ (getD_mem (d := default) (show p + 1 < r.length by omega))
      refine ⟨⟨hlt, by omega, by omega⟩, by omega, Again.mk (p + 1) (by omega) (by simp [stS_yes1 (show p + 1 < r.length by omega) h2]) (by first | omega | (simp; omega))⟩
    · exact Again.mk (p + 1) (by omega) (by simp [stS_no h2]) (by first | omega | (simp; omega))
    · refine ⟨⟨hlt, by omega, by omega⟩, by omega, Again.mk (p + 1) (by omega) (by simp [stS_yes2 (show r.length ≤ p + 1 by omega) h2]) (by first | omega | (simp; omega))⟩
    · exact Again.mk (p + 1) (by omega) (by simp [stS_no h2]) (by first | omega | (simp; omega))
  · have hm : mStay l k now = 0 := by rw [mStay, if_neg hcn]
    rw [hm]
    cases hc : mIsChain l with
    | false =>
      simp [Try.f91]
      generalize mHands l k = r at hb ⊢
      refine ⟨hpre, loop_unroll 400 ?_⟩
      simp [hc]
      omega
    | true =>
      have hn : mIn now 0 100000 = false := by simpa [hc] using hcn
      simp [Try.f91]
      generalize mHands l k = r at hb ⊢
      refine ⟨hpre, loop_unroll 400 ?_⟩
      simp [hc, hn]
      omega
theorem c91_ok : c91.ok Try.prog := mkCon_ok fun ⟨l, k, now⟩ hpre => c91_pc l k now hpre
/-- loop.example/g03007/laws.FnExactStayHours -/
theorem law23 (l : List THand) (wl : wfLTHand l) (k : Int) (wk : inR .i64 k) (now : Int) (wnow : inR .i64 now) : PCo Try.prog 23 [encLTHand l, dI k, dI now] (Tab.of []) (dB true) (Tab.of []) := by
  refine pco_of_run [] (E := ⟨[c44, c46, c48, c91, c92], []⟩) (m := false) (base := 0) (Env.ok_cons c44_ok (Env.ok_cons c46_ok (Env.ok_cons c48_ok (Env.ok_cons c91_ok (Env.ok_cons c92_ok Env.ok_nil))))) G_ok mix 400 6 Try.func23 (by kernel_rfl) rfl (by kernel_rfl) (by kernel_rfl) rfl ?_
  simp (config := {maxSteps := 3000000}) [Try.f23]
  have h_l : l.length ≤ maxLen := wl.1
  repeat' (first | omega | assumption | refine And.intro ?_ ?_ | intro _)
  all_goals first | omega | grind | (split at * <;> omega)
theorem law23_pc (D0 : D) (h0 : Sh G 9 44 D0) (D1 : D) (h1 : Sh G 9 3 D1) (D2 : D) (h2 : Sh G 9 3 D2) : PC Try.prog 23 [D0, D1, D2] (dB true) [] := by
  obtain ⟨l, rfl, wl⟩ := sh44 (n := 6) h0
  obtain ⟨k, rfl, wk⟩ := sh3 (n := 8) h1
  obtain ⟨now, rfl, wnow⟩ := sh3 (n := 8) h2
  exact law23 l wl k wk now wnow

end Go.Proofs.Ytadbjlnfdjbbjaa
