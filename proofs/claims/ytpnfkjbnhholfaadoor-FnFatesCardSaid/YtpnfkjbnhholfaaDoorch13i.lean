/- Contracts of the functions that the laws run. -/
import Derived.Test.YtpnfkjbnhholfaaDoorch13h
import Derived.Test.YtpnfkjbnhholfaaDoorEngB
namespace Go.Proofs.YtpnfkjbnhholfaaDoor
open Go Go.Eng
set_option linter.unusedSimpArgs false
set_option linter.unusedVariables false
set_option maxRecDepth 10000
set_option maxHeartbeats 1000000
def pairIs (k w : Int) (x : TClaim) : Bool := decide (x.Thing = k) && decide (x.Who = w)
def mFindClaim (l : List TClaim) (n : Int) : Int := indexBy (wantN nClaim n) 0 l
/-- loop.example/g03007/spec.FindClaim -/
noncomputable def c71 : Con := mkCon 71 false (α := (List TClaim) × Int) (fun x => (fun (l : List TClaim) (n : Int) => [encLTClaim l, dI n]) x.1 x.2) (fun _ => []) (fun x => (fun (l : List TClaim) (n : Int) => l.length ≤ 1099511627776) x.1 x.2) (fun x => (fun (l : List TClaim) (n : Int) => (dI (mFindClaim l n) : D)) x.1 x.2) (fun x => (fun (l : List TClaim) (n : Int) => []) x.1 x.2)
@[simp] theorem c71_f : c71.f = 71 := rfl
@[simp] theorem c71_own : c71.own = false := rfl
theorem c71_inj : ∀ u_ v_ : (List TClaim) × Int, ((fun x => (fun (l : List TClaim) (n : Int) => [encLTClaim l, dI n]) x.1 x.2) u_).map nz = ((fun x => (fun (l : List TClaim) (n : Int) => [encLTClaim l, dI n]) x.1 x.2) v_).map nz → u_ = v_ := by
  intro u_ v_ h
  obtain ⟨l, n⟩ := u_
  obtain ⟨l', n'⟩ := v_
  simp [nz_lit, nz1_lit, nz_agg, nz_sl, nz1_sl, encLTClaim] at h
  first | (simp [h]; done) | (obtain ⟨⟩ := h; simp_all; done) | simp_all
@[simp] theorem c71_fn (l : List TClaim) (n : Int) : c71.fn [.sl false 5 yTClaim (ML encTClaim l), .lit (.int .i64 n)] [] = some ((fun (l : List TClaim) (n : Int) => l.length ≤ 1099511627776) l n, (fun (l : List TClaim) (n : Int) => (dI (mFindClaim l n) : D)) l n, (fun (l : List TClaim) (n : Int) => []) l n) :=
  mkCon_fn (fun x y h _ => c71_inj x y h) ((l, n) : (List TClaim) × Int) (by simp [nz, nz1, ML_nil, encLTClaim]) rfl
@[simp] theorem c71_fn1 (s_l : Nat) (z_l : D) (n : Int) : c71.fn [.sl false s_l z_l [], .lit (.int .i64 n)] [] = some ((fun (l : List TClaim) (n : Int) => l.length ≤ 1099511627776) [] n, (fun (l : List TClaim) (n : Int) => (dI (mFindClaim l n) : D)) [] n, (fun (l : List TClaim) (n : Int) => []) [] n) :=
  mkCon_fn (fun x y h _ => c71_inj x y h) (([], n) : (List TClaim) × Int) (by simp [nz, nz1, ML_nil, encLTClaim]) rfl
theorem c71_pc (l : List TClaim) (n : Int) (hpre : l.length ≤ 1099511627776) : PCo Tryd.prog 71 [encLTClaim l, dI n] (Tab.of []) (dI (mFindClaim l n)) (Tab.of []) := by
  refine pco_of_run [] (E := ⟨[], [], []⟩) (m := false) (base := 0) Env.ok_nil G_ok mix 300 6 Tryd.func71 (by kernel_rfl) rfl (by kernel_rfl) (by kernel_rfl) rfl ?_
  simp [Tryd.f71]
  refine loop_inv (fun p : Nat => p ≤ l.length ∧ mFindClaim l n = indexBy (wantN nClaim n) p (l.drop p)) (fun p => [(0, encLTClaim l), (1, dI n), (5, dI p)]) (fun _ => []) 1 (fun p => l.length - p) 0 400 (by simp) (by simp [mFindClaim]) (by simp) ?_
  intro p ⟨hp, hi⟩
  simp
  refine ⟨fun hlt => ?_, fun hge => ?_⟩
  · rw [indexBy_at (d := default) hlt] at hi; simp only [nClaim, wantN] at hi
    repeat' (first | omega | refine And.intro ?_ ?_ | intro _)
    all_goals first | exact Again.mk (p + 1) ⟨by omega, by rw [hi]; grind⟩ (by simp) (by first | omega | (simp; omega)) | (rw [hi]; grind)
  · rw [hi, indexBy_end hge]
theorem c71_ok : c71.ok Tryd.prog := mkCon_ok fun ⟨l, n⟩ hpre => c71_pc l n hpre
theorem indexBy_any {α : Type} {w : α → Bool} : ∀ (l : List α) (i : Int), 0 ≤ i → (0 ≤ indexBy w i l ↔ l.any w = true)
  | [], i, _ => by simp [indexBy]
  | x :: r, i, hi => by
    have := indexBy_any (w := w) r (i + 1) (by omega)
    by_cases hx : w x = true
    · simp [indexBy, hx, hi]
    · simp [indexBy, hx, this]
def whoIs (w : Int) (x : TClaim) : Bool := decide (x.Who = w)
def claimedG (g : Gc) (k w : Int) : Bool := (getG g k).any (whoIs w)
theorem claimed_eq (l : List TClaim) (k w : Int) : claimedG (bkC l) k w = l.any (pairIs k w) := by
  rw [claimedG, bk_get, List.any_filter]
  rfl
def insC (l : List TClaim) (x : TClaim) : List TClaim := l.take (putAt nClaim x.Id l) ++ x :: l.drop (putAt nClaim x.Id l)
def okAdd (l : List TClaim) (x : TClaim) : Bool := stateIs 0 x && !l.any (pairIs x.Thing x.Who) && mAreClaims (insC l x)
def mAddClaim (l : List TClaim) (x : TClaim) : List TClaim := if okAdd l x then insC l x else l
theorem mAddClaim_yes {l : List TClaim} {x : TClaim} (h : okAdd l x = true) : mAddClaim l x = insC l x := by simp [mAddClaim, h]
theorem mAddClaim_no {l : List TClaim} {x : TClaim} (h : okAdd l x = false) : mAddClaim l x = l := by simp [mAddClaim, h]
theorem putAtC_le (n : Int) (l : List TClaim) : putAt nClaim n l ≤ l.length := putAt_le nClaim n l
theorem insC_len (l : List TClaim) (x : TClaim) : (insC l x).length = l.length + 1 := by
  have := putAt_le nClaim x.Id l
  simp [insC]; omega
theorem mAddClaim_len (l : List TClaim) (x : TClaim) : (mAddClaim l x).length ≤ l.length + 1 := by
  simp only [mAddClaim]; split
  · rw [insC_len]; omega
  · omega
theorem insC_dup {l : List TClaim} {x : TClaim} (h : 0 ≤ mFindClaim l x.Id) : mAreClaims (insC l x) = false := by
  rw [mFindClaim, index_hasG l 0 (by omega)] at h
  obtain ⟨y, hy, e⟩ := h
  cases ha : mAreClaims (insC l x) with
  | false => rfl
  | true =>
    simp only [mAreClaims, insC, Bool.and_eq_true] at ha
    have hm := asc_midG ha.1.2
    rw [← List.take_append_drop (putAt nClaim x.Id l) l, List.mem_append] at hy
    simp only [nClaim] at hm e
    rcases hy with hy | hy
    · have := hm.1 y hy; omega
    · have := hm.2 y hy; omega
theorem putC_ins {l : List TClaim} {x : TClaim} (h : mFindClaim l x.Id < 0) : putBy nClaim x l = insC l x := by
  have h2 : ¬ ∃ y ∈ l, nClaim y = x.Id := by
    rw [← index_hasG l 0 (by omega)]
    simp only [mFindClaim] at h; omega
  have h3 : putRest nClaim x.Id l = putAt nClaim x.Id l := by
    simp only [putRest]
    rw [if_neg]
    rintro ⟨h4, h5⟩
    exact h2 ⟨_, getD_mem (d := default) h4, h5⟩
  simp only [putBy, insC, nClaim]
  rw [h3]
def lastLp (n : Int) (l : List TClaim) : Nat → Nat
  | 0 => 0
  | p + 1 => if (l[p]?.getD default).Id < n then p + 1 else lastLp n l p
theorem lastLp_le (n : Int) (l : List TClaim) : ∀ p, lastLp n l p ≤ p
  | 0 => Nat.le_refl _
  | p + 1 => by simp only [lastLp]; split; omega; have := lastLp_le n l p; omega
theorem lastLp_at {n : Int} {l : List TClaim} {j : Nat} (h1 : ∀ y ∈ l.take j, y.Id < n) (h2 : ∀ y ∈ l.drop j, n < y.Id) : ∀ p, j ≤ p → p ≤ l.length → lastLp n l p = j
  | 0, hj, _ => by simp only [lastLp]; omega
  | p + 1, hj, hp => by
    simp only [lastLp]
    have hm : l[p]?.getD default = l[p] := by simp [show p < l.length by omega]
    rw [hm]
    by_cases e : p + 1 = j
    · have : l[p] ∈ l.take j := by rw [List.mem_take_iff_getElem]; exact ⟨p, by omega, rfl⟩
      rw [if_pos (h1 _ this), e]
    · have : l[p] ∈ l.drop j := by
        rw [List.mem_drop_iff_getElem]
        exact ⟨p - j, by omega, by congr 1; omega⟩
      have := h2 _ this
      rw [if_neg (by omega)]
      exact lastLp_at h1 h2 p (by omega) (by omega)
theorem putAtC_at {n : Int} {l : List TClaim} {j : Nat} (h1 : ∀ y ∈ l.take j, y.Id < n) (h2 : ∀ y ∈ l.drop j, n < y.Id) (hj : j ≤ l.length) : putAt nClaim n l = j := by
  have h3 : ∀ (k : Nat), k ≤ j → indexBy (geN nClaim n) 0 l = indexBy (geN nClaim n) k (l.drop k) := by
    intro k
    induction k with
    | zero => intro _; rfl
    | succ k ih =>
      intro hk
      rw [ih (by omega), indexBy_at (d := default) (by omega)]
      have : l[k] ∈ l.take j := by rw [List.mem_take_iff_getElem]; exact ⟨k, by omega, rfl⟩
      have h4 := h1 _ this
      have hm : l[k]?.getD default = l[k] := by simp [show k < l.length by omega]
      have hg : geN nClaim n l[k] = false := decide_eq_false (show ¬ n ≤ l[k].Id by omega)
      rw [hm, hg, if_neg (by simp)]
  unfold putAt
  rw [h3 j (Nat.le_refl _)]
  by_cases hlt : j < l.length
  · rw [indexBy_at (d := default) hlt]
    have hm : l[j]?.getD default = l[j] := by simp [hlt]
    have : l[j] ∈ l.drop j := by
      rw [List.mem_drop_iff_getElem]; exact ⟨0, by omega, rfl⟩
    have h4 := h2 _ this
    have hg : geN nClaim n l[j] = true := decide_eq_true (show n ≤ l[j].Id by omega)
    rw [hm, hg, if_pos rfl]
    simp; intro h; omega
  · rw [indexBy_end (by omega)]; simp; omega
def insK2 (l : List TClaim) (x : TClaim) : List TClaim := l.take (lastLp x.Id l l.length) ++ x :: l.drop (lastLp x.Id l l.length)
theorem ins_same {l : List TClaim} {x : TClaim} (h : mAreClaims (insK2 l x) = true ∨ mAreClaims (insC l x) = true) : insK2 l x = insC l x := by
  have hl := lastLp_le x.Id l l.length
  have hp := putAt_le nClaim x.Id l
  rcases h with h | h
  · simp only [mAreClaims, insK2, Bool.and_eq_true] at h
    have hm := asc_midG h.1.2
    simp only [insK2, insC]
    rw [putAtC_at (n := x.Id) (fun y hy => hm.1 y hy) (fun y hy => hm.2 y hy) hl]
  · simp only [mAreClaims, insC, Bool.and_eq_true] at h
    have hm := asc_midG h.1.2
    simp only [insK2, insC]
    rw [lastLp_at (n := x.Id) (fun y hy => hm.1 y hy) (fun y hy => hm.2 y hy) l.length hp (Nat.le_refl _)]
theorem ins_are (l : List TClaim) (x : TClaim) : mAreClaims (insK2 l x) = mAreClaims (insC l x) := by
  cases h : mAreClaims (insK2 l x) with
  | true => rw [← ins_same (.inl h), h]
  | false =>
    cases h2 : mAreClaims (insC l x) with
    | false => rfl
    | true => rw [ins_same (.inr h2), h2] at h; cases h
theorem insK2_len (l : List TClaim) (x : TClaim) : (insK2 l x).length = l.length + 1 := by
  have := lastLp_le x.Id l l.length
  simp [insK2]; omega
theorem pairIs_eq (y : TClaim) (k w : Int) : ((y.Who == w) && (y.Thing == k)) = pairIs k w y := by rw [Bool.eq_iff_iff]; simp [pairIs, and_comm]
/-- loop.example/g03007/spec.AddClaim -/
noncomputable def c63 : Con := mkCon 63 false (α := (List TClaim) × TClaim) (fun x => (fun (l : List TClaim) (x : TClaim) => [encLTClaim l, encTClaim x]) x.1 x.2) (fun _ => []) (fun x => (fun (l : List TClaim) (x : TClaim) => l.length ≤ 1073741000) x.1 x.2) (fun x => (fun (l : List TClaim) (x : TClaim) => (.tup [.own (0, 1) 5 0 (mAddClaim l x).length, dB (okAdd l x)] : D)) x.1 x.2) (fun x => (fun (l : List TClaim) (x : TClaim) => [((0, 1), .arr false 5 yTClaim (ML encTClaim (mAddClaim l x)))]) x.1 x.2)
@[simp] theorem c63_f : c63.f = 63 := rfl
@[simp] theorem c63_own : c63.own = false := rfl
theorem c63_inj : ∀ u_ v_ : (List TClaim) × TClaim, ((fun x => (fun (l : List TClaim) (x : TClaim) => [encLTClaim l, encTClaim x]) x.1 x.2) u_).map nz = ((fun x => (fun (l : List TClaim) (x : TClaim) => [encLTClaim l, encTClaim x]) x.1 x.2) v_).map nz → u_ = v_ := by
  intro u_ v_ h
  obtain ⟨l, ⟨x_Id, x_Who, x_Thing, x_At, x_State⟩⟩ := u_
  obtain ⟨l', ⟨x_Id', x_Who', x_Thing', x_At', x_State'⟩⟩ := v_
  simp [nz_lit, nz1_lit, nz_agg, nz_sl, nz1_sl, encLTClaim, encTClaim] at h
  first | (simp [h]; done) | (obtain ⟨⟩ := h; simp_all; done) | simp_all
@[simp] theorem c63_fn (l : List TClaim) (x_Id : Int) (x_Who : Int) (x_Thing : Int) (x_At : Int) (x_State : Int) : c63.fn [.sl false 5 yTClaim (ML encTClaim l), .agg [.lit (.int .i64 x_Id), .lit (.int .i64 x_Who), .lit (.int .i64 x_Thing), .lit (.int .i64 x_At), .lit (.int .i64 x_State)]] [] = some ((fun (l : List TClaim) (x : TClaim) => l.length ≤ 1073741000) l ⟨x_Id, x_Who, x_Thing, x_At, x_State⟩, (fun (l : List TClaim) (x : TClaim) => (.tup [.own (0, 1) 5 0 (mAddClaim l x).length, dB (okAdd l x)] : D)) l ⟨x_Id, x_Who, x_Thing, x_At, x_State⟩, (fun (l : List TClaim) (x : TClaim) => [((0, 1), .arr false 5 yTClaim (ML encTClaim (mAddClaim l x)))]) l ⟨x_Id, x_Who, x_Thing, x_At, x_State⟩) :=
  mkCon_fn (fun x y h _ => c63_inj x y h) ((l, ⟨x_Id, x_Who, x_Thing, x_At, x_State⟩) : (List TClaim) × TClaim) (by simp [nz, nz1, ML_nil, encLTClaim, encTClaim]) rfl
@[simp] theorem c63_fn1 (s_l : Nat) (z_l : D) (x_Id : Int) (x_Who : Int) (x_Thing : Int) (x_At : Int) (x_State : Int) : c63.fn [.sl false s_l z_l [], .agg [.lit (.int .i64 x_Id), .lit (.int .i64 x_Who), .lit (.int .i64 x_Thing), .lit (.int .i64 x_At), .lit (.int .i64 x_State)]] [] = some ((fun (l : List TClaim) (x : TClaim) => l.length ≤ 1073741000) [] ⟨x_Id, x_Who, x_Thing, x_At, x_State⟩, (fun (l : List TClaim) (x : TClaim) => (.tup [.own (0, 1) 5 0 (mAddClaim l x).length, dB (okAdd l x)] : D)) [] ⟨x_Id, x_Who, x_Thing, x_At, x_State⟩, (fun (l : List TClaim) (x : TClaim) => [((0, 1), .arr false 5 yTClaim (ML encTClaim (mAddClaim l x)))]) [] ⟨x_Id, x_Who, x_Thing, x_At, x_State⟩) :=
  mkCon_fn (fun x y h _ => c63_inj x y h) (([], ⟨x_Id, x_Who, x_Thing, x_At, x_State⟩) : (List TClaim) × TClaim) (by simp [nz, nz1, ML_nil, encLTClaim, encTClaim]) rfl
theorem c63_pc (l : List TClaim) (x : TClaim) (hpre : l.length ≤ 1073741000) : PCo Tryd.prog 63 [encLTClaim l, encTClaim x] (Tab.of []) (.tup [.own (0, 1) 5 0 (mAddClaim l x).length, dB (okAdd l x)]) (Tab.of [((0, 1), .arr false 5 yTClaim (ML encTClaim (mAddClaim l x)))]) := by
  refine pco_of_run [1009] (E := ⟨[c70], [], []⟩) (m := false) (base := 0) (Env.ok_cons c70_ok Env.ok_nil) G_ok mix 300 6 Tryd.func63 (by kernel_rfl) rfl (by kernel_rfl) (by kernel_rfl) rfl ?_
  simp [Tryd.f63]
  refine loop_inv (fun p : Nat => p ≤ l.length) (fun p => [(0, encLTClaim l), (3, .ptr (0, 1) 0), (6, dI (lastLp x.Id l p)), (7, dB (!stateIs 0 x || (l.take p).any (pairIs x.Thing x.Who))), (8, dI p)]) (fun _ => [((0, 1), .box (encTClaim x))]) 2 (fun p => l.length - p) 0 400 (by simp) (by simp) (by simp [lastLp, stateIs]; first | done | rfl | (rw [Bool.eq_iff_iff]; simp)) ?_
  intro p hp
  simp
  have hl := lastLp_le x.Id l p
  refine ⟨fun hlt => ?_, fun hge => ?_⟩
  · have hs : (l.take (p + 1)).any (pairIs x.Thing x.Who) = ((l.take p).any (pairIs x.Thing x.Who) || pairIs x.Thing x.Who (l[p]?.getD default)) := by rw [take_at (d := default) hlt]; simp
    repeat' (first | omega | refine And.intro ?_ ?_ | intro _)
    · rename_i hw
      refine Again.mk (p + 1) (by omega) ?_ (by first | omega | (simp; omega))
      simp [lastLp, hw, hs, -List.any_eq_true, pairIs_eq, Bool.or_assoc]
    · rename_i hw
      have hw2 : ¬ (l[p]?.getD default).Id < x.Id := by omega
      refine Again.mk (p + 1) (by omega) ?_ (by first | omega | (simp; omega))
      simp [lastLp, hw2, hs, -List.any_eq_true, pairIs_eq, Bool.or_assoc]
  · have : p = l.length := by omega
    subst this
    have e1 : min (lastLp x.Id l l.length) l.length = lastLp x.Id l l.length := by omega
    have e2 : lastLp x.Id l l.length + 1 + (l.length - lastLp x.Id l l.length) = lastLp x.Id l l.length + (l.length - lastLp x.Id l l.length + 1) := by omega
    have e3 : lastLp x.Id l l.length + (l.length - lastLp x.Id l l.length + 1) = (insK2 l x).length := by rw [insK2_len]; omega
    have hins : List.take (lastLp x.Id l l.length) l ++ x :: List.drop (lastLp x.Id l l.length) l = insK2 l x := rfl
    simp only [e1, e2, if_true, hins, List.take_length, e3]
    have hlen := insK2_len l x
    have hare := ins_are l x
    refine ⟨⟨by omega, by omega, by omega, by omega, by omega⟩, fun _ _ => ⟨by omega, by omega⟩, fun h => ?_, fun h1 h2 h3 => ?_⟩
    · have h2 : okAdd l x = false := by
        rw [okAdd, ← hare]
        rcases h with (h | ⟨y, h1, h2⟩) | h
        · simp [h]
        · have : l.any (pairIs x.Thing x.Who) = true := List.any_eq_true.2 ⟨y, h1, h2⟩
          simp [this]
        · simp [h]
      rw [mAddClaim_no h2]
      exact ⟨by omega, ⟨rfl, h2⟩, rfl⟩
    · have h4 : l.any (pairIs x.Thing x.Who) = false := List.any_eq_false.2 fun y hy => by simp [h2 y hy]
      have h5 : okAdd l x = true := by rw [okAdd, ← hare, h1, h4, h3]; rfl
      rw [mAddClaim_yes h5, ins_same (.inl h3)]
      exact ⟨⟨rfl, h5⟩, rfl⟩
theorem c63_ok : c63.ok Tryd.prog := mkCon_ok fun ⟨l, x⟩ hpre => c63_pc l x hpre
end Go.Proofs.YtpnfkjbnhholfaaDoor
