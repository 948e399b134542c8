/- Contracts of the functions that the laws run. -/
import Derived.Test.YtpnfkjbnhholfaaEngB
import Derived.Test.YtpnfkjbnhholfaaEngB
import Derived.Test.YtpnfkjbnhholfaaEngB
import Derived.Test.Ytpnfkjbnhholfaadr14
import Derived.Test.Ytpnfkjbnhholfaalawx
import Derived.Test.YtpnfkjbnhholfaaEngB
namespace Go.Proofs.Ytpnfkjbnhholfaa
open Go Go.Eng
set_option linter.unusedSimpArgs false
set_option linter.unusedVariables false
set_option maxRecDepth 10000
set_option maxHeartbeats 1000000
theorem split_at {l : List TSlot} {k : Nat} (hk : k < l.length) : l = l.take k ++ (l[k]?.getD default) :: l.drop (k + 1) := by
  have := List.take_append_drop k l
  rw [drop_at (d := default) hk] at this
  exact this.symm
theorem set_split {l : List TSlot} {k : Nat} (hk : k < l.length) (v : TSlot) : l.set k v = l.take k ++ v :: l.drop (k + 1) := by
  rw [List.set_eq_take_append_cons_drop, if_pos hk]
theorem asc_rep {ok : TSlot → Bool} {s s' : TSlot} {B : List TSlot} (hid : s'.Id = s.Id) (hok : ok s' = true) : ∀ {A : List TSlot} {o : Option Int}, ascBy ok nSlot o (A ++ s :: B) = true → ascBy ok nSlot o (A ++ s' :: B) = true
  | [], o, h => by
    simp only [List.nil_append, ascBy, Bool.and_eq_true, nSlot, hid] at h ⊢
    exact ⟨⟨hok, h.1.2⟩, h.2⟩
  | a :: A, o, h => by
    simp only [List.cons_append, ascBy, Bool.and_eq_true] at h ⊢
    exact ⟨h.1, asc_rep hid hok h.2⟩
theorem two_pw : ∀ {l : List TSlot}, twoB l = false ↔ l.Pairwise (fun a b => wantT a.Thing b = false)
  | [] => by simp [twoB]
  | x :: r => by
    simp only [twoB, Bool.or_eq_false_iff, List.pairwise_cons, two_pw (l := r), List.any_eq_false]
    simp
theorem slots_rep {A B : List TSlot} {s s' : TSlot} (h : mAreSlots (A ++ s :: B) = true) (hid : s'.Id = s.Id) (hok : mIsSlot s' = true) (h1 : ∀ a ∈ A, wantT a.Thing s' = false) (h2 : ∀ b ∈ B, wantT s'.Thing b = false) : mAreSlots (A ++ s' :: B) = true := by
  simp only [mAreSlots, Bool.and_eq_true, decide_eq_true_eq, Bool.not_eq_true'] at h ⊢
  obtain ⟨⟨a1, a2⟩, a3⟩ := h
  refine ⟨⟨by simpa using a1, asc_rep hid hok a2⟩, ?_⟩
  rw [two_pw] at a3 ⊢
  rw [List.pairwise_append, List.pairwise_cons] at a3 ⊢
  obtain ⟨b1, ⟨b2, b3⟩, b4⟩ := a3
  refine ⟨b1, ⟨h2, b3⟩, fun a ha b hb => ?_⟩
  rcases List.mem_cons.1 hb with rfl | hb
  · exact h1 a ha
  · exact b4 a ha b (by simp [hb])
theorem lookS_app {t : Int} {B : List TSlot} : ∀ {A : List TSlot}, (∀ a ∈ A, wantT t a = false) → lookS t (A ++ B) = lookS t B
  | [], _ => rfl
  | a :: A, h => by
    rw [List.cons_append, lookS, if_neg (by simp [h a (by simp)]), lookS_app fun x hx => h x (by simp [hx])]
theorem lookS_none {t : Int} : ∀ {l : List TSlot}, (∀ s ∈ l, wantT t s = false) → lookS t l = 0
  | [], _ => rfl
  | a :: A, h => by
    rw [lookS, if_neg (by simp [h a (by simp)]), lookS_none fun x hx => h x (by simp [hx])]
theorem index_no {t : Int} {l : List TSlot} (h : indexBy (wantT t) 0 l < 0) : ∀ s ∈ l, wantT t s = false := by
  intro s hs
  cases hw : wantT t s with
  | false => rfl
  | true =>
    have := (indexBy_any l 0 (by omega)).2 (List.any_eq_true.2 ⟨s, hs, hw⟩)
    omega
theorem put_all {l : List TSlot} {x : TThing} (h : kPut l x = true) : mAreSlots (mPut l x) = true ∧ lookS x.Id (mPut l x) = mSmall l x.Size ∧ ¬ mSmall l x.Size = 0 ∧ ((mPut l x).countP isFree : Int) = (l.countP isFree : Int) - 1 ∧ kTake (mPut l x) x.Id = true ∧ mTake (mPut l x) x.Id = l ∧
    ∀ i, i < l.length → ((mPut l x)[i]?.getD default).Id = mSmall l x.Size → x.Size ≤ ((mPut l x)[i]?.getD default).Size := by
  rw [mPut_yes h]
  simp only [kPut, Bool.and_eq_true, decide_eq_true_eq] at h
  obtain ⟨⟨⟨ha, hx⟩, hb⟩, hi⟩ := h
  rcases best_is l x.Size with ⟨e, _⟩ | ⟨k, hk, e, hf, hs, _⟩
  · omega
  · have hsm : mSmall l x.Size = (l[k]?.getD default).Id := by rw [mSmall, if_neg (by omega), e]; simp
    have hv := slot_valid ha
    rw [hsm, putId_set hv hk]
    have hnone := index_no hi
    have hok := asc_ok hv _ (getD_mem (d := default) hk)
    have hth : (l[k]?.getD default).Thing = 0 := by simpa [isFree] using hf
    have hxi : 1 ≤ x.Id ∧ x.Id ≤ 999 := by
      simp [mIsThing, mIn] at hx; omega
    have hsp := split_at hk
    have hss := set_split hk (putT x.Id (l[k]?.getD default))
    have hid1 : 1 ≤ (l[k]?.getD default).Id := by simp [mIsSlot, mIn] at hok; omega
    have hmA : ∀ a ∈ l.take k, wantT x.Id a = false := fun a hm => hnone a (List.mem_of_mem_take hm)
    have hmB : ∀ a ∈ l.drop (k + 1), wantT x.Id a = false := fun a hm => hnone a (List.mem_of_mem_drop hm)
    have hw : wantT x.Id (putT x.Id (l[k]?.getD default)) = true := by
      have : ¬ x.Id = 0 := by omega
      simp [wantT, putT, this]
    have hy : mAreSlots (l.set k (putT x.Id (l[k]?.getD default))) = true := by
      rw [hss]
      refine slots_rep (s := l[k]?.getD default) (by rw [← hsp]; exact ha) rfl ?_ (fun a hm => ?_) (fun a hm => hmB a hm)
      · simp only [mIsSlot, Bool.and_eq_true, mIn_iff, putT] at hok ⊢; omega
      · have := hmA a hm
        have hx0 : ¬ x.Id = 0 := by omega
        by_cases e : x.Id = a.Thing
        · exfalso; simp [wantT, hx0, e.symm] at this
        · simp [wantT, putT, e]
    have hl : lookS x.Id (l.set k (putT x.Id (l[k]?.getD default))) = (l[k]?.getD default).Id := by
      rw [hss, lookS_app hmA, lookS, if_pos hw]; rfl
    have hk2 : k < (l.set k (putT x.Id (l[k]?.getD default))).length := by simpa using hk
    have hg : (l.set k (putT x.Id (l[k]?.getD default)))[k]?.getD default = putT x.Id (l[k]?.getD default) := by simp [hk]
    have hkt : kTake (l.set k (putT x.Id (l[k]?.getD default))) x.Id = true := by
      simp only [kTake, hy, Bool.true_and, decide_eq_true_eq]
      rw [indexBy_any _ 0 (by omega), List.any_eq_true]
      exact ⟨_, getD_mem (d := default) hk2, by rw [hg]; exact hw⟩
    refine ⟨hy, hl, by omega, ?_, hkt, ?_, fun i hil he => ?_⟩
    · rw [hss]
      have hc : l.countP isFree = (l.take k).countP isFree + ((l.drop (k + 1)).countP isFree + 1) := by
        rw (config := {occs := .pos [1]}) [hsp]
        rw [List.countP_append, List.countP_cons, if_pos hf]
      have h0 : isFree (putT x.Id (l[k]?.getD default)) = false := by
        have : ¬ x.Id = 0 := by omega
        simp [isFree, putT, this]
      rw [List.countP_append, List.countP_cons, h0]
      simp only [Bool.false_eq_true, if_false]
      omega
    · rw [mTake_yes hkt, hl]
      have := freeId_set (slot_valid hy) hk2
      rw [hg] at this
      have e2 : (putT x.Id (l[k]?.getD default)).Id = (l[k]?.getD default).Id := rfl
      rw [e2] at this
      rw [this, List.set_set]
      have e3 : freed (putT x.Id (l[k]?.getD default)) = l[k]?.getD default := by
        generalize l[k]?.getD default = s at *
        obtain ⟨a, b, c⟩ := s
        simp only at hth
        subst hth; rfl
      rw [e3, set_split hk, ← hsp]
    · by_cases hik : i = k
      · subst hik; rw [hg]; exact hs
      · exfalso
        rw [show (l.set k (putT x.Id (l[k]?.getD default)))[i]?.getD default = l[i]?.getD default by simp [List.getElem?_set, Ne.symm hik]] at he
        have hpw := (ascBy_pw hv).2
        rw [List.pairwise_iff_getElem] at hpw
        rw [List.getElem?_eq_getElem hil, List.getElem?_eq_getElem hk] at he
        simp only [Option.getD_some] at he
        rcases Nat.lt_or_gt_of_ne hik with hlt | hlt
        · have := hpw i k hil hk hlt; simp only [nSlot] at this; omega
        · have := hpw k i hk hil hlt; simp only [nSlot] at this; omega
theorem take_all {l : List TSlot} {t : Int} (h : kTake l t = true) : lookS t (mTake l t) = 0 ∧ mAreSlots (mTake l t) = true := by
  rw [mTake_yes h]
  simp only [kTake, Bool.and_eq_true, decide_eq_true_eq] at h
  obtain ⟨ha, hi⟩ := h
  have hv := slot_valid ha
  have hany := (indexBy_any l 0 (by omega)).1 hi
  rcases look_index (t := t) l 0 (by omega) with ⟨h1, _⟩ | ⟨k, hk, h1, h2⟩
  · omega
  · rw [h2, freeId_set hv hk, set_split hk]
    have hsp := split_at hk
    have hwk : wantT t (l[k]?.getD default) = true := by
      have hq : ∀ (l : List TSlot) (i : Int) (k : Nat), 0 ≤ i → indexBy (wantT t) i l = i + k → k < l.length → wantT t (l[k]?.getD default) = true := by
        intro l
        induction l with
        | nil => intro i k _ _ h; simp at h
        | cons x r ih =>
          intro i k hi0 h hk
          simp only [indexBy] at h
          by_cases hw : wantT t x = true
          · rw [if_pos hw] at h
            have : k = 0 := by omega
            subst this; simpa using hw
          · rw [if_neg hw] at h
            cases k with
            | zero =>
              have := indexBy_bd (want := wantT t) r (i + 1)
              omega
            | succ k =>
              have := ih (i + 1) k (by omega) (by rw [h]; push_cast; omega) (by simpa using hk)
              simpa using this
      exact hq l 0 k (by omega) h1 hk
    have hpw : l.Pairwise (fun a b => wantT a.Thing b = false) := by
      simp only [mAreSlots, Bool.and_eq_true, Bool.not_eq_true'] at ha
      exact two_pw.1 ha.2
    rw [hsp, List.pairwise_append, List.pairwise_cons] at hpw
    obtain ⟨b1, ⟨b2, b3⟩, b4⟩ := hpw
    have ht : ¬ t = 0 ∧ (l[k]?.getD default).Thing = t := by simpa [wantT] using hwk
    have hA : ∀ a ∈ l.take k, wantT t a = false := fun a hm => by
      have := b4 a hm _ (List.mem_cons_self ..)
      simp [wantT] at this ⊢
      intro _ e; exact absurd (ht.2.trans e.symm) (this (by omega))
    have hB : ∀ a ∈ l.drop (k + 1), wantT t a = false := fun a hm => by have := b2 a hm; rw [ht.2] at this; exact this
    have hf0 : wantT t (freed (l[k]?.getD default)) = false := by
      have h0t : ¬ 0 = t := by omega
      simp [wantT, freed, h0t]
    refine ⟨lookS_none fun s hs => ?_, ?_⟩
    · rcases List.mem_append.1 hs with hs | hs
      · exact hA s hs
      · rcases List.mem_cons.1 hs with rfl | hs
        · exact hf0
        · exact hB s hs
    · refine slots_rep (s := l[k]?.getD default) (by rw [← hsp]; exact ha) rfl ?_ (fun a hm => ?_) (fun a hm => ?_)
      · have hok := asc_ok hv _ (getD_mem (d := default) hk)
        simp only [mIsSlot, Bool.and_eq_true, mIn_iff, freed] at hok ⊢; omega
      · by_cases e : 0 = a.Thing
        · simp [wantT, ← e]
        · simp [wantT, freed, e]
      · simp [wantT, freed]
/-- loop.example/g03007/impl.PutAway -/
noncomputable def c42f : Con := mkCon 42 false (α := (List TSlot) × TThing) (fun x => (fun (l : List TSlot) (x : TThing) => [encLTSlot l, encTThing x]) x.1 x.2) (fun _ => []) (fun x => (fun (l : List TSlot) (x : TThing) => l.length ≤ 1048576) x.1 x.2) (fun x => (fun (l : List TSlot) (x : TThing) => (.tup [.sl false 3 yTSlot (ML encTSlot (mPut l x)), dB (kPut l x)] : D)) x.1 x.2) (fun x => (fun (l : List TSlot) (x : TThing) => []) x.1 x.2)
@[simp] theorem c42f_f : c42f.f = 42 := rfl
@[simp] theorem c42f_own : c42f.own = false := rfl
theorem c42f_inj : ∀ u_ v_ : (List TSlot) × TThing, ((fun x => (fun (l : List TSlot) (x : TThing) => [encLTSlot l, encTThing x]) x.1 x.2) u_).map nz = ((fun x => (fun (l : List TSlot) (x : TThing) => [encLTSlot l, encTThing x]) x.1 x.2) v_).map nz → u_ = v_ := by
  intro u_ v_ h
  obtain ⟨l, ⟨x_Id, x_Kind, x_Colour, x_Size, x_Worth⟩⟩ := u_
  obtain ⟨l', ⟨x_Id', x_Kind', x_Colour', x_Size', x_Worth'⟩⟩ := v_
  simp [nz_lit, nz1_lit, nz_agg, nz_sl, nz1_sl, encLTSlot, encTThing] at h
  first | (simp [h]; done) | (obtain ⟨⟩ := h; simp_all; done) | simp_all
@[simp] theorem c42f_fn (l : List TSlot) (x_Id : Int) (x_Kind : Int) (x_Colour : Int) (x_Size : Int) (x_Worth : Int) : c42f.fn [.sl false 3 yTSlot (ML encTSlot l), .agg [.lit (.int .i64 x_Id), .lit (.int .i64 x_Kind), .lit (.int .i64 x_Colour), .lit (.int .i64 x_Size), .lit (.int .i64 x_Worth)]] [] = some ((fun (l : List TSlot) (x : TThing) => l.length ≤ 1048576) l ⟨x_Id, x_Kind, x_Colour, x_Size, x_Worth⟩, (fun (l : List TSlot) (x : TThing) => (.tup [.sl false 3 yTSlot (ML encTSlot (mPut l x)), dB (kPut l x)] : D)) l ⟨x_Id, x_Kind, x_Colour, x_Size, x_Worth⟩, (fun (l : List TSlot) (x : TThing) => []) l ⟨x_Id, x_Kind, x_Colour, x_Size, x_Worth⟩) :=
  mkCon_fn (fun x y h _ => c42f_inj x y h) ((l, ⟨x_Id, x_Kind, x_Colour, x_Size, x_Worth⟩) : (List TSlot) × TThing) (by simp [nz, nz1, ML_nil, encLTSlot, encTThing]) rfl
@[simp] theorem c42f_fn1 (s_l : Nat) (z_l : D) (x_Id : Int) (x_Kind : Int) (x_Colour : Int) (x_Size : Int) (x_Worth : Int) : c42f.fn [.sl false s_l z_l [], .agg [.lit (.int .i64 x_Id), .lit (.int .i64 x_Kind), .lit (.int .i64 x_Colour), .lit (.int .i64 x_Size), .lit (.int .i64 x_Worth)]] [] = some ((fun (l : List TSlot) (x : TThing) => l.length ≤ 1048576) [] ⟨x_Id, x_Kind, x_Colour, x_Size, x_Worth⟩, (fun (l : List TSlot) (x : TThing) => (.tup [.sl false 3 yTSlot (ML encTSlot (mPut l x)), dB (kPut l x)] : D)) [] ⟨x_Id, x_Kind, x_Colour, x_Size, x_Worth⟩, (fun (l : List TSlot) (x : TThing) => []) [] ⟨x_Id, x_Kind, x_Colour, x_Size, x_Worth⟩) :=
  mkCon_fn (fun x y h _ => c42f_inj x y h) (([], ⟨x_Id, x_Kind, x_Colour, x_Size, x_Worth⟩) : (List TSlot) × TThing) (by simp [nz, nz1, ML_nil, encLTSlot, encTThing]) rfl
theorem c42f_pc (l : List TSlot) (x : TThing) (hpre : l.length ≤ 1048576) : PCo Try.prog 42 [encLTSlot l, encTThing x] (Tab.of []) (.tup [.sl false 3 yTSlot (ML encTSlot (mPut l x)), dB (kPut l x)]) (Tab.of []) := by
  exact pco_frz2 (by simp) (c42_pc l x hpre)
theorem c42f_ok : c42f.ok Try.prog := mkCon_ok fun ⟨l, x⟩ hpre => c42f_pc l x hpre
/-- loop.example/g03007/impl.TakeOut -/
noncomputable def c44f : Con := mkCon 44 false (α := (List TSlot) × Int) (fun x => (fun (l : List TSlot) (t : Int) => [encLTSlot l, dI t]) x.1 x.2) (fun _ => []) (fun x => (fun (l : List TSlot) (t : Int) => l.length ≤ 1073741823) x.1 x.2) (fun x => (fun (l : List TSlot) (t : Int) => (.tup [.sl false 3 yTSlot (ML encTSlot (mTake l t)), dB (kTake l t)] : D)) x.1 x.2) (fun x => (fun (l : List TSlot) (t : Int) => []) x.1 x.2)
@[simp] theorem c44f_f : c44f.f = 44 := rfl
@[simp] theorem c44f_own : c44f.own = false := rfl
theorem c44f_inj : ∀ u_ v_ : (List TSlot) × Int, ((fun x => (fun (l : List TSlot) (t : Int) => [encLTSlot l, dI t]) x.1 x.2) u_).map nz = ((fun x => (fun (l : List TSlot) (t : Int) => [encLTSlot l, dI t]) x.1 x.2) v_).map nz → u_ = v_ := by
  intro u_ v_ h
  obtain ⟨l, t⟩ := u_
  obtain ⟨l', t'⟩ := v_
  simp [nz_lit, nz1_lit, nz_agg, nz_sl, nz1_sl, encLTSlot] at h
  first | (simp [h]; done) | (obtain ⟨⟩ := h; simp_all; done) | simp_all
@[simp] theorem c44f_fn (l : List TSlot) (t : Int) : c44f.fn [.sl false 3 yTSlot (ML encTSlot l), .lit (.int .i64 t)] [] = some ((fun (l : List TSlot) (t : Int) => l.length ≤ 1073741823) l t, (fun (l : List TSlot) (t : Int) => (.tup [.sl false 3 yTSlot (ML encTSlot (mTake l t)), dB (kTake l t)] : D)) l t, (fun (l : List TSlot) (t : Int) => []) l t) :=
  mkCon_fn (fun x y h _ => c44f_inj x y h) ((l, t) : (List TSlot) × Int) (by simp [nz, nz1, ML_nil, encLTSlot]) rfl
@[simp] theorem c44f_fn1 (s_l : Nat) (z_l : D) (t : Int) : c44f.fn [.sl false s_l z_l [], .lit (.int .i64 t)] [] = some ((fun (l : List TSlot) (t : Int) => l.length ≤ 1073741823) [] t, (fun (l : List TSlot) (t : Int) => (.tup [.sl false 3 yTSlot (ML encTSlot (mTake l t)), dB (kTake l t)] : D)) [] t, (fun (l : List TSlot) (t : Int) => []) [] t) :=
  mkCon_fn (fun x y h _ => c44f_inj x y h) (([], t) : (List TSlot) × Int) (by simp [nz, nz1, ML_nil, encLTSlot]) rfl
theorem c44f_pc (l : List TSlot) (t : Int) (hpre : l.length ≤ 1073741823) : PCo Try.prog 44 [encLTSlot l, dI t] (Tab.of []) (.tup [.sl false 3 yTSlot (ML encTSlot (mTake l t)), dB (kTake l t)]) (Tab.of []) := by
  exact pco_frz2 (by simp) (c44_pc l t hpre)
theorem c44f_ok : c44f.ok Try.prog := mkCon_ok fun ⟨l, t⟩ hpre => c44f_pc l t hpre
/-- loop.example/g03007/laws.FnShelves -/
theorem law6 (l : List Int) (wl : wfLU l) : PCo Try.prog 6 [encLU l] (Tab.of []) (dB true) (Tab.of []) := by
  refine pco_of_run [] (E := ⟨[c9, c41, c42f, c43, c44f, c45, c46, c47, c48], [], []⟩) (m := false) (base := 0) (Env.ok_cons c9_ok (Env.ok_cons c41_ok (Env.ok_cons c42f_ok (Env.ok_cons c43_ok (Env.ok_cons c44f_ok (Env.ok_cons c45_ok (Env.ok_cons c46_ok (Env.ok_cons c47_ok (Env.ok_cons c48_ok Env.ok_nil))))))))) G_ok mix 400 6 Try.func6 (by kernel_rfl) rfl (by kernel_rfl) (by kernel_rfl) rfl ?_
  have hl : l.length ≤ maxLen := wl.1
  by_cases hbig : 1048576 < l.length
  · simp [Try.f6, hbig]
  · have hp : l.length ≤ 2097152 := by omega
    have b1 := v41_ok l hp
    have b2 := v48_ok l hp
    have h1 := c41_fn l
    have h2 := c48_fn l
    generalize v41 l = X at *
    generalize v48 l = Y at *
    obtain ⟨L, x⟩ := X
    obtain ⟨a, t⟩ := Y
    simp only at b1 b2 h1 h2
    have hml := mPut_len L x
    have hmt := mTake_len a t
    have fin : kTake a t = false ∨ lookS t (mTake a t) = 0 ∧ mAreSlots (mTake a t) = true := by
      cases h : kTake a t with
      | false => exact .inl rfl
      | true => exact .inr (take_all h)
    cases hk : kPut L x with
    | true =>
      obtain ⟨p1, p2, p3, p4, p5, p6, p7⟩ := put_all hk
      simp (config := {maxSteps := 3000000}) [Try.f6, hbig, h1, h2, -c41_fn, -c48_fn, hk, p1, p2, p3, p4, p5, p6]
      have hcp : L.countP isFree ≤ L.length := List.countP_le_length
      repeat' (with_reducible first | apply And.intro | intro _)
      all_goals try (first | omega | assumption | (simp; done) | (simp only [below_eq, Int.reduceLT]; omega))
      refine loop_inv (fun p : Nat => p ≤ L.length) (fun p => [(0, encLU l), (3, encLTSlot L), (4, .ptr (0, 1) 0), (5, encLTSlot (mPut L x)), (7, dI (mSmall L x.Size)), (8, encLTSlot L), (10, dI p)]) (fun _ => [((0, 1), .box (encTThing x))]) 2 (fun p => L.length - p) 0 400 (by simp) (by simp) (by simp) ?_
      intro p hpL
      have q := p7 p
      simp (config := {maxSteps := 3000000}) [hbig, h2, -c48_fn]
      repeat' (with_reducible first | apply And.intro | intro _)
      all_goals try (first | omega | assumption | (simp; done) | (simp only [below_eq, Int.reduceLT]; omega))
      all_goals first | exact Again.mk (p + 1) (by omega) (by simp) (by first | omega | (simp; omega)) | exact fin | (have q2 := q (by omega) (by assumption); omega) | trace_state
    | false =>
      have e1 := mPut_no hk
      simp (config := {maxSteps := 3000000}) [Try.f6, hbig, h1, h2, -c41_fn, -c48_fn, hk, e1]
      repeat' (with_reducible first | apply And.intro | intro _)
      all_goals try (first | omega | assumption | (simp; done) | (simp only [below_eq, Int.reduceLT]; omega))
      all_goals first | exact fin | trace_state
theorem law6_pc (D0 : D) (h0 : Sh G 9 22 D0) : PC Try.prog 6 [D0] (dB true) [] := by
  obtain ⟨l, rfl, wl⟩ := sh22 (n := 7) h0
  exact law6 l wl

end Go.Proofs.Ytpnfkjbnhholfaa
