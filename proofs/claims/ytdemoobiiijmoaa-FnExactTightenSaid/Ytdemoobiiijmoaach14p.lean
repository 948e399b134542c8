/- Contracts of the functions that the laws run. -/
import Derived.Test.Ytdemoobiiijmoaach14h
import Derived.Test.Ytdemoobiiijmoaach14t
import Derived.Test.YtdemoobiiijmoaaEngB
namespace Go.Proofs.Ytdemoobiiijmoaa
open Go Go.Eng
set_option linter.unusedSimpArgs false
set_option linter.unusedVariables false
set_option maxRecDepth 10000
set_option maxHeartbeats 1000000
def putT (t : Int) (s : TSlot) : TSlot := ⟨s.Id, s.Size, t⟩
def putId (n t : Int) (s : TSlot) : TSlot := if s.Id = n then putT t s else s
def kPut (l : List TSlot) (x : TThing) : Bool := mAreSlots l && mIsThing x && decide (0 ≤ best l x.Size) && decide (indexBy (wantT x.Id) 0 l < 0)
def mPut (l : List TSlot) (x : TThing) : List TSlot := if kPut l x then l.map (putId (mSmall l x.Size) x.Id) else l
theorem mPut_yes {l : List TSlot} {x : TThing} (h : kPut l x = true) : mPut l x = l.map (putId (mSmall l x.Size) x.Id) := by simp [mPut, h]
theorem mPut_no {l : List TSlot} {x : TThing} (h : kPut l x = false) : mPut l x = l := by simp [mPut, h]
theorem mPut_len (l : List TSlot) (x : TThing) : (mPut l x).length = l.length := by simp only [mPut]; split <;> simp
theorem putId_none {n t : Int} : ∀ {l : List TSlot}, (∀ y ∈ l, ¬ y.Id = n) → l.map (putId n t) = l
  | [], _ => rfl
  | x :: l, h => by
    rw [List.map_cons, putId_none fun y hy => h y (by simp [hy])]
    rw [putId, if_neg (h x (by simp))]
theorem putId_set {ok : TSlot → Bool} {t : Int} : ∀ {l : List TSlot} {o : Option Int} {k : Nat}, ascBy ok nSlot o l = true → k < l.length → l.map (putId (l[k]?.getD default).Id t) = l.set k (putT t (l[k]?.getD default))
  | [], _, _, _, hk => by simp at hk
  | x :: l, o, 0, h, _ => by
    simp only [ascBy, Bool.and_eq_true] at h
    have h2 := slot_low h.2
    simp only [List.getElem?_cons_zero, Option.getD_some, List.map_cons, List.set_cons_zero]
    rw [putId_none fun y hy => by have := h2 y hy; simp only [nSlot] at this; omega]
    rw [putId, if_pos rfl]
  | x :: l, o, k + 1, h, hk => by
    simp only [ascBy, Bool.and_eq_true] at h
    have h2 := slot_low h.2
    simp only [List.length_cons] at hk
    have hk' : k < l.length := by omega
    have ih := putId_set (t := t) h.2 hk'
    simp only [List.getElem?_cons_succ, List.map_cons, List.set_cons_succ]
    rw [ih]
    have h3 := h2 _ (getD_mem (d := default) hk')
    simp only [nSlot] at h3
    rw [putId, if_neg (by omega)]
/-- loop.example/g03007/impl.PutAway -/
noncomputable def c15 : Con := mkCon 15 false (α := (List TSlot) × TThing) (fun x => (fun (l : List TSlot) (x : TThing) => [encLTSlot l, encTThing x]) x.1 x.2) (fun _ => []) (fun x => (fun (l : List TSlot) (x : TThing) => l.length ≤ 1048576) x.1 x.2) (fun x => (fun (l : List TSlot) (x : TThing) => (.tup [.own (0, 1) 3 0 (mPut l x).length, dB (kPut l x)] : D)) x.1 x.2) (fun x => (fun (l : List TSlot) (x : TThing) => [((0, 1), .arr false 3 yTSlot (ML encTSlot (mPut l x)))]) x.1 x.2)
@[simp] theorem c15_f : c15.f = 15 := rfl
@[simp] theorem c15_own : c15.own = false := rfl
theorem c15_inj : ∀ u_ v_ : (List TSlot) × TThing, ((fun x => (fun (l : List TSlot) (x : TThing) => [encLTSlot l, encTThing x]) x.1 x.2) u_).map nz = ((fun x => (fun (l : List TSlot) (x : TThing) => [encLTSlot l, encTThing x]) x.1 x.2) v_).map nz → u_ = v_ := by
  intro u_ v_ h
  obtain ⟨l, ⟨x_Id, x_Kind, x_Colour, x_Size, x_Worth⟩⟩ := u_
  obtain ⟨l', ⟨x_Id', x_Kind', x_Colour', x_Size', x_Worth'⟩⟩ := v_
  simp [nz_lit, nz1_lit, nz_agg, nz_sl, nz1_sl, encLTSlot, encTThing] at h
  first | (simp [h]; done) | (obtain ⟨⟩ := h; simp_all; done) | simp_all
@[simp] theorem c15_fn (l : List TSlot) (x_Id : Int) (x_Kind : Int) (x_Colour : Int) (x_Size : Int) (x_Worth : Int) : c15.fn [.sl false 3 yTSlot (ML encTSlot l), .agg [.lit (.int .i64 x_Id), .lit (.int .i64 x_Kind), .lit (.int .i64 x_Colour), .lit (.int .i64 x_Size), .lit (.int .i64 x_Worth)]] [] = some ((fun (l : List TSlot) (x : TThing) => l.length ≤ 1048576) l ⟨x_Id, x_Kind, x_Colour, x_Size, x_Worth⟩, (fun (l : List TSlot) (x : TThing) => (.tup [.own (0, 1) 3 0 (mPut l x).length, dB (kPut l x)] : D)) l ⟨x_Id, x_Kind, x_Colour, x_Size, x_Worth⟩, (fun (l : List TSlot) (x : TThing) => [((0, 1), .arr false 3 yTSlot (ML encTSlot (mPut l x)))]) l ⟨x_Id, x_Kind, x_Colour, x_Size, x_Worth⟩) :=
  mkCon_fn (fun x y h _ => c15_inj x y h) ((l, ⟨x_Id, x_Kind, x_Colour, x_Size, x_Worth⟩) : (List TSlot) × TThing) (by simp [nz, nz1, ML_nil, encLTSlot, encTThing]) rfl
@[simp] theorem c15_fn1 (s_l : Nat) (z_l : D) (x_Id : Int) (x_Kind : Int) (x_Colour : Int) (x_Size : Int) (x_Worth : Int) : c15.fn [.sl false s_l z_l [], .agg [.lit (.int .i64 x_Id), .lit (.int .i64 x_Kind), .lit (.int .i64 x_Colour), .lit (.int .i64 x_Size), .lit (.int .i64 x_Worth)]] [] = some ((fun (l : List TSlot) (x : TThing) => l.length ≤ 1048576) [] ⟨x_Id, x_Kind, x_Colour, x_Size, x_Worth⟩, (fun (l : List TSlot) (x : TThing) => (.tup [.own (0, 1) 3 0 (mPut l x).length, dB (kPut l x)] : D)) [] ⟨x_Id, x_Kind, x_Colour, x_Size, x_Worth⟩, (fun (l : List TSlot) (x : TThing) => [((0, 1), .arr false 3 yTSlot (ML encTSlot (mPut l x)))]) [] ⟨x_Id, x_Kind, x_Colour, x_Size, x_Worth⟩) :=
  mkCon_fn (fun x y h _ => c15_inj x y h) (([], ⟨x_Id, x_Kind, x_Colour, x_Size, x_Worth⟩) : (List TSlot) × TThing) (by simp [nz, nz1, ML_nil, encLTSlot, encTThing]) rfl
theorem c15_pc (l : List TSlot) (x : TThing) (hpre : l.length ≤ 1048576) : PCo Try.prog 15 [encLTSlot l, encTThing x] (Tab.of []) (.tup [.own (0, 1) 3 0 (mPut l x).length, dB (kPut l x)]) (Tab.of [((0, 1), .arr false 3 yTSlot (ML encTSlot (mPut l x)))]) := by
  refine pco_of_run [] (E := ⟨[c32, c37, c38, c39, c40], [], []⟩) (m := false) (base := 0) (Env.ok_cons c32_ok (Env.ok_cons c37_ok (Env.ok_cons c38_ok (Env.ok_cons c39_ok (Env.ok_cons c40_ok Env.ok_nil))))) G_ok mix 300 6 Try.func15 (by kernel_rfl) rfl (by kernel_rfl) (by kernel_rfl) rfl ?_
  have hb := indexBy_bd (want := wantT x.Id) l 0
  have hbl := best_lt l x.Size
  cases h1 : mAreSlots l with
  | false =>
    have hk : kPut l x = false := by simp [kPut, h1]
    rw [mPut_no hk, hk]
    obtain ⟨x_Id, x_Kind, x_Colour, x_Size, x_Worth⟩ := x
    simp [Try.f15, h1]
    omega
  | true =>
    cases h2 : mIsThing x with
    | false =>
      have hk : kPut l x = false := by simp [kPut, h2]
      rw [mPut_no hk, hk]
      obtain ⟨x_Id, x_Kind, x_Colour, x_Size, x_Worth⟩ := x
      simp [Try.f15, h1, h2]
      omega
    | true =>
      by_cases h3 : best l x.Size < 0
      · have hk : kPut l x = false := by simp [kPut]; intro _ _ _; omega
        rw [mPut_no hk, hk]
        obtain ⟨x_Id, x_Kind, x_Colour, x_Size, x_Worth⟩ := x
        simp at h3
        simp [Try.f15, h1, h2, h3]
        omega
      · by_cases h4 : indexBy (wantT x.Id) 0 l < 0
        · have hk : kPut l x = true := by simp [kPut, h1, h2, h4]; omega
          obtain ⟨k, hkb⟩ : ∃ k : Nat, best l x.Size = k := ⟨(best l x.Size).toNat, by omega⟩
          have hm : l.map (putId (mSmall l x.Size) x.Id) = l.set k (putT x.Id (l[k]?.getD default)) := by
            rw [mSmall, if_neg h3, hkb]
            exact putId_set (slot_valid h1) (by omega)
          rw [mPut_yes hk, hk, hm]
          obtain ⟨x_Id, x_Kind, x_Colour, x_Size, x_Worth⟩ := x
          simp at h3 h4 hkb hbl
          have h5 : ¬ 0 ≤ indexBy (wantT x_Id) 0 l := by omega
          simp [Try.f15, h1, h2, hkb, h4, putT]
          omega
        · have hk : kPut l x = false := by simp [kPut]; intro _ _ _; omega
          rw [mPut_no hk, hk]
          obtain ⟨x_Id, x_Kind, x_Colour, x_Size, x_Worth⟩ := x
          simp at h3 h4
          have h5 : ¬ best l x_Size < 0 := by omega
          simp [Try.f15, h1, h2, h4, h5]
          omega
theorem c15_ok : c15.ok Try.prog := mkCon_ok fun ⟨l, x⟩ hpre => c15_pc l x hpre
/-- loop.example/g03007/spec.PutAway -/
noncomputable def c13 : Con := mkCon 13 false (α := (List TSlot) × TThing) (fun x => (fun (l : List TSlot) (x : TThing) => [encLTSlot l, encTThing x]) x.1 x.2) (fun _ => []) (fun x => (fun (l : List TSlot) (x : TThing) => l.length ≤ 1048576) x.1 x.2) (fun x => (fun (l : List TSlot) (x : TThing) => (.tup [.own (0, 1) 3 0 (mPut l x).length, dB (kPut l x)] : D)) x.1 x.2) (fun x => (fun (l : List TSlot) (x : TThing) => [((0, 1), .arr false 3 yTSlot (ML encTSlot (mPut l x)))]) x.1 x.2)
@[simp] theorem c13_f : c13.f = 13 := rfl
@[simp] theorem c13_own : c13.own = false := rfl
theorem c13_inj : ∀ u_ v_ : (List TSlot) × TThing, ((fun x => (fun (l : List TSlot) (x : TThing) => [encLTSlot l, encTThing x]) x.1 x.2) u_).map nz = ((fun x => (fun (l : List TSlot) (x : TThing) => [encLTSlot l, encTThing x]) x.1 x.2) v_).map nz → u_ = v_ := by
  intro u_ v_ h
  obtain ⟨l, ⟨x_Id, x_Kind, x_Colour, x_Size, x_Worth⟩⟩ := u_
  obtain ⟨l', ⟨x_Id', x_Kind', x_Colour', x_Size', x_Worth'⟩⟩ := v_
  simp [nz_lit, nz1_lit, nz_agg, nz_sl, nz1_sl, encLTSlot, encTThing] at h
  first | (simp [h]; done) | (obtain ⟨⟩ := h; simp_all; done) | simp_all
@[simp] theorem c13_fn (l : List TSlot) (x_Id : Int) (x_Kind : Int) (x_Colour : Int) (x_Size : Int) (x_Worth : Int) : c13.fn [.sl false 3 yTSlot (ML encTSlot l), .agg [.lit (.int .i64 x_Id), .lit (.int .i64 x_Kind), .lit (.int .i64 x_Colour), .lit (.int .i64 x_Size), .lit (.int .i64 x_Worth)]] [] = some ((fun (l : List TSlot) (x : TThing) => l.length ≤ 1048576) l ⟨x_Id, x_Kind, x_Colour, x_Size, x_Worth⟩, (fun (l : List TSlot) (x : TThing) => (.tup [.own (0, 1) 3 0 (mPut l x).length, dB (kPut l x)] : D)) l ⟨x_Id, x_Kind, x_Colour, x_Size, x_Worth⟩, (fun (l : List TSlot) (x : TThing) => [((0, 1), .arr false 3 yTSlot (ML encTSlot (mPut l x)))]) l ⟨x_Id, x_Kind, x_Colour, x_Size, x_Worth⟩) :=
  mkCon_fn (fun x y h _ => c13_inj x y h) ((l, ⟨x_Id, x_Kind, x_Colour, x_Size, x_Worth⟩) : (List TSlot) × TThing) (by simp [nz, nz1, ML_nil, encLTSlot, encTThing]) rfl
@[simp] theorem c13_fn1 (s_l : Nat) (z_l : D) (x_Id : Int) (x_Kind : Int) (x_Colour : Int) (x_Size : Int) (x_Worth : Int) : c13.fn [.sl false s_l z_l [], .agg [.lit (.int .i64 x_Id), .lit (.int .i64 x_Kind), .lit (.int .i64 x_Colour), .lit (.int .i64 x_Size), .lit (.int .i64 x_Worth)]] [] = some ((fun (l : List TSlot) (x : TThing) => l.length ≤ 1048576) [] ⟨x_Id, x_Kind, x_Colour, x_Size, x_Worth⟩, (fun (l : List TSlot) (x : TThing) => (.tup [.own (0, 1) 3 0 (mPut l x).length, dB (kPut l x)] : D)) [] ⟨x_Id, x_Kind, x_Colour, x_Size, x_Worth⟩, (fun (l : List TSlot) (x : TThing) => [((0, 1), .arr false 3 yTSlot (ML encTSlot (mPut l x)))]) [] ⟨x_Id, x_Kind, x_Colour, x_Size, x_Worth⟩) :=
  mkCon_fn (fun x y h _ => c13_inj x y h) (([], ⟨x_Id, x_Kind, x_Colour, x_Size, x_Worth⟩) : (List TSlot) × TThing) (by simp [nz, nz1, ML_nil, encLTSlot, encTThing]) rfl
theorem c13_pc (l : List TSlot) (x : TThing) (hpre : l.length ≤ 1048576) : PCo Try.prog 13 [encLTSlot l, encTThing x] (Tab.of []) (.tup [.own (0, 1) 3 0 (mPut l x).length, dB (kPut l x)]) (Tab.of [((0, 1), .arr false 3 yTSlot (ML encTSlot (mPut l x)))]) := by
  refine pco_of_run [] (E := ⟨[c9, c34, c35, c36], [], []⟩) (m := false) (base := 0) (Env.ok_cons c9_ok (Env.ok_cons c34_ok (Env.ok_cons c35_ok (Env.ok_cons c36_ok Env.ok_nil)))) G_ok mix 300 6 Try.func13 (by kernel_rfl) rfl (by kernel_rfl) (by kernel_rfl) rfl ?_
  have hb := indexBy_bd (want := wantT x.Id) l 0
  have hbl := best_lt l x.Size
  have hz := look_index (t := x.Id) l 0 (by omega)
  by_cases hk : kPut l x = true
  · have hk' := hk
    simp only [kPut, Bool.and_eq_true, decide_eq_true_eq] at hk'
    obtain ⟨⟨⟨h1, h2⟩, h3⟩, h4⟩ := hk'
    have h5 : lookS x.Id l = 0 := by
      rcases hz with hz | ⟨k, hz1, hz2, hz3⟩
      · exact hz.2
      · omega
    obtain ⟨k, hkb⟩ : ∃ k : Nat, best l x.Size = k := ⟨(best l x.Size).toNat, by omega⟩
    have hkl : k < l.length := by omega
    have hms : mSmall l x.Size = (l[k]?.getD default).Id := by rw [mSmall, if_neg (by omega), hkb]; rfl
    have hid : ¬ mSmall l x.Size = 0 := by
      have := asc_ok (slot_valid h1) _ (getD_mem (d := default) hkl)
      simp [mIsSlot, mIn] at this
      rw [hms]; omega
    generalize hn : mSmall l x.Size = n at hid
    have hmp : mPut l x = l.map (putId n x.Id) := by rw [mPut_yes hk, hn]
    rw [hk, hmp]
    obtain ⟨x_Id, x_Kind, x_Colour, x_Size, x_Worth⟩ := x
    simp at hn h5
    simp [Try.f13, h1, h2, h5, hn, hid]
    have hget : ∀ (p : Nat), p < l.length → ((l.map (putId n x_Id)).take p ++ l.drop p)[p]?.getD default = l[p]?.getD default := fun p hlt => by
      rw [List.getElem?_append_right (by simp; omega)]
      have : ((l.map (putId n x_Id)).take p).length = p := by simp; omega
      rw [this, Nat.sub_self]; simp
    have hstep : ∀ (p : Nat), p < l.length → (l.map (putId n x_Id)).take (p + 1) ++ l.drop (p + 1) = (l.map (putId n x_Id)).take p ++ putId n x_Id (l[p]?.getD default) :: l.drop (p + 1) := fun p hlt => by
      rw [← List.map_take, ← List.map_take, take_at (d := default) hlt]; simp
    have hstay : ∀ (p : Nat), p < l.length → ¬ (l[p]?.getD default).Id = n → (l.map (putId n x_Id)).take p ++ l.drop p = (l.map (putId n x_Id)).take (p + 1) ++ l.drop (p + 1) := fun p hlt hne => by
      rw [hstep p hlt, putId, if_neg hne, drop_at (d := default) hlt]
    have hset : ∀ (p : Nat), p < l.length → (l[p]?.getD default).Id = n → (l.map (putId n x_Id)).take p ++ (l.drop p).set 0 ⟨(l[p]?.getD default).Id, (l[p]?.getD default).Size, x_Id⟩ = (l.map (putId n x_Id)).take (p + 1) ++ l.drop (p + 1) := fun p hlt he => by
      rw [hstep p hlt, putId, if_pos he, drop_at (d := default) hlt, List.set_cons_zero]; rfl
    refine ⟨by omega, by omega, ?_⟩
    refine loop_inv (fun p : Nat => p ≤ l.length) (fun p => [(3, .ptr (1, 1) 0), (6, .own (0, 1) 3 0 l.length), (7, dI n), (8, dI p)]) (fun p => [((0, 1), .arr false 3 yTSlot (ML encTSlot ((l.map (putId n x_Id)).take p ++ l.drop p))), ((1, 1), .box (encTThing ⟨x_Id, x_Kind, x_Colour, x_Size, x_Worth⟩))]) 2 (fun p => l.length - p) 0 400 (by simp) (by simp) (by simp) ?_
    intro p hp
    simp
    refine ⟨fun hlt => ?_, fun hge => ?_⟩
    · simp only [hget p hlt]
      refine ⟨⟨hlt, by omega⟩, fun he => ⟨⟨hlt, by omega⟩, ⟨by omega, by omega⟩, ?_⟩, fun hne => ⟨⟨by omega, by omega⟩, ?_⟩⟩
      · have hs := hset p hlt he
        refine Again.mk (p + 1) (by omega) ?_ (by first | omega | (simp; omega))
        simp
        have hlen : ((l.map (putId n x_Id)).take p).length = p := by simp; omega
        rw [List.set_append_right _ _ (by omega), hlen, Nat.sub_self]
        exact hs
      · have hs := hstay p hlt hne
        refine Again.mk (p + 1) (by omega) ?_ (by first | omega | (simp; omega))
        simp
        exact hs
    · rw [List.take_of_length_le (by simp; omega), List.drop_eq_nil_of_le hge]; simp
  · simp only [Bool.not_eq_true] at hk
    rw [mPut_no hk, hk]
    have hcase : mAreSlots l = false ∨ mIsThing x = false ∨ mSmall l x.Size = 0 ∨ (mAreSlots l = true ∧ mIsThing x = true ∧ ¬ mSmall l x.Size = 0 ∧ ¬ lookS x.Id l = 0) := by
      cases h1 : mAreSlots l with
      | false => exact .inl rfl
      | true =>
        cases h2 : mIsThing x with
        | false => exact .inr (.inl rfl)
        | true =>
          by_cases h3 : mSmall l x.Size = 0
          · exact .inr (.inr (.inl h3))
          · refine .inr (.inr (.inr ⟨rfl, rfl, h3, ?_⟩))
            have hb0 : 0 ≤ best l x.Size := by
              by_cases hh : best l x.Size < 0
              · rw [mSmall, if_pos hh] at h3; exact absurd rfl h3
              · omega
            simp [kPut, h1, h2, hb0] at hk
            rcases hz with hz | ⟨k, hz1, hz2, hz3⟩
            · omega
            · have := asc_ok (slot_valid h1) _ (getD_mem (d := default) hz1)
              simp [mIsSlot, mIn] at this
              rw [hz3]; omega
    obtain ⟨x_Id, x_Kind, x_Colour, x_Size, x_Worth⟩ := x
    simp at hcase
    rcases hcase with h | h | h | ⟨h1, h2, h3, h4⟩
    · simp [Try.f13, h]
      omega
    · cases h1 : mAreSlots l <;> simp [Try.f13, h, h1] <;> omega
    · cases h1 : mAreSlots l <;> cases h2 : mIsThing ⟨x_Id, x_Kind, x_Colour, x_Size, x_Worth⟩ <;> simp [Try.f13, h, h1, h2] <;> omega
    · simp [Try.f13, h1, h2, h3, h4]
      omega
theorem c13_ok : c13.ok Try.prog := mkCon_ok fun ⟨l, x⟩ hpre => c13_pc l x hpre
/-- loop.example/g03007/laws.FnExactPutAway -/
theorem law4 (l : List TSlot) (wl : wfLTSlot l) (x : TThing) (wx : wfTThing x) : PCo Try.prog 4 [encLTSlot l, encTThing x] (Tab.of []) (dB true) (Tab.of []) := by
  obtain ⟨x_Id, x_Kind, x_Colour, x_Size, x_Worth⟩ := x
  refine pco_of_run [1005, 1024, 2000008, 2000012, 2000013, 2000015, 2000016, 2000017] (E := ⟨[c8, c10, c12, c13, c14, c15, c16, c17], [], []⟩) (m := false) (base := 0) (Env.ok_cons c8_ok (Env.ok_cons c10_ok (Env.ok_cons c12_ok (Env.ok_cons c13_ok (Env.ok_cons c14_ok (Env.ok_cons c15_ok (Env.ok_cons c16_ok (Env.ok_cons c17_ok Env.ok_nil)))))))) G_ok mix 400 6 Try.func4 (by kernel_rfl) rfl (by kernel_rfl) (by kernel_rfl) rfl ?_
  simp (config := {maxSteps := 3000000}) [Try.f4]
  have h1 : l.length ≤ maxLen := wl.1
  have hb := mPut_len l ⟨x_Id, x_Kind, x_Colour, x_Size, x_Worth⟩
  refine ⟨h1, fun h => ?_⟩
  split at h
  · omega
  · repeat' (first | omega | refine And.intro ?_ ?_ | intro _)
theorem law4_pc (D0 : D) (h0 : Sh G 9 22 D0) (D1 : D) (h1 : Sh G 9 30 D1) : PC Try.prog 4 [D0, D1] (dB true) [] := by
  obtain ⟨l, rfl, wl⟩ := sh22 (n := 6) h0
  obtain ⟨x, rfl, wx⟩ := sh30 (n := 7) h1
  exact law4 l wl x wx

end Go.Proofs.Ytdemoobiiijmoaa
