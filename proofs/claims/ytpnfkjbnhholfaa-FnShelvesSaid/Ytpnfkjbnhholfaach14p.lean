/- Contracts of the functions that the laws run. -/
import Derived.Test.Ytpnfkjbnhholfaach14h
import Derived.Test.Ytpnfkjbnhholfaach14t
import Derived.Test.YtpnfkjbnhholfaaEngB
namespace Go.Proofs.Ytpnfkjbnhholfaa
open Go Go.Eng
set_option linter.unusedSimpArgs false
set_option linter.unusedVariables false
set_option maxRecDepth 10000
set_option maxHeartbeats 1000000
def putT (t : Int) (s : TSlot) : TSlot := ⟨s.Id, s.Size, t⟩
def putId (n t : Int) (s : TSlot) : TSlot := if s.Id = n then putT t s else s
def kPut (l : List TSlot) (x : TThing) : Bool := mAreSlots l && mIsThing x && decide (0 ≤ best l x.Size) && decide (indexBy (wantT x.Id) 0 l < 0)
def mPut (l : List TSlot) (x : TThing) : List TSlot := if kPut l x then l.map (putId (mSmall l x.Size) x.Id) else l
theorem mPut_yes {l : List TSlot} {x : TThing} (h : kPut l x = true) : mPut l x = l.map (putId (mSmall l x.Size) x.Id) := by simp [mPut, h]
theorem mPut_no {l : List TSlot} {x : TThing} (h : kPut l x = false) : mPut l x = l := by simp [mPut, h]
theorem mPut_len (l : List TSlot) (x : TThing) : (mPut l x).length = l.length := by simp only [mPut]; split <;> simp
theorem putId_none {n t : Int} : ∀ {l : List TSlot}, (∀ y ∈ l, ¬ y.Id = n) → l.map (putId n t) = l
  | [], _ => rfl
  | x :: l, h => by
    rw [List.map_cons, putId_none fun y hy => h y (by simp [hy])]
    rw [putId, if_neg (h x (by simp))]
theorem putId_set {ok : TSlot → Bool} {t : Int} : ∀ {l : List TSlot} {o : Option Int} {k : Nat}, ascBy ok nSlot o l = true → k < l.length → l.map (putId (l[k]?.getD default).Id t) = l.set k (putT t (l[k]?.getD default))
  | [], _, _, _, hk => by simp at hk
  | x :: l, o, 0, h, _ => by
    simp only [ascBy, Bool.and_eq_true] at h
    have h2 := slot_low h.2
    simp only [List.getElem?_cons_zero, Option.getD_some, List.map_cons, List.set_cons_zero]
    rw [putId_none fun y hy => by have := h2 y hy; simp only [nSlot] at this; omega]
    rw [putId, if_pos rfl]
  | x :: l, o, k + 1, h, hk => by
    simp only [ascBy, Bool.and_eq_true] at h
    have h2 := slot_low h.2
    simp only [List.length_cons] at hk
    have hk' : k < l.length := by omega
    have ih := putId_set (t := t) h.2 hk'
    simp only [List.getElem?_cons_succ, List.map_cons, List.set_cons_succ]
    rw [ih]
    have h3 := h2 _ (getD_mem (d := default) hk')
    simp only [nSlot] at h3
    rw [putId, if_neg (by omega)]
/-- loop.example/g03007/impl.PutAway -/
noncomputable def c42 : Con := mkCon 42 false (α := (List TSlot) × TThing) (fun x => (fun (l : List TSlot) (x : TThing) => [encLTSlot l, encTThing x]) x.1 x.2) (fun _ => []) (fun x => (fun (l : List TSlot) (x : TThing) => l.length ≤ 1048576) x.1 x.2) (fun x => (fun (l : List TSlot) (x : TThing) => (.tup [.own (0, 1) 3 0 (mPut l x).length, dB (kPut l x)] : D)) x.1 x.2) (fun x => (fun (l : List TSlot) (x : TThing) => [((0, 1), .arr false 3 yTSlot (ML encTSlot (mPut l x)))]) x.1 x.2)
@[simp] theorem c42_f : c42.f = 42 := rfl
@[simp] theorem c42_own : c42.own = false := rfl
theorem c42_inj : ∀ u_ v_ : (List TSlot) × TThing, ((fun x => (fun (l : List TSlot) (x : TThing) => [encLTSlot l, encTThing x]) x.1 x.2) u_).map nz = ((fun x => (fun (l : List TSlot) (x : TThing) => [encLTSlot l, encTThing x]) x.1 x.2) v_).map nz → u_ = v_ := by
  intro u_ v_ h
  obtain ⟨l, ⟨x_Id, x_Kind, x_Colour, x_Size, x_Worth⟩⟩ := u_
  obtain ⟨l', ⟨x_Id', x_Kind', x_Colour', x_Size', x_Worth'⟩⟩ := v_
  simp [nz_lit, nz1_lit, nz_agg, nz_sl, nz1_sl, encLTSlot, encTThing] at h
  first | (simp [h]; done) | (obtain ⟨⟩ := h; simp_all; done) | simp_all
@[simp] theorem c42_fn (l : List TSlot) (x_Id : Int) (x_Kind : Int) (x_Colour : Int) (x_Size : Int) (x_Worth : Int) : c42.fn [.sl false 3 yTSlot (ML encTSlot l), .agg [.lit (.int .i64 x_Id), .lit (.int .i64 x_Kind), .lit (.int .i64 x_Colour), .lit (.int .i64 x_Size), .lit (.int .i64 x_Worth)]] [] = some ((fun (l : List TSlot) (x : TThing) => l.length ≤ 1048576) l ⟨x_Id, x_Kind, x_Colour, x_Size, x_Worth⟩, (fun (l : List TSlot) (x : TThing) => (.tup [.own (0, 1) 3 0 (mPut l x).length, dB (kPut l x)] : D)) l ⟨x_Id, x_Kind, x_Colour, x_Size, x_Worth⟩, (fun (l : List TSlot) (x : TThing) => [((0, 1), .arr false 3 yTSlot (ML encTSlot (mPut l x)))]) l ⟨x_Id, x_Kind, x_Colour, x_Size, x_Worth⟩) :=
  mkCon_fn (fun x y h _ => c42_inj x y h) ((l, ⟨x_Id, x_Kind, x_Colour, x_Size, x_Worth⟩) : (List TSlot) × TThing) (by simp [nz, nz1, ML_nil, encLTSlot, encTThing]) rfl
@[simp] theorem c42_fn1 (s_l : Nat) (z_l : D) (x_Id : Int) (x_Kind : Int) (x_Colour : Int) (x_Size : Int) (x_Worth : Int) : c42.fn [.sl false s_l z_l [], .agg [.lit (.int .i64 x_Id), .lit (.int .i64 x_Kind), .lit (.int .i64 x_Colour), .lit (.int .i64 x_Size), .lit (.int .i64 x_Worth)]] [] = some ((fun (l : List TSlot) (x : TThing) => l.length ≤ 1048576) [] ⟨x_Id, x_Kind, x_Colour, x_Size, x_Worth⟩, (fun (l : List TSlot) (x : TThing) => (.tup [.own (0, 1) 3 0 (mPut l x).length, dB (kPut l x)] : D)) [] ⟨x_Id, x_Kind, x_Colour, x_Size, x_Worth⟩, (fun (l : List TSlot) (x : TThing) => [((0, 1), .arr false 3 yTSlot (ML encTSlot (mPut l x)))]) [] ⟨x_Id, x_Kind, x_Colour, x_Size, x_Worth⟩) :=
  mkCon_fn (fun x y h _ => c42_inj x y h) (([], ⟨x_Id, x_Kind, x_Colour, x_Size, x_Worth⟩) : (List TSlot) × TThing) (by simp [nz, nz1, ML_nil, encLTSlot, encTThing]) rfl
theorem c42_pc (l : List TSlot) (x : TThing) (hpre : l.length ≤ 1048576) : PCo Try.prog 42 [encLTSlot l, encTThing x] (Tab.of []) (.tup [.own (0, 1) 3 0 (mPut l x).length, dB (kPut l x)]) (Tab.of [((0, 1), .arr false 3 yTSlot (ML encTSlot (mPut l x)))]) := by
  refine pco_of_run [] (E := ⟨[c45, c111, c112, c113, c114], [], []⟩) (m := false) (base := 0) (Env.ok_cons c45_ok (Env.ok_cons c111_ok (Env.ok_cons c112_ok (Env.ok_cons c113_ok (Env.ok_cons c114_ok Env.ok_nil))))) G_ok mix 300 6 Try.func42 (by kernel_rfl) rfl (by kernel_rfl) (by kernel_rfl) rfl ?_
  have hb := indexBy_bd (want := wantT x.Id) l 0
  have hbl := best_lt l x.Size
  cases h1 : mAreSlots l with
  | false =>
    have hk : kPut l x = false := by simp [kPut, h1]
    rw [mPut_no hk, hk]
    obtain ⟨x_Id, x_Kind, x_Colour, x_Size, x_Worth⟩ := x
    simp [Try.f42, h1]
    omega
  | true =>
    cases h2 : mIsThing x with
    | false =>
      have hk : kPut l x = false := by simp [kPut, h2]
      rw [mPut_no hk, hk]
      obtain ⟨x_Id, x_Kind, x_Colour, x_Size, x_Worth⟩ := x
      simp [Try.f42, h1, h2]
      omega
    | true =>
      by_cases h3 : best l x.Size < 0
      · have hk : kPut l x = false := by simp [kPut]; intro _ _ _; omega
        rw [mPut_no hk, hk]
        obtain ⟨x_Id, x_Kind, x_Colour, x_Size, x_Worth⟩ := x
        simp at h3
        simp [Try.f42, h1, h2, h3]
        omega
      · by_cases h4 : indexBy (wantT x.Id) 0 l < 0
        · have hk : kPut l x = true := by simp [kPut, h1, h2, h4]; omega
          obtain ⟨k, hkb⟩ : ∃ k : Nat, best l x.Size = k := ⟨(best l x.Size).toNat, by omega⟩
          have hm : l.map (putId (mSmall l x.Size) x.Id) = l.set k (putT x.Id (l[k]?.getD default)) := by
            rw [mSmall, if_neg h3, hkb]
            exact putId_set (slot_valid h1) (by omega)
          rw [mPut_yes hk, hk, hm]
          obtain ⟨x_Id, x_Kind, x_Colour, x_Size, x_Worth⟩ := x
          simp at h3 h4 hkb hbl
          have h5 : ¬ 0 ≤ indexBy (wantT x_Id) 0 l := by omega
          simp [Try.f42, h1, h2, hkb, h4, putT]
          omega
        · have hk : kPut l x = false := by simp [kPut]; intro _ _ _; omega
          rw [mPut_no hk, hk]
          obtain ⟨x_Id, x_Kind, x_Colour, x_Size, x_Worth⟩ := x
          simp at h3 h4
          have h5 : ¬ best l x_Size < 0 := by omega
          simp [Try.f42, h1, h2, h4, h5]
          omega
theorem c42_ok : c42.ok Try.prog := mkCon_ok fun ⟨l, x⟩ hpre => c42_pc l x hpre
/-- loop.example/g03007/spec.PutAway -/
noncomputable def c204 : Con := mkCon 204 false (α := (List TSlot) × TThing) (fun x => (fun (l : List TSlot) (x : TThing) => [encLTSlot l, encTThing x]) x.1 x.2) (fun _ => []) (fun x => (fun (l : List TSlot) (x : TThing) => l.length ≤ 1048576) x.1 x.2) (fun x => (fun (l : List TSlot) (x : TThing) => (.tup [.own (0, 1) 3 0 (mPut l x).length, dB (kPut l x)] : D)) x.1 x.2) (fun x => (fun (l : List TSlot) (x : TThing) => [((0, 1), .arr false 3 yTSlot (ML encTSlot (mPut l x)))]) x.1 x.2)
@[simp] theorem c204_f : c204.f = 204 := rfl
@[simp] theorem c204_own : c204.own = false := rfl
theorem c204_inj : ∀ u_ v_ : (List TSlot) × TThing, ((fun x => (fun (l : List TSlot) (x : TThing) => [encLTSlot l, encTThing x]) x.1 x.2) u_).map nz = ((fun x => (fun (l : List TSlot) (x : TThing) => [encLTSlot l, encTThing x]) x.1 x.2) v_).map nz → u_ = v_ := by
  intro u_ v_ h
  obtain ⟨l, ⟨x_Id, x_Kind, x_Colour, x_Size, x_Worth⟩⟩ := u_
  obtain ⟨l', ⟨x_Id', x_Kind', x_Colour', x_Size', x_Worth'⟩⟩ := v_
  simp [nz_lit, nz1_lit, nz_agg, nz_sl, nz1_sl, encLTSlot, encTThing] at h
  first | (simp [h]; done) | (obtain ⟨⟩ := h; simp_all; done) | simp_all
@[simp] theorem c204_fn (l : List TSlot) (x_Id : Int) (x_Kind : Int) (x_Colour : Int) (x_Size : Int) (x_Worth : Int) : c204.fn [.sl false 3 yTSlot (ML encTSlot l), .agg [.lit (.int .i64 x_Id), .lit (.int .i64 x_Kind), .lit (.int .i64 x_Colour), .lit (.int .i64 x_Size), .lit (.int .i64 x_Worth)]] [] = some ((fun (l : List TSlot) (x : TThing) => l.length ≤ 1048576) l ⟨x_Id, x_Kind, x_Colour, x_Size, x_Worth⟩, (fun (l : List TSlot) (x : TThing) => (.tup [.own (0, 1) 3 0 (mPut l x).length, dB (kPut l x)] : D)) l ⟨x_Id, x_Kind, x_Colour, x_Size, x_Worth⟩, (fun (l : List TSlot) (x : TThing) => [((0, 1), .arr false 3 yTSlot (ML encTSlot (mPut l x)))]) l ⟨x_Id, x_Kind, x_Colour, x_Size, x_Worth⟩) :=
  mkCon_fn (fun x y h _ => c204_inj x y h) ((l, ⟨x_Id, x_Kind, x_Colour, x_Size, x_Worth⟩) : (List TSlot) × TThing) (by simp [nz, nz1, ML_nil, encLTSlot, encTThing]) rfl
@[simp] theorem c204_fn1 (s_l : Nat) (z_l : D) (x_Id : Int) (x_Kind : Int) (x_Colour : Int) (x_Size : Int) (x_Worth : Int) : c204.fn [.sl false s_l z_l [], .agg [.lit (.int .i64 x_Id), .lit (.int .i64 x_Kind), .lit (.int .i64 x_Colour), .lit (.int .i64 x_Size), .lit (.int .i64 x_Worth)]] [] = some ((fun (l : List TSlot) (x : TThing) => l.length ≤ 1048576) [] ⟨x_Id, x_Kind, x_Colour, x_Size, x_Worth⟩, (fun (l : List TSlot) (x : TThing) => (.tup [.own (0, 1) 3 0 (mPut l x).length, dB (kPut l x)] : D)) [] ⟨x_Id, x_Kind, x_Colour, x_Size, x_Worth⟩, (fun (l : List TSlot) (x : TThing) => [((0, 1), .arr false 3 yTSlot (ML encTSlot (mPut l x)))]) [] ⟨x_Id, x_Kind, x_Colour, x_Size, x_Worth⟩) :=
  mkCon_fn (fun x y h _ => c204_inj x y h) (([], ⟨x_Id, x_Kind, x_Colour, x_Size, x_Worth⟩) : (List TSlot) × TThing) (by simp [nz, nz1, ML_nil, encLTSlot, encTThing]) rfl
theorem c204_pc (l : List TSlot) (x : TThing) (hpre : l.length ≤ 1048576) : PCo Try.prog 204 [encLTSlot l, encTThing x] (Tab.of []) (.tup [.own (0, 1) 3 0 (mPut l x).length, dB (kPut l x)]) (Tab.of [((0, 1), .arr false 3 yTSlot (ML encTSlot (mPut l x)))]) := by
  refine pco_of_run [] (E := ⟨[c225, c226, c227, c228], [], []⟩) (m := false) (base := 0) (Env.ok_cons c225_ok (Env.ok_cons c226_ok (Env.ok_cons c227_ok (Env.ok_cons c228_ok Env.ok_nil)))) G_ok mix 300 6 Try.func204 (by kernel_rfl) rfl (by kernel_rfl) (by kernel_rfl) rfl ?_
  have hb := indexBy_bd (want := wantT x.Id) l 0
  have hbl := best_lt l x.Size
  have hz := look_index (t := x.Id) l 0 (by omega)
  by_cases hk : kPut l x = true
  · have hk' := hk
    simp only [kPut, Bool.and_eq_true, decide_eq_true_eq] at hk'
    obtain ⟨⟨⟨h1, h2⟩, h3⟩, h4⟩ := hk'
    have h5 : lookS x.Id l = 0 := by
      rcases hz with hz | ⟨k, hz1, hz2, hz3⟩
      · exact hz.2
      · omega
    obtain ⟨k, hkb⟩ : ∃ k : Nat, best l x.Size = k := ⟨(best l x.Size).toNat, by omega⟩
    have hkl : k < l.length := by omega
    have hms : mSmall l x.Size = (l[k]?.getD default).Id := by rw [mSmall, if_neg (by omega), hkb]; rfl
    have hid : ¬ mSmall l x.Size = 0 := by
      have := asc_ok (slot_valid h1) _ (getD_mem (d := default) hkl)
      simp [mIsSlot, mIn] at this
      rw [hms]; omega
    generalize hn : mSmall l x.Size = n at hid
    have hmp : mPut l x = l.map (putId n x.Id) := by rw [mPut_yes hk, hn]
    rw [hk, hmp]
    obtain ⟨x_Id, x_Kind, x_Colour, x_Size, x_Worth⟩ := x
    simp at hn h5
    simp [Try.f204, h1, h2, h5, hn, hid]
    have hget : ∀ (p : Nat), p < l.length → ((l.map (putId n x_Id)).take p ++ l.drop p)[p]?.getD default = l[p]?.getD default := fun p hlt => by
      rw [List.getElem?_append_right (by simp; omega)]
      have : ((l.map (putId n x_Id)).take p).length = p := by simp; omega
      rw [this, Nat.sub_self]; simp
    have hstep : ∀ (p : Nat), p < l.length → (l.map (putId n x_Id)).take (p + 1) ++ l.drop (p + 1) = (l.map (putId n x_Id)).take p ++ putId n x_Id (l[p]?.getD default) :: l.drop (p + 1) := fun p hlt => by
      rw [← List.map_take, ← List.map_take, take_at (d := default) hlt]; simp
    have hstay : ∀ (p : Nat), p < l.length → ¬ (l[p]?.getD default).Id = n → (l.map (putId n x_Id)).take p ++ l.drop p = (l.map (putId n x_Id)).take (p + 1) ++ l.drop (p + 1) := fun p hlt hne => by
      rw [hstep p hlt, putId, if_neg hne, drop_at (d := default) hlt]
    have hset : ∀ (p : Nat), p < l.length → (l[p]?.getD default).Id = n → (l.map (putId n x_Id)).take p ++ (l.drop p).set 0 ⟨(l[p]?.getD default).Id, (l[p]?.getD default).Size, x_Id⟩ = (l.map (putId n x_Id)).take (p + 1) ++ l.drop (p + 1) := fun p hlt he => by
      rw [hstep p hlt, putId, if_pos he, drop_at (d := default) hlt, List.set_cons_zero]; rfl
    refine ⟨by omega, by omega, ?_⟩
    refine loop_inv (fun p : Nat => p ≤ l.length) (fun p => [(3, .ptr (1, 1) 0), (6, .own (0, 1) 3 0 l.length), (7, dI n), (8, dI p)]) (fun p => [((0, 1), .arr false 3 yTSlot (ML encTSlot ((l.map (putId n x_Id)).take p ++ l.drop p))), ((1, 1), .box (encTThing ⟨x_Id, x_Kind, x_Colour, x_Size, x_Worth⟩))]) 2 (fun p => l.length - p) 0 400 (by simp) (by simp) (by simp) ?_
    intro p hp
    simp
    refine ⟨fun hlt => ?_, fun hge => ?_⟩
    · simp only [hget p hlt]
      refine ⟨⟨hlt, by omega⟩, fun he => ⟨⟨hlt, by omega⟩, ⟨by omega, by omega⟩, ?_⟩, fun hne => ⟨⟨by omega, by omega⟩, ?_⟩⟩
      · have hs := hset p hlt he
        refine Again.mk (p + 1) (by omega) ?_ (by first | omega | (simp; omega))
        simp
        have hlen : ((l.map (putId n x_Id)).take p).length = p := by simp; omega
        rw [List.set_append_right _ _ (by omega), hlen, Nat.sub_self]
        exact hs
      · have hs := hstay p hlt hne
        refine Again.mk (p + 1) (by omega) ?_ (by first | omega | (simp; omega))
        simp
        exact hs
    · rw [List.take_of_length_le (by simp; omega), List.drop_eq_nil_of_le hge]; simp
  · simp only [Bool.not_eq_true] at hk
    rw [mPut_no hk, hk]
    have hcase : mAreSlots l = false ∨ mIsThing x = false ∨ mSmall l x.Size = 0 ∨ (mAreSlots l = true ∧ mIsThing x = true ∧ ¬ mSmall l x.Size = 0 ∧ ¬ lookS x.Id l = 0) := by
      cases h1 : mAreSlots l with
      | false => exact .inl rfl
      | true =>
        cases h2 : mIsThing x with
        | false => exact .inr (.inl rfl)
        | true =>
          by_cases h3 : mSmall l x.Size = 0
          · exact .inr (.inr (.inl h3))
          · refine .inr (.inr (.inr ⟨rfl, rfl, h3, ?_⟩))
            have hb0 : 0 ≤ best l x.Size := by
              by_cases hh : best l x.Size < 0
              · rw [mSmall, if_pos hh] at h3; exact absurd rfl h3
              · omega
            simp [kPut, h1, h2, hb0] at hk
            rcases hz with hz | ⟨k, hz1, hz2, hz3⟩
            · omega
            · have := asc_ok (slot_valid h1) _ (getD_mem (d := default) hz1)
              simp [mIsSlot, mIn] at this
              rw [hz3]; omega
    obtain ⟨x_Id, x_Kind, x_Colour, x_Size, x_Worth⟩ := x
    simp at hcase
    rcases hcase with h | h | h | ⟨h1, h2, h3, h4⟩
    · simp [Try.f204, h]
      omega
    · cases h1 : mAreSlots l <;> simp [Try.f204, h, h1] <;> omega
    · cases h1 : mAreSlots l <;> cases h2 : mIsThing ⟨x_Id, x_Kind, x_Colour, x_Size, x_Worth⟩ <;> simp [Try.f204, h, h1, h2] <;> omega
    · simp [Try.f204, h1, h2, h3, h4]
      omega
theorem c204_ok : c204.ok Try.prog := mkCon_ok fun ⟨l, x⟩ hpre => c204_pc l x hpre
end Go.Proofs.Ytpnfkjbnhholfaa
