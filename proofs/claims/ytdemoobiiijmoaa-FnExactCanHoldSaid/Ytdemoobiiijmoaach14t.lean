/- Contracts of the functions that the laws run. -/
import Derived.Test.Ytdemoobiiijmoaach14c
import Derived.Test.YtdemoobiiijmoaaEngB
namespace Go.Proofs.Ytdemoobiiijmoaa
open Go Go.Eng
set_option linter.unusedSimpArgs false
set_option linter.unusedVariables false
set_option maxRecDepth 10000
set_option maxHeartbeats 1000000
/-- slices.Clone[[]loop.example/g03007/impl.Slo -/
noncomputable def c37 : Con := mkCon 37 false (α := (List TSlot)) (fun x => (fun (l : List TSlot) => [encLTSlot l]) x) (fun _ => []) (fun x => (fun (l : List TSlot) => l.length ≤ 1073741824) x) (fun x => (fun (l : List TSlot) => (.own (0, 1) 3 0 l.length : D)) x) (fun x => (fun (l : List TSlot) => [((0, 1), .arr false 3 yTSlot (ML encTSlot l))]) x)
@[simp] theorem c37_f : c37.f = 37 := rfl
@[simp] theorem c37_own : c37.own = false := rfl
theorem c37_inj : ∀ u_ v_ : (List TSlot), ((fun x => (fun (l : List TSlot) => [encLTSlot l]) x) u_).map nz = ((fun x => (fun (l : List TSlot) => [encLTSlot l]) x) v_).map nz → u_ = v_ := by
  intro u_ v_ h
  obtain l := u_
  obtain l' := v_
  simp [nz_lit, nz1_lit, nz_agg, nz_sl, nz1_sl, encLTSlot] at h
  first | (simp [h]; done) | (obtain ⟨⟩ := h; simp_all; done) | simp_all
@[simp] theorem c37_fn (l : List TSlot) : c37.fn [.sl false 3 yTSlot (ML encTSlot l)] [] = some ((fun (l : List TSlot) => l.length ≤ 1073741824) l, (fun (l : List TSlot) => (.own (0, 1) 3 0 l.length : D)) l, (fun (l : List TSlot) => [((0, 1), .arr false 3 yTSlot (ML encTSlot l))]) l) :=
  mkCon_fn (fun x y h _ => c37_inj x y h) (l : (List TSlot)) (by simp [nz, nz1, ML_nil, encLTSlot]) rfl
@[simp] theorem c37_fn1 (s_l : Nat) (z_l : D) : c37.fn [.sl false s_l z_l []] [] = some ((fun (l : List TSlot) => l.length ≤ 1073741824) [], (fun (l : List TSlot) => (.own (0, 1) 3 0 l.length : D)) [], (fun (l : List TSlot) => [((0, 1), .arr false 3 yTSlot (ML encTSlot l))]) []) :=
  mkCon_fn (fun x y h _ => c37_inj x y h) ([] : (List TSlot)) (by simp [nz, nz1, ML_nil, encLTSlot]) rfl
theorem c37_pc (l : List TSlot) (hpre : l.length ≤ 1073741824) : PCo Try.prog 37 [encLTSlot l] (Tab.of []) (.own (0, 1) 3 0 l.length) (Tab.of [((0, 1), .arr false 3 yTSlot (ML encTSlot l))]) := by
  by_cases hl : l = []
  · subst hl
    show PCo Try.prog 37 [.sl false 3 yTSlot []] Tab.nil (.own (0, 1) 3 0 0) (Tab.of [((0, 1), .arr false 3 yTSlot [])])
    refine pco_slice fun a cap => ?_
    cases a with
    | none =>
      refine pc_ghost (s' := 0) (z' := .any) ?_
      refine pco_of_run [] (tin := []) (E := ⟨[], [], []⟩) (m := false) (base := 0) Env.ok_nil G_ok mix 300 6 Try.func37 (by kernel_rfl) rfl (by kernel_rfl) (by kernel_rfl) rfl ?_
      simp [Try.f37]
    | some q =>
      refine pco_of_run [] (tin := []) (E := ⟨[], [], []⟩) (m := false) (base := 0) Env.ok_nil G_ok mix 300 6 Try.func37 (by kernel_rfl) rfl (by kernel_rfl) (by kernel_rfl) rfl ?_
      simp [Try.f37]
  · refine pco_of_run [] (E := ⟨[], [], []⟩) (m := false) (base := 0) Env.ok_nil G_ok mix 300 6 Try.func37 (by kernel_rfl) rfl (by kernel_rfl) (by kernel_rfl) rfl ?_
    simp [Try.f37, -nilS, nilS_ML hl]
    omega
theorem c37_ok : c37.ok Try.prog := mkCon_ok fun l hpre => c37_pc l hpre
def freed (s : TSlot) : TSlot := ⟨s.Id, s.Size, 0⟩
def freeId (n : Int) (s : TSlot) : TSlot := if s.Id = n then freed s else s
def kTake (l : List TSlot) (t : Int) : Bool := mAreSlots l && decide (0 ≤ indexBy (wantT t) 0 l)
def mTake (l : List TSlot) (t : Int) : List TSlot := if kTake l t then l.map (freeId (lookS t l)) else l
theorem mTake_yes {l : List TSlot} {t : Int} (h : kTake l t = true) : mTake l t = l.map (freeId (lookS t l)) := by simp [mTake, h]
theorem mTake_no {l : List TSlot} {t : Int} (h : kTake l t = false) : mTake l t = l := by simp [mTake, h]
theorem mTake_len (l : List TSlot) (t : Int) : (mTake l t).length = l.length := by simp only [mTake]; split <;> simp
theorem slot_low {ok : TSlot → Bool} : ∀ {b : List TSlot} {q : Int}, ascBy ok nSlot (some q) b = true → ∀ y ∈ b, q < y.Id
  | [], _, _, _, hy => by simp at hy
  | x :: b, q, h, y, hy => by
    simp only [ascBy, Bool.and_eq_true, decide_eq_true_eq] at h
    rcases List.mem_cons.1 hy with rfl | hy
    · exact h.1.2
    · exact Int.lt_trans h.1.2 (slot_low h.2 y hy)
theorem freeId_none {n : Int} : ∀ {l : List TSlot}, (∀ y ∈ l, ¬ y.Id = n) → l.map (freeId n) = l
  | [], _ => rfl
  | x :: l, h => by
    rw [List.map_cons, freeId_none fun y hy => h y (by simp [hy])]
    rw [freeId, if_neg (h x (by simp))]
theorem freeId_set {ok : TSlot → Bool} : ∀ {l : List TSlot} {o : Option Int} {k : Nat}, ascBy ok nSlot o l = true → k < l.length → l.map (freeId (l[k]?.getD default).Id) = l.set k (freed (l[k]?.getD default))
  | [], _, _, _, hk => by simp at hk
  | x :: l, o, 0, h, _ => by
    simp only [ascBy, Bool.and_eq_true] at h
    have h2 := slot_low h.2
    simp only [List.getElem?_cons_zero, Option.getD_some, List.map_cons, List.set_cons_zero]
    rw [freeId_none fun y hy => by have := h2 y hy; simp only [nSlot] at this; omega]
    rw [freeId, if_pos rfl]
  | x :: l, o, k + 1, h, hk => by
    simp only [ascBy, Bool.and_eq_true] at h
    have h2 := slot_low h.2
    simp only [List.length_cons] at hk
    have hk' : k < l.length := by omega
    have ih := freeId_set h.2 hk'
    simp only [List.getElem?_cons_succ, List.map_cons, List.set_cons_succ]
    rw [ih]
    have h3 := h2 _ (getD_mem (d := default) hk')
    simp only [nSlot] at h3
    rw [freeId, if_neg (by omega)]
theorem slot_valid {l : List TSlot} (h : mAreSlots l = true) : ascBy mIsSlot nSlot none l = true := by
  simp only [mAreSlots, Bool.and_eq_true] at h; exact h.1.2
theorem asc_ok {ok : TSlot → Bool} : ∀ {l : List TSlot} {o : Option Int}, ascBy ok nSlot o l = true → ∀ y ∈ l, ok y = true
  | [], _, _, _, hy => by simp at hy
  | x :: l, o, h, y, hy => by
    simp only [ascBy, Bool.and_eq_true] at h
    rcases List.mem_cons.1 hy with rfl | hy
    · exact h.1.1
    · exact asc_ok h.2 y hy
/-- loop.example/g03007/impl.TakeOut -/
noncomputable def c68 : Con := mkCon 68 false (α := (List TSlot) × Int) (fun x => (fun (l : List TSlot) (t : Int) => [encLTSlot l, dI t]) x.1 x.2) (fun _ => []) (fun x => (fun (l : List TSlot) (t : Int) => l.length ≤ 1073741823) x.1 x.2) (fun x => (fun (l : List TSlot) (t : Int) => (.tup [.own (0, 1) 3 0 (mTake l t).length, dB (kTake l t)] : D)) x.1 x.2) (fun x => (fun (l : List TSlot) (t : Int) => [((0, 1), .arr false 3 yTSlot (ML encTSlot (mTake l t)))]) x.1 x.2)
@[simp] theorem c68_f : c68.f = 68 := rfl
@[simp] theorem c68_own : c68.own = false := rfl
theorem c68_inj : ∀ u_ v_ : (List TSlot) × Int, ((fun x => (fun (l : List TSlot) (t : Int) => [encLTSlot l, dI t]) x.1 x.2) u_).map nz = ((fun x => (fun (l : List TSlot) (t : Int) => [encLTSlot l, dI t]) x.1 x.2) v_).map nz → u_ = v_ := by
  intro u_ v_ h
  obtain ⟨l, t⟩ := u_
  obtain ⟨l', t'⟩ := v_
  simp [nz_lit, nz1_lit, nz_agg, nz_sl, nz1_sl, encLTSlot] at h
  first | (simp [h]; done) | (obtain ⟨⟩ := h; simp_all; done) | simp_all
@[simp] theorem c68_fn (l : List TSlot) (t : Int) : c68.fn [.sl false 3 yTSlot (ML encTSlot l), .lit (.int .i64 t)] [] = some ((fun (l : List TSlot) (t : Int) => l.length ≤ 1073741823) l t, (fun (l : List TSlot) (t : Int) => (.tup [.own (0, 1) 3 0 (mTake l t).length, dB (kTake l t)] : D)) l t, (fun (l : List TSlot) (t : Int) => [((0, 1), .arr false 3 yTSlot (ML encTSlot (mTake l t)))]) l t) :=
  mkCon_fn (fun x y h _ => c68_inj x y h) ((l, t) : (List TSlot) × Int) (by simp [nz, nz1, ML_nil, encLTSlot]) rfl
@[simp] theorem c68_fn1 (s_l : Nat) (z_l : D) (t : Int) : c68.fn [.sl false s_l z_l [], .lit (.int .i64 t)] [] = some ((fun (l : List TSlot) (t : Int) => l.length ≤ 1073741823) [] t, (fun (l : List TSlot) (t : Int) => (.tup [.own (0, 1) 3 0 (mTake l t).length, dB (kTake l t)] : D)) [] t, (fun (l : List TSlot) (t : Int) => [((0, 1), .arr false 3 yTSlot (ML encTSlot (mTake l t)))]) [] t) :=
  mkCon_fn (fun x y h _ => c68_inj x y h) (([], t) : (List TSlot) × Int) (by simp [nz, nz1, ML_nil, encLTSlot]) rfl
theorem c68_pc (l : List TSlot) (t : Int) (hpre : l.length ≤ 1073741823) : PCo Try.prog 68 [encLTSlot l, dI t] (Tab.of []) (.tup [.own (0, 1) 3 0 (mTake l t).length, dB (kTake l t)]) (Tab.of [((0, 1), .arr false 3 yTSlot (ML encTSlot (mTake l t)))]) := by
  refine pco_of_run [] (E := ⟨[c37, c38, c40], [], []⟩) (m := false) (base := 0) (Env.ok_cons c37_ok (Env.ok_cons c38_ok (Env.ok_cons c40_ok Env.ok_nil))) G_ok mix 300 6 Try.func68 (by kernel_rfl) rfl (by kernel_rfl) (by kernel_rfl) rfl ?_
  have hb := indexBy_bd (want := wantT t) l 0
  cases h1 : mAreSlots l with
  | false =>
    have hk : kTake l t = false := by simp [kTake, h1]
    simp [Try.f68, h1, hk, mTake_no hk]
    omega
  | true =>
    rcases look_index (t := t) l 0 (by omega) with ⟨h2, h3⟩ | ⟨k, h2, h3, h4⟩
    · have hk : kTake l t = false := by simp [kTake]; intro _; omega
      simp [Try.f68, h1, h2, hk, mTake_no hk]
      omega
    · have hi : indexBy (wantT t) 0 l = (k : Int) := by omega
      have hk : kTake l t = true := by simp [kTake, h1, hi]
      have hm : l.map (freeId (lookS t l)) = l.set k (freed (l[k]?.getD default)) := by rw [h4]; exact freeId_set (slot_valid h1) h2
      simp [Try.f68, h1, hi, hk, mTake_yes hk, hm]
      exact ⟨by omega, by omega, h2, rfl⟩
theorem c68_ok : c68.ok Try.prog := mkCon_ok fun ⟨l, t⟩ hpre => c68_pc l t hpre
/-- loop.example/g03007/spec.TakeOut -/
noncomputable def c48 : Con := mkCon 48 false (α := (List TSlot) × Int) (fun x => (fun (l : List TSlot) (t : Int) => [encLTSlot l, dI t]) x.1 x.2) (fun _ => []) (fun x => (fun (l : List TSlot) (t : Int) => l.length ≤ 1073741823) x.1 x.2) (fun x => (fun (l : List TSlot) (t : Int) => (.tup [.own (0, 1) 3 0 (mTake l t).length, dB (kTake l t)] : D)) x.1 x.2) (fun x => (fun (l : List TSlot) (t : Int) => [((0, 1), .arr false 3 yTSlot (ML encTSlot (mTake l t)))]) x.1 x.2)
@[simp] theorem c48_f : c48.f = 48 := rfl
@[simp] theorem c48_own : c48.own = false := rfl
theorem c48_inj : ∀ u_ v_ : (List TSlot) × Int, ((fun x => (fun (l : List TSlot) (t : Int) => [encLTSlot l, dI t]) x.1 x.2) u_).map nz = ((fun x => (fun (l : List TSlot) (t : Int) => [encLTSlot l, dI t]) x.1 x.2) v_).map nz → u_ = v_ := by
  intro u_ v_ h
  obtain ⟨l, t⟩ := u_
  obtain ⟨l', t'⟩ := v_
  simp [nz_lit, nz1_lit, nz_agg, nz_sl, nz1_sl, encLTSlot] at h
  first | (simp [h]; done) | (obtain ⟨⟩ := h; simp_all; done) | simp_all
@[simp] theorem c48_fn (l : List TSlot) (t : Int) : c48.fn [.sl false 3 yTSlot (ML encTSlot l), .lit (.int .i64 t)] [] = some ((fun (l : List TSlot) (t : Int) => l.length ≤ 1073741823) l t, (fun (l : List TSlot) (t : Int) => (.tup [.own (0, 1) 3 0 (mTake l t).length, dB (kTake l t)] : D)) l t, (fun (l : List TSlot) (t : Int) => [((0, 1), .arr false 3 yTSlot (ML encTSlot (mTake l t)))]) l t) :=
  mkCon_fn (fun x y h _ => c48_inj x y h) ((l, t) : (List TSlot) × Int) (by simp [nz, nz1, ML_nil, encLTSlot]) rfl
@[simp] theorem c48_fn1 (s_l : Nat) (z_l : D) (t : Int) : c48.fn [.sl false s_l z_l [], .lit (.int .i64 t)] [] = some ((fun (l : List TSlot) (t : Int) => l.length ≤ 1073741823) [] t, (fun (l : List TSlot) (t : Int) => (.tup [.own (0, 1) 3 0 (mTake l t).length, dB (kTake l t)] : D)) [] t, (fun (l : List TSlot) (t : Int) => [((0, 1), .arr false 3 yTSlot (ML encTSlot (mTake l t)))]) [] t) :=
  mkCon_fn (fun x y h _ => c48_inj x y h) (([], t) : (List TSlot) × Int) (by simp [nz, nz1, ML_nil, encLTSlot]) rfl
theorem c48_pc (l : List TSlot) (t : Int) (hpre : l.length ≤ 1073741823) : PCo Try.prog 48 [encLTSlot l, dI t] (Tab.of []) (.tup [.own (0, 1) 3 0 (mTake l t).length, dB (kTake l t)]) (Tab.of [((0, 1), .arr false 3 yTSlot (ML encTSlot (mTake l t)))]) := by
  refine pco_of_run [] (E := ⟨[c34, c36], [], []⟩) (m := false) (base := 0) (Env.ok_cons c34_ok (Env.ok_cons c36_ok Env.ok_nil)) G_ok mix 300 6 Try.func48 (by kernel_rfl) rfl (by kernel_rfl) (by kernel_rfl) rfl ?_
  cases h1 : mAreSlots l with
  | false =>
    have hk : kTake l t = false := by simp [kTake, h1]
    simp [Try.f48, h1, hk, mTake_no hk]
    omega
  | true =>
    rcases look_index (t := t) l 0 (by omega) with ⟨h2, h3⟩ | ⟨k, h2, h3, h4⟩
    · have hk : kTake l t = false := by simp [kTake]; intro _; omega
      simp [Try.f48, h1, h3, hk, mTake_no hk]
      omega
    · have hi : indexBy (wantT t) 0 l = (k : Int) := by omega
      have hk : kTake l t = true := by simp [kTake, h1, hi]
      have h0 : ¬ lookS t l = 0 := by
        have := asc_ok (slot_valid h1) _ (getD_mem (d := default) h2)
        simp [mIsSlot, mIn] at this
        rw [h4]; omega
      simp [Try.f48, h1, h0, hk, mTake_yes hk]
      have hget : ∀ (p : Nat), p < l.length → ((l.map (freeId (lookS t l))).take p ++ l.drop p)[p]?.getD default = l[p]?.getD default := fun p hlt => by
        rw [List.getElem?_append_right (by simp; omega)]
        have : ((l.map (freeId (lookS t l))).take p).length = p := by simp; omega
        rw [this, Nat.sub_self]; simp
      have hstep : ∀ (p : Nat), p < l.length → (l.map (freeId (lookS t l))).take (p + 1) ++ l.drop (p + 1) = (l.map (freeId (lookS t l))).take p ++ freeId (lookS t l) (l[p]?.getD default) :: l.drop (p + 1) := fun p hlt => by
        rw [← List.map_take, ← List.map_take, take_at (d := default) hlt]; simp
      have hstay : ∀ (p : Nat), p < l.length → ¬ (l[p]?.getD default).Id = lookS t l → (l.map (freeId (lookS t l))).take p ++ l.drop p = (l.map (freeId (lookS t l))).take (p + 1) ++ l.drop (p + 1) := fun p hlt hne => by
        rw [hstep p hlt, freeId, if_neg hne, drop_at (d := default) hlt]
      have hset : ∀ (p : Nat), p < l.length → (l[p]?.getD default).Id = lookS t l → (l.map (freeId (lookS t l))).take p ++ (l.drop p).set 0 ⟨(l[p]?.getD default).Id, (l[p]?.getD default).Size, 0⟩ = (l.map (freeId (lookS t l))).take (p + 1) ++ l.drop (p + 1) := fun p hlt he => by
        rw [hstep p hlt, freeId, if_pos he, drop_at (d := default) hlt, List.set_cons_zero]; rfl
      refine ⟨by omega, by omega, ?_⟩
      refine loop_inv (fun p : Nat => p ≤ l.length) (fun p => [(6, .own (0, 1) 3 0 l.length), (7, dI (lookS t l)), (8, dI p)]) (fun p => [((0, 1), .arr false 3 yTSlot (ML encTSlot ((l.map (freeId (lookS t l))).take p ++ l.drop p)))]) 2 (fun p => l.length - p) 0 400 (by simp) (by simp) (by simp) ?_
      intro p hp
      simp
      refine ⟨fun hlt => ?_, fun hge => ?_⟩
      · simp only [hget p hlt]
        refine ⟨⟨hlt, by omega⟩, fun he => ⟨⟨hlt, by omega⟩, ⟨by omega, by omega⟩, ?_⟩, fun hne => ⟨⟨by omega, by omega⟩, ?_⟩⟩
        · have hs := hset p hlt he
          refine Again.mk (p + 1) (by omega) ?_ (by first | omega | (simp; omega))
          simp
          have hlen : ((l.map (freeId (lookS t l))).take p).length = p := by simp; omega
          rw [List.set_append_right _ _ (by omega), hlen, Nat.sub_self]
          exact hs
        · have hs := hstay p hlt hne
          refine Again.mk (p + 1) (by omega) ?_ (by first | omega | (simp; omega))
          simp
          exact hs
      · rw [List.take_of_length_le (by simp; omega), List.drop_eq_nil_of_le hge]; simp
theorem c48_ok : c48.ok Try.prog := mkCon_ok fun ⟨l, t⟩ hpre => c48_pc l t hpre
end Go.Proofs.Ytdemoobiiijmoaa
