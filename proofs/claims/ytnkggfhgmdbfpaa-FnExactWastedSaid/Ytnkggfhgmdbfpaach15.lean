/- Contracts of the functions that the laws run. -/
import Derived.Test.Ytnkggfhgmdbfpaach14c
import Derived.Test.Ytnkggfhgmdbfpaach04
import Derived.Test.Ytnkggfhgmdbfpaach04b
import Derived.Test.YtnkggfhgmdbfpaaEngB
namespace Go.Proofs.Ytnkggfhgmdbfpaa
open Go Go.Eng
set_option linter.unusedSimpArgs false
set_option linter.unusedVariables false
set_option maxRecDepth 10000
set_option maxHeartbeats 1000000
def sumBy {α : Type} (f : α → Int) (l : List α) : Int := l.foldl (fun s x => s + f x) 0
theorem sumBy_from {α : Type} (f : α → Int) : ∀ (l : List α) (s : Int), l.foldl (fun s x => s + f x) s = s + sumBy f l
  | [], s => by simp [sumBy]
  | x :: l, s => by
    have h1 := sumBy_from f l (s + f x)
    have h2 := sumBy_from f l (0 + f x)
    simp only [sumBy, List.foldl_cons] at h1 h2 ⊢
    rw [h1, h2]; omega
theorem sumBy_cons {α : Type} (f : α → Int) (x : α) (l : List α) : sumBy f (x :: l) = f x + sumBy f l := by
  have := sumBy_from f l (0 + f x)
  simp only [sumBy, List.foldl_cons] at this ⊢
  rw [this]; omega
@[simp] theorem sumBy_nil {α : Type} (f : α → Int) : sumBy f [] = 0 := rfl
theorem sumBy_at {α : Type} {f : α → Int} {l : List α} {p : Nat} {d : α} (h : p < l.length) : sumBy f (l.take (p + 1)) = sumBy f (l.take p) + f (l[p]?.getD d) := foldl_at h
theorem sumBy_zero {α : Type} : ∀ (l : List α), sumBy (fun _ => 0) l = 0
  | [] => rfl
  | x :: l => by rw [sumBy_cons, sumBy_zero l]; rfl
theorem sumBy_add {α : Type} (f g : α → Int) : ∀ (l : List α), sumBy (fun x => f x + g x) l = sumBy f l + sumBy g l
  | [] => rfl
  | x :: l => by rw [sumBy_cons, sumBy_cons, sumBy_cons, sumBy_add f g l]; omega
theorem sumBy_swap {α β : Type} (g : α → β → Int) (T : List β) : ∀ (L : List α), sumBy (fun s => sumBy (g s) T) L = sumBy (fun x => sumBy (fun s => g s x) L) T
  | [] => by simp [sumBy_zero]
  | s :: L => by
    rw [sumBy_cons, sumBy_swap g T L, ← sumBy_add]
    congr 1; funext x; rw [sumBy_cons]
theorem sumBy_congr {α : Type} {f g : α → Int} : ∀ {l : List α}, (∀ x ∈ l, f x = g x) → sumBy f l = sumBy g l
  | [], _ => rfl
  | x :: l, h => by rw [sumBy_cons, sumBy_cons, h x (by simp), sumBy_congr fun y hy => h y (by simp [hy])]
theorem sumBy_bd {α : Type} {f : α → Int} {c : Nat} : ∀ (l : List α), (∀ x ∈ l, -(c : Int) ≤ f x ∧ f x ≤ c) → -((c : Int) * l.length) ≤ sumBy f l ∧ sumBy f l ≤ c * l.length
  | [], _ => by simp
  | x :: l, h => by
    have h1 := h x (by simp)
    have h2 := sumBy_bd l fun y hy => h y (by simp [hy])
    have e : (c : Int) * ((x :: l).length : Int) = c * l.length + c := by simp [Int.mul_add]
    rw [sumBy_cons, e]; omega
def wFor (x : TThing) : Option TSlot → Int
  | none => 0
  | some s => s.Size - x.Size
def wOf (l : List TSlot) (x : TThing) : Int := wFor x (l.find? (wantT x.Id))
def wCell (s : TSlot) (x : TThing) : Int := if s.Thing = x.Id then s.Size - x.Size else 0
def mWasted (l : List TSlot) (t : List TThing) : Int := if mAreSlots l && mAreThings t then sumBy (wOf l) t else 0
theorem ix_find {w : TSlot → Bool} : ∀ (l : List TSlot) (i : Int), 0 ≤ i → (indexBy w i l < 0 ∧ l.find? w = none) ∨ ∃ k : Nat, k < l.length ∧ indexBy w i l = i + k ∧ l.find? w = some (l[k]?.getD default)
  | [], i, h => by simp [indexBy]
  | x :: r, i, h => by
    simp only [indexBy, List.find?_cons]
    by_cases hw : w x = true
    · rw [if_pos hw, hw]; exact .inr ⟨0, by simp, by simp, by simp⟩
    · rw [if_neg hw]
      have hf : w x = false := by simpa using hw
      rw [hf]
      rcases ix_find r (i + 1) (by omega) with h1 | ⟨k, h1, h2, h3⟩
      · exact .inl h1
      · exact .inr ⟨k + 1, by simp; omega, by rw [h2]; push_cast; omega, by simpa using h3⟩
theorem none_zero {x : TThing} : ∀ {l : List TSlot}, ¬ x.Id = 0 → l.any (wantT x.Id) = false → sumBy (fun s => wCell s x) l = 0
  | [], _, _ => rfl
  | s :: l, h0, h => by
    simp only [List.any_cons, Bool.or_eq_false_iff] at h
    have : ¬ s.Thing = x.Id := by have := h.1; simp [wantT, h0] at this; exact this
    rw [sumBy_cons, none_zero h0 h.2, wCell, if_neg this]; rfl
theorem one_cell {x : TThing} (h0 : ¬ x.Id = 0) : ∀ {l : List TSlot}, twoB l = false → sumBy (fun s => wCell s x) l = wOf l x
  | [], _ => rfl
  | s :: l, h => by
    simp only [twoB, Bool.or_eq_false_iff] at h
    rw [sumBy_cons, wOf, List.find?_cons]
    by_cases hs : s.Thing = x.Id
    · have hw : wantT x.Id s = true := by simp [wantT, hs, h0]
      rw [hw, wCell, if_pos hs, none_zero h0 (by rw [← hs]; exact h.1)]; simp [wFor]
    · have hw : wantT x.Id s = false := by simp [wantT, hs]
      rw [hw, wCell, if_neg hs, one_cell h0 h.2]; simp [wOf]
theorem thing_at {t : List TThing} : ∀ {l : List TThing} {q : Int}, mAsc q l = true → ∀ x ∈ l, mIsThing x = true
  | [], _, _, _, h => by simp at h
  | y :: l, q, h, x, hx => by
    simp only [mAsc, Bool.and_eq_true] at h
    rcases List.mem_cons.1 hx with rfl | hx
    · exact h.1.1
    · exact thing_at (t := t) h.2 x hx
theorem thing_ok {l : List TThing} (h : mAreThings l = true) : l.length ≤ 20 ∧ ∀ x ∈ l, 1 ≤ x.Id ∧ 1 ≤ x.Size ∧ x.Size ≤ 50 := by
  simp only [mAreThings, Bool.and_eq_true, decide_eq_true_eq] at h
  refine ⟨h.1, fun x hx => ?_⟩
  have := thing_at (t := []) h.2 x hx
  simp [mIsThing, mIn] at this; omega
theorem slot_all {ok : TSlot → Bool} : ∀ {l : List TSlot} {o : Option Int}, ascBy ok nSlot o l = true → ∀ y ∈ l, ok y = true
  | [], _, _, _, hy => by simp at hy
  | x :: l, o, h, y, hy => by
    simp only [ascBy, Bool.and_eq_true] at h
    rcases List.mem_cons.1 hy with rfl | hy
    · exact h.1.1
    · exact slot_all h.2 y hy
theorem slot_ok {l : List TSlot} (h : mAreSlots l = true) : l.length ≤ 30 ∧ twoB l = false ∧ ∀ x ∈ l, 1 ≤ x.Size ∧ x.Size ≤ 50 := by
  simp only [mAreSlots, Bool.and_eq_true, decide_eq_true_eq, Bool.not_eq_true'] at h
  refine ⟨h.1.1, h.2, fun x hx => ?_⟩
  have := slot_all h.1.2 x hx
  simp [mIsSlot, mIn] at this; omega
theorem wOf_bd {l : List TSlot} {x : TThing} (hl : ∀ s ∈ l, 1 ≤ s.Size ∧ s.Size ≤ 50) (hx : 1 ≤ x.Size ∧ x.Size ≤ 50) : -50 ≤ wOf l x ∧ wOf l x ≤ 50 := by
  rw [wOf]
  cases h : l.find? (wantT x.Id) with
  | none => simp [wFor]
  | some s =>
    have := hl s (List.mem_of_find?_eq_some h)
    simp only [wFor]; omega
/-- loop.example/g03007/impl.Wasted -/
noncomputable def c69 : Con := mkCon 69 false (α := (List TSlot) × (List TThing)) (fun x => (fun (l : List TSlot) (t : List TThing) => [encLTSlot l, encLTThing t]) x.1 x.2) (fun _ => []) (fun x => (fun (l : List TSlot) (t : List TThing) => l.length ≤ 1073741823 ∧ t.length ≤ 1073741823) x.1 x.2) (fun x => (fun (l : List TSlot) (t : List TThing) => (dI (mWasted l t) : D)) x.1 x.2) (fun x => (fun (l : List TSlot) (t : List TThing) => []) x.1 x.2)
@[simp] theorem c69_f : c69.f = 69 := rfl
@[simp] theorem c69_own : c69.own = false := rfl
theorem c69_inj : ∀ u_ v_ : (List TSlot) × (List TThing), ((fun x => (fun (l : List TSlot) (t : List TThing) => [encLTSlot l, encLTThing t]) x.1 x.2) u_).map nz = ((fun x => (fun (l : List TSlot) (t : List TThing) => [encLTSlot l, encLTThing t]) x.1 x.2) v_).map nz → u_ = v_ := by
  intro u_ v_ h
  obtain ⟨l, t⟩ := u_
  obtain ⟨l', t'⟩ := v_
  simp [nz_lit, nz1_lit, nz_agg, nz_sl, nz1_sl, encLTSlot, encLTThing] at h
  first | (simp [h]; done) | (obtain ⟨⟩ := h; simp_all; done) | simp_all
@[simp] theorem c69_fn (l : List TSlot) (t : List TThing) : c69.fn [.sl false 3 yTSlot (ML encTSlot l), .sl false 5 yTThing (ML encTThing t)] [] = some ((fun (l : List TSlot) (t : List TThing) => l.length ≤ 1073741823 ∧ t.length ≤ 1073741823) l t, (fun (l : List TSlot) (t : List TThing) => (dI (mWasted l t) : D)) l t, (fun (l : List TSlot) (t : List TThing) => []) l t) :=
  mkCon_fn (fun x y h _ => c69_inj x y h) ((l, t) : (List TSlot) × (List TThing)) (by simp [nz, nz1, ML_nil, encLTSlot, encLTThing]) rfl
@[simp] theorem c69_fn1 (s_l : Nat) (z_l : D) (t : List TThing) : c69.fn [.sl false s_l z_l [], .sl false 5 yTThing (ML encTThing t)] [] = some ((fun (l : List TSlot) (t : List TThing) => l.length ≤ 1073741823 ∧ t.length ≤ 1073741823) [] t, (fun (l : List TSlot) (t : List TThing) => (dI (mWasted l t) : D)) [] t, (fun (l : List TSlot) (t : List TThing) => []) [] t) :=
  mkCon_fn (fun x y h _ => c69_inj x y h) (([], t) : (List TSlot) × (List TThing)) (by simp [nz, nz1, ML_nil, encLTSlot, encLTThing]) rfl
@[simp] theorem c69_fn2 (l : List TSlot) (s_t : Nat) (z_t : D) : c69.fn [.sl false 3 yTSlot (ML encTSlot l), .sl false s_t z_t []] [] = some ((fun (l : List TSlot) (t : List TThing) => l.length ≤ 1073741823 ∧ t.length ≤ 1073741823) l [], (fun (l : List TSlot) (t : List TThing) => (dI (mWasted l t) : D)) l [], (fun (l : List TSlot) (t : List TThing) => []) l []) :=
  mkCon_fn (fun x y h _ => c69_inj x y h) ((l, []) : (List TSlot) × (List TThing)) (by simp [nz, nz1, ML_nil, encLTSlot, encLTThing]) rfl
@[simp] theorem c69_fn3 (s_l : Nat) (z_l : D) (s_t : Nat) (z_t : D) : c69.fn [.sl false s_l z_l [], .sl false s_t z_t []] [] = some ((fun (l : List TSlot) (t : List TThing) => l.length ≤ 1073741823 ∧ t.length ≤ 1073741823) [] [], (fun (l : List TSlot) (t : List TThing) => (dI (mWasted l t) : D)) [] [], (fun (l : List TSlot) (t : List TThing) => []) [] []) :=
  mkCon_fn (fun x y h _ => c69_inj x y h) (([], []) : (List TSlot) × (List TThing)) (by simp [nz, nz1, ML_nil, encLTSlot, encLTThing]) rfl
theorem c69_pc (l : List TSlot) (t : List TThing) (hpre : l.length ≤ 1073741823 ∧ t.length ≤ 1073741823) : PCo Try.prog 69 [encLTSlot l, encLTThing t] (Tab.of []) (dI (mWasted l t)) (Tab.of []) := by
  refine pco_of_run [] (E := ⟨[c140, c141, c142], []⟩) (m := false) (base := 0) (Env.ok_cons c140_ok (Env.ok_cons c141_ok (Env.ok_cons c142_ok Env.ok_nil))) G_ok mix 300 6 Try.func69 (by kernel_rfl) rfl (by kernel_rfl) (by kernel_rfl) rfl ?_
  obtain ⟨hp1, hp2⟩ := hpre
  by_cases h : (mAreSlots l && mAreThings t) = true
  · have hm : mWasted l t = sumBy (wOf l) t := by rw [mWasted, if_pos h]
    rw [Bool.and_eq_true] at h
    obtain ⟨h1, h2, h3⟩ := slot_ok h.1
    obtain ⟨h4, h5⟩ := thing_ok h.2
    simp [Try.f69, h.1, h.2, hm]
    refine ⟨⟨by omega, by omega⟩, ?_⟩
    refine loop_inv (fun p : Nat => p ≤ t.length) (fun p => [(0, encLTSlot l), (5, dI (sumBy (wOf l) (t.take p))), (17, encLTThing t), (18, dI t.length), (19, dI p)]) (fun p => []) 1 (fun p => t.length - p) 0 400 (by simp) (by simp) (by simp) ?_
    intro p hp
    simp
    refine ⟨fun hlt => ?_, fun hge => by rw [List.take_of_length_le hge]⟩
    have hx := h5 _ (getD_mem (d := default) hlt)
    have hs := sumBy_at (f := wOf l) (d := default) hlt
    have hb := sumBy_bd (f := wOf l) (c := 50) (t.take p) fun x hx => wOf_bd h3 (by have := h5 x (List.mem_of_mem_take hx); omega)
    have hlen : (t.take p).length ≤ 20 := by simp; omega
    have hwb := wOf_bd (l := l) (x := t[p]?.getD default) h3 (by omega)
    rcases ix_find (w := wantT (t[p]?.getD default).Id) l 0 (by omega) with ⟨g1, g2⟩ | ⟨k, g1, g2, g3⟩
    · have hw : wOf l (t[p]?.getD default) = 0 := by rw [wOf, g2]; rfl
      repeat' (first | omega | refine And.intro ?_ ?_ | intro _)
      all_goals first | (exfalso; omega) | exact Again.mk (p + 1) (by omega) (by simp [hs, hw]) (by first | omega | (simp; omega)) | trace_state
    · have hw : wOf l (t[p]?.getD default) = (l[k]?.getD default).Size - (t[p]?.getD default).Size := by rw [wOf, g3]; rfl
      have hsz := h3 _ (getD_mem (d := default) g1)
      have hidx : indexBy (wantT (t[p]?.getD default).Id) 0 l = k := by omega
      simp only [hidx, Int.toNat_natCast]
      repeat' (first | omega | refine And.intro ?_ ?_ | intro _)
      all_goals first | (exfalso; omega) | exact Again.mk (p + 1) (by omega) (by simp [hs, hw]) (by first | omega | (simp; omega)) | trace_state
  · have hm : mWasted l t = 0 := by rw [mWasted, if_neg h]
    simp [Try.f69, hm]
    refine ⟨⟨by omega, fun _ => by omega⟩, fun h1 h2 => absurd (by rw [h1, h2]; rfl) h⟩
theorem c69_ok : c69.ok Try.prog := mkCon_ok fun ⟨l, t⟩ hpre => c69_pc l t hpre
/-- loop.example/g03007/spec.Wasted -/
noncomputable def c66 : Con := mkCon 66 false (α := (List TSlot) × (List TThing)) (fun x => (fun (l : List TSlot) (t : List TThing) => [encLTSlot l, encLTThing t]) x.1 x.2) (fun _ => []) (fun x => (fun (l : List TSlot) (t : List TThing) => l.length ≤ 1073741823 ∧ t.length ≤ 1073741823) x.1 x.2) (fun x => (fun (l : List TSlot) (t : List TThing) => (dI (mWasted l t) : D)) x.1 x.2) (fun x => (fun (l : List TSlot) (t : List TThing) => []) x.1 x.2)
@[simp] theorem c66_f : c66.f = 66 := rfl
@[simp] theorem c66_own : c66.own = false := rfl
theorem c66_inj : ∀ u_ v_ : (List TSlot) × (List TThing), ((fun x => (fun (l : List TSlot) (t : List TThing) => [encLTSlot l, encLTThing t]) x.1 x.2) u_).map nz = ((fun x => (fun (l : List TSlot) (t : List TThing) => [encLTSlot l, encLTThing t]) x.1 x.2) v_).map nz → u_ = v_ := by
  intro u_ v_ h
  obtain ⟨l, t⟩ := u_
  obtain ⟨l', t'⟩ := v_
  simp [nz_lit, nz1_lit, nz_agg, nz_sl, nz1_sl, encLTSlot, encLTThing] at h
  first | (simp [h]; done) | (obtain ⟨⟩ := h; simp_all; done) | simp_all
@[simp] theorem c66_fn (l : List TSlot) (t : List TThing) : c66.fn [.sl false 3 yTSlot (ML encTSlot l), .sl false 5 yTThing (ML encTThing t)] [] = some ((fun (l : List TSlot) (t : List TThing) => l.length ≤ 1073741823 ∧ t.length ≤ 1073741823) l t, (fun (l : List TSlot) (t : List TThing) => (dI (mWasted l t) : D)) l t, (fun (l : List TSlot) (t : List TThing) => []) l t) :=
  mkCon_fn (fun x y h _ => c66_inj x y h) ((l, t) : (List TSlot) × (List TThing)) (by simp [nz, nz1, ML_nil, encLTSlot, encLTThing]) rfl
@[simp] theorem c66_fn1 (s_l : Nat) (z_l : D) (t : List TThing) : c66.fn [.sl false s_l z_l [], .sl false 5 yTThing (ML encTThing t)] [] = some ((fun (l : List TSlot) (t : List TThing) => l.length ≤ 1073741823 ∧ t.length ≤ 1073741823) [] t, (fun (l : List TSlot) (t : List TThing) => (dI (mWasted l t) : D)) [] t, (fun (l : List TSlot) (t : List TThing) => []) [] t) :=
  mkCon_fn (fun x y h _ => c66_inj x y h) (([], t) : (List TSlot) × (List TThing)) (by simp [nz, nz1, ML_nil, encLTSlot, encLTThing]) rfl
@[simp] theorem c66_fn2 (l : List TSlot) (s_t : Nat) (z_t : D) : c66.fn [.sl false 3 yTSlot (ML encTSlot l), .sl false s_t z_t []] [] = some ((fun (l : List TSlot) (t : List TThing) => l.length ≤ 1073741823 ∧ t.length ≤ 1073741823) l [], (fun (l : List TSlot) (t : List TThing) => (dI (mWasted l t) : D)) l [], (fun (l : List TSlot) (t : List TThing) => []) l []) :=
  mkCon_fn (fun x y h _ => c66_inj x y h) ((l, []) : (List TSlot) × (List TThing)) (by simp [nz, nz1, ML_nil, encLTSlot, encLTThing]) rfl
@[simp] theorem c66_fn3 (s_l : Nat) (z_l : D) (s_t : Nat) (z_t : D) : c66.fn [.sl false s_l z_l [], .sl false s_t z_t []] [] = some ((fun (l : List TSlot) (t : List TThing) => l.length ≤ 1073741823 ∧ t.length ≤ 1073741823) [] [], (fun (l : List TSlot) (t : List TThing) => (dI (mWasted l t) : D)) [] [], (fun (l : List TSlot) (t : List TThing) => []) [] []) :=
  mkCon_fn (fun x y h _ => c66_inj x y h) (([], []) : (List TSlot) × (List TThing)) (by simp [nz, nz1, ML_nil, encLTSlot, encLTThing]) rfl
theorem c66_pc (l : List TSlot) (t : List TThing) (hpre : l.length ≤ 1073741823 ∧ t.length ≤ 1073741823) : PCo Try.prog 66 [encLTSlot l, encLTThing t] (Tab.of []) (dI (mWasted l t)) (Tab.of []) := by
  refine pco_of_run [] (E := ⟨[c137, c138], []⟩) (m := false) (base := 0) (Env.ok_cons c137_ok (Env.ok_cons c138_ok Env.ok_nil)) G_ok mix 300 6 Try.func66 (by kernel_rfl) rfl (by kernel_rfl) (by kernel_rfl) rfl ?_
  obtain ⟨hp1, hp2⟩ := hpre
  by_cases h : (mAreSlots l && mAreThings t) = true
  · have hm : mWasted l t = sumBy (wOf l) t := by rw [mWasted, if_pos h]
    rw [Bool.and_eq_true] at h
    obtain ⟨h1, h2, h3⟩ := slot_ok h.1
    obtain ⟨h4, h5⟩ := thing_ok h.2
    have hsum : sumBy (fun s => sumBy (wCell s) t) l = sumBy (wOf l) t := by
      rw [sumBy_swap]
      exact sumBy_congr fun x hx => one_cell (by have := h5 x hx; omega) h2
    have hcb : ∀ s ∈ l, ∀ x ∈ t, -((50 : Nat) : Int) ≤ wCell s x ∧ wCell s x ≤ ((50 : Nat) : Int) := fun s hs x hx => by
      have := h3 s hs; have := h5 x hx
      simp only [wCell]; split <;> omega
    have hrow : ∀ s ∈ l, ∀ k : Nat, k ≤ 20 → -((1000 : Nat) : Int) ≤ sumBy (wCell s) (t.take k) ∧ sumBy (wCell s) (t.take k) ≤ ((1000 : Nat) : Int) := fun s hs k hk => by
      have := sumBy_bd (t.take k) fun x hx => hcb s hs x (List.mem_of_mem_take hx)
      have hlen : (t.take k).length ≤ 20 := by simp; omega
      omega
    have hrowF : ∀ s ∈ l, -((1000 : Nat) : Int) ≤ sumBy (wCell s) t ∧ sumBy (wCell s) t ≤ ((1000 : Nat) : Int) := fun s hs => by
      have := hrow s hs t.length h4
      rwa [List.take_length] at this
    simp [Try.f66, hm]
    refine loop_inv (fun p : Nat => p ≤ l.length) (fun p => [(0, encLTSlot l), (1, encLTThing t), (5, dI (sumBy (fun s => sumBy (wCell s) t) (l.take p))), (6, dI p)]) (fun p => []) 1 (fun p => l.length - p) 0 400 (by simp) (by simp) (by simp) ?_
    intro p hp
    have hob := sumBy_bd (f := fun s => sumBy (wCell s) t) (c := 1000) (l.take p) fun s hs => hrowF s (List.mem_of_mem_take hs)
    have hol : (l.take p).length ≤ 30 := by simp; omega
    simp [h.1, h.2]
    refine ⟨by omega, fun hlt => ?_, fun hge => ?_⟩
    · have hos := sumBy_at (f := fun s => sumBy (wCell s) t) (d := default) hlt
      have hsm := getD_mem (d := default) hlt
      refine loop_inv (fun k : Nat => k ≤ t.length) (fun k => [(0, encLTSlot l), (1, encLTThing t), (5, dI (sumBy (fun s => sumBy (wCell s) t) (l.take p) + sumBy (wCell (l[p]?.getD default)) (t.take k))), (6, dI p), (7, dI k)]) (fun p => []) 1 (fun k => t.length - k) 0 400 (by simp) (by simp) (by simp) ?_
      intro k hk
      have hrk := hrow _ hsm k (by omega)
      simp
      refine ⟨fun hkt => ?_, fun hkt => ?_⟩
      · have hks := sumBy_at (f := wCell (l[p]?.getD default)) (d := default) hkt
        have hx := h5 _ (getD_mem (d := default) hkt)
        have hs3 := h3 _ hsm
        by_cases hc : (l[p]?.getD default).Thing = (t[k]?.getD default).Id
        · have hw : wCell (l[p]?.getD default) (t[k]?.getD default) = (l[p]?.getD default).Size - (t[k]?.getD default).Size := by rw [wCell, if_pos hc]
          repeat' (first | omega | refine And.intro ?_ ?_ | intro _)
          all_goals first | exact Again.mk (k + 1) (by omega) (by simp [hks, hw]; omega) (by first | omega | (simp; omega)) | (exfalso; omega) | (exfalso; exact absurd hc (by assumption)) | trace_state
        · have hw : wCell (l[p]?.getD default) (t[k]?.getD default) = 0 := by rw [wCell, if_neg hc]
          repeat' (first | omega | refine And.intro ?_ ?_ | intro _)
          all_goals first | (exfalso; exact absurd (by assumption) hc) | exact Again.mk (k + 1) (by omega) (by simp [hks, hw]) (by first | omega | (simp; omega)) | trace_state
      · have : k = t.length := by omega
        subst this
        rw [List.take_length]
        refine ⟨by omega, Again.mk (p + 1) (by omega) (by simp [hos]) (by first | omega | (simp; omega))⟩
    · rw [List.take_of_length_le hge, hsum]
  · have hm : mWasted l t = 0 := by rw [mWasted, if_neg h]
    simp [Try.f66, hm]
    refine loop_inv (fun _ : Unit => True) (fun _ => [(0, encLTSlot l), (1, encLTThing t), (5, dI 0), (6, dI 0)]) (fun _ => []) 1 (fun _ => 0) () 400 (by simp) (by simp) (by simp) ?_
    intro u _
    simp
    refine ⟨⟨fun _ => by omega, fun _ _ => by omega⟩, fun _ h1 h2 => absurd (by rw [h1, h2]; rfl) h⟩
theorem c66_ok : c66.ok Try.prog := mkCon_ok fun ⟨l, t⟩ hpre => c66_pc l t hpre
/-- loop.example/g03007/laws.FnExactWasted -/
theorem law12 (l : List TSlot) (wl : wfLTSlot l) (t : List TThing) (wt : wfLTThing t) : PCo Try.prog 12 [encLTSlot l, encLTThing t] (Tab.of []) (dB true) (Tab.of []) := by
  refine pco_of_run [] (E := ⟨[c64, c65, c66, c67, c68, c69, c70, c71], []⟩) (m := false) (base := 0) (Env.ok_cons c64_ok (Env.ok_cons c65_ok (Env.ok_cons c66_ok (Env.ok_cons c67_ok (Env.ok_cons c68_ok (Env.ok_cons c69_ok (Env.ok_cons c70_ok (Env.ok_cons c71_ok Env.ok_nil)))))))) G_ok mix 400 6 Try.func12 (by kernel_rfl) rfl (by kernel_rfl) (by kernel_rfl) rfl ?_
  simp (config := {maxSteps := 3000000}) [Try.f12]
  have h_l : l.length ≤ maxLen := wl.1
  have h_t : t.length ≤ maxLen := wt.1
  repeat' (first | omega | assumption | refine And.intro ?_ ?_ | intro _)
  all_goals first | omega | grind | (split at * <;> omega)
theorem law12_pc (D0 : D) (h0 : Sh G 9 81 D0) (D1 : D) (h1 : Sh G 9 82 D1) : PC Try.prog 12 [D0, D1] (dB true) [] := by
  obtain ⟨l, rfl, wl⟩ := sh81 (n := 6) h0
  obtain ⟨t, rfl, wt⟩ := sh82 (n := 6) h1
  exact law12 l wl t wt

end Go.Proofs.Ytnkggfhgmdbfpaa
