/- Contracts of the functions that the laws run. -/
import Derived.Test.Ytpnfkjbnhholfaach14c
import Derived.Test.YtpnfkjbnhholfaaEngB
namespace Go.Proofs.Ytpnfkjbnhholfaa
open Go Go.Eng
set_option linter.unusedSimpArgs false
set_option linter.unusedVariables false
set_option maxRecDepth 10000
set_option maxHeartbeats 1000000
/-- slices.Clone[[]loop.example/g03007/impl.Slo -/
noncomputable def c111 : Con := mkCon 111 false (α := (List TSlot)) (fun x => (fun (l : List TSlot) => [encLTSlot l]) x) (fun _ => []) (fun x => (fun (l : List TSlot) => l.length ≤ 1073741824) x) (fun x => (fun (l : List TSlot) => (.own (0, 1) 3 0 l.length : D)) x) (fun x => (fun (l : List TSlot) => [((0, 1), .arr false 3 yTSlot (ML encTSlot l))]) x)
@[simp] theorem c111_f : c111.f = 111 := rfl
@[simp] theorem c111_own : c111.own = false := rfl
theorem c111_inj : ∀ u_ v_ : (List TSlot), ((fun x => (fun (l : List TSlot) => [encLTSlot l]) x) u_).map nz = ((fun x => (fun (l : List TSlot) => [encLTSlot l]) x) v_).map nz → u_ = v_ := by
  intro u_ v_ h
  obtain l := u_
  obtain l' := v_
  simp [nz_lit, nz1_lit, nz_agg, nz_sl, nz1_sl, encLTSlot] at h
  first | (simp [h]; done) | (obtain ⟨⟩ := h; simp_all; done) | simp_all
@[simp] theorem c111_fn (l : List TSlot) : c111.fn [.sl false 3 yTSlot (ML encTSlot l)] [] = some ((fun (l : List TSlot) => l.length ≤ 1073741824) l, (fun (l : List TSlot) => (.own (0, 1) 3 0 l.length : D)) l, (fun (l : List TSlot) => [((0, 1), .arr false 3 yTSlot (ML encTSlot l))]) l) :=
  mkCon_fn (fun x y h _ => c111_inj x y h) (l : (List TSlot)) (by simp [nz, nz1, ML_nil, encLTSlot]) rfl
@[simp] theorem c111_fn1 (s_l : Nat) (z_l : D) : c111.fn [.sl false s_l z_l []] [] = some ((fun (l : List TSlot) => l.length ≤ 1073741824) [], (fun (l : List TSlot) => (.own (0, 1) 3 0 l.length : D)) [], (fun (l : List TSlot) => [((0, 1), .arr false 3 yTSlot (ML encTSlot l))]) []) :=
  mkCon_fn (fun x y h _ => c111_inj x y h) ([] : (List TSlot)) (by simp [nz, nz1, ML_nil, encLTSlot]) rfl
theorem c111_pc (l : List TSlot) (hpre : l.length ≤ 1073741824) : PCo Try.prog 111 [encLTSlot l] (Tab.of []) (.own (0, 1) 3 0 l.length) (Tab.of [((0, 1), .arr false 3 yTSlot (ML encTSlot l))]) := by
  by_cases hl : l = []
  · subst hl
    show PCo Try.prog 111 [.sl false 3 yTSlot []] Tab.nil (.own (0, 1) 3 0 0) (Tab.of [((0, 1), .arr false 3 yTSlot [])])
    refine pco_slice fun a cap => ?_
    cases a with
    | none =>
      refine pc_ghost (s' := 0) (z' := .any) ?_
      refine pco_of_run [] (tin := []) (E := ⟨[], [], []⟩) (m := false) (base := 0) Env.ok_nil G_ok mix 300 6 Try.func111 (by kernel_rfl) rfl (by kernel_rfl) (by kernel_rfl) rfl ?_
      simp [Try.f111]
    | some q =>
      refine pco_of_run [] (tin := []) (E := ⟨[], [], []⟩) (m := false) (base := 0) Env.ok_nil G_ok mix 300 6 Try.func111 (by kernel_rfl) rfl (by kernel_rfl) (by kernel_rfl) rfl ?_
      simp [Try.f111]
  · refine pco_of_run [] (E := ⟨[], [], []⟩) (m := false) (base := 0) Env.ok_nil G_ok mix 300 6 Try.func111 (by kernel_rfl) rfl (by kernel_rfl) (by kernel_rfl) rfl ?_
    simp [Try.f111, -nilS, nilS_ML hl]
    omega
theorem c111_ok : c111.ok Try.prog := mkCon_ok fun l hpre => c111_pc l hpre
def freed (s : TSlot) : TSlot := ⟨s.Id, s.Size, 0⟩
def freeId (n : Int) (s : TSlot) : TSlot := if s.Id = n then freed s else s
def kTake (l : List TSlot) (t : Int) : Bool := mAreSlots l && decide (0 ≤ indexBy (wantT t) 0 l)
def mTake (l : List TSlot) (t : Int) : List TSlot := if kTake l t then l.map (freeId (lookS t l)) else l
theorem mTake_yes {l : List TSlot} {t : Int} (h : kTake l t = true) : mTake l t = l.map (freeId (lookS t l)) := by simp [mTake, h]
theorem mTake_no {l : List TSlot} {t : Int} (h : kTake l t = false) : mTake l t = l := by simp [mTake, h]
theorem mTake_len (l : List TSlot) (t : Int) : (mTake l t).length = l.length := by simp only [mTake]; split <;> simp
theorem slot_low {ok : TSlot → Bool} : ∀ {b : List TSlot} {q : Int}, ascBy ok nSlot (some q) b = true → ∀ y ∈ b, q < y.Id
  | [], _, _, _, hy => by simp at hy
  | x :: b, q, h, y, hy => by
    simp only [ascBy, Bool.and_eq_true, decide_eq_true_eq] at h
    rcases List.mem_cons.1 hy with rfl | hy
    · exact h.1.2
    · exact Int.lt_trans h.1.2 (slot_low h.2 y hy)
theorem freeId_none {n : Int} : ∀ {l : List TSlot}, (∀ y ∈ l, ¬ y.Id = n) → l.map (freeId n) = l
  | [], _ => rfl
  | x :: l, h => by
    rw [List.map_cons, freeId_none fun y hy => h y (by simp [hy])]
    rw [freeId, if_neg (h x (by simp))]
theorem freeId_set {ok : TSlot → Bool} : ∀ {l : List TSlot} {o : Option Int} {k : Nat}, ascBy ok nSlot o l = true → k < l.length → l.map (freeId (l[k]?.getD default).Id) = l.set k (freed (l[k]?.getD default))
  | [], _, _, _, hk => by simp at hk
  | x :: l, o, 0, h, _ => by
    simp only [ascBy, Bool.and_eq_true] at h
    have h2 := slot_low h.2
    simp only [List.getElem?_cons_zero, Option.getD_some, List.map_cons, List.set_cons_zero]
    rw [freeId_none fun y hy => by have := h2 y hy; simp only [nSlot] at this; omega]
    rw [freeId, if_pos rfl]
  | x :: l, o, k + 1, h, hk => by
    simp only [ascBy, Bool.and_eq_true] at h
    have h2 := slot_low h.2
    simp only [List.length_cons] at hk
    have hk' : k < l.length := by omega
    have ih := freeId_set h.2 hk'
    simp only [List.getElem?_cons_succ, List.map_cons, List.set_cons_succ]
    rw [ih]
    have h3 := h2 _ (getD_mem (d := default) hk')
    simp only [nSlot] at h3
    rw [freeId, if_neg (by omega)]
theorem slot_valid {l : List TSlot} (h : mAreSlots l = true) : ascBy mIsSlot nSlot none l = true := by
  simp only [mAreSlots, Bool.and_eq_true] at h; exact h.1.2
theorem asc_ok {ok : TSlot → Bool} : ∀ {l : List TSlot} {o : Option Int}, ascBy ok nSlot o l = true → ∀ y ∈ l, ok y = true
  | [], _, _, _, hy => by simp at hy
  | x :: l, o, h, y, hy => by
    simp only [ascBy, Bool.and_eq_true] at h
    rcases List.mem_cons.1 hy with rfl | hy
    · exact h.1.1
    · exact asc_ok h.2 y hy
/-- loop.example/g03007/impl.TakeOut -/
noncomputable def c44 : Con := mkCon 44 false (α := (List TSlot) × Int) (fun x => (fun (l : List TSlot) (t : Int) => [encLTSlot l, dI t]) x.1 x.2) (fun _ => []) (fun x => (fun (l : List TSlot) (t : Int) => l.length ≤ 1073741823) x.1 x.2) (fun x => (fun (l : List TSlot) (t : Int) => (.tup [.own (0, 1) 3 0 (mTake l t).length, dB (kTake l t)] : D)) x.1 x.2) (fun x => (fun (l : List TSlot) (t : Int) => [((0, 1), .arr false 3 yTSlot (ML encTSlot (mTake l t)))]) x.1 x.2)
@[simp] theorem c44_f : c44.f = 44 := rfl
@[simp] theorem c44_own : c44.own = false := rfl
theorem c44_inj : ∀ u_ v_ : (List TSlot) × Int, ((fun x => (fun (l : List TSlot) (t : Int) => [encLTSlot l, dI t]) x.1 x.2) u_).map nz = ((fun x => (fun (l : List TSlot) (t : Int) => [encLTSlot l, dI t]) x.1 x.2) v_).map nz → u_ = v_ := by
  intro u_ v_ h
  obtain ⟨l, t⟩ := u_
  obtain ⟨l', t'⟩ := v_
  simp [nz_lit, nz1_lit, nz_agg, nz_sl, nz1_sl, encLTSlot] at h
  first | (simp [h]; done) | (obtain ⟨⟩ := h; simp_all; done) | simp_all
@[simp] theorem c44_fn (l : List TSlot) (t : Int) : c44.fn [.sl false 3 yTSlot (ML encTSlot l), .lit (.int .i64 t)] [] = some ((fun (l : List TSlot) (t : Int) => l.length ≤ 1073741823) l t, (fun (l : List TSlot) (t : Int) => (.tup [.own (0, 1) 3 0 (mTake l t).length, dB (kTake l t)] : D)) l t, (fun (l : List TSlot) (t : Int) => [((0, 1), .arr false 3 yTSlot (ML encTSlot (mTake l t)))]) l t) :=
  mkCon_fn (fun x y h _ => c44_inj x y h) ((l, t) : (List TSlot) × Int) (by simp [nz, nz1, ML_nil, encLTSlot]) rfl
@[simp] theorem c44_fn1 (s_l : Nat) (z_l : D) (t : Int) : c44.fn [.sl false s_l z_l [], .lit (.int .i64 t)] [] = some ((fun (l : List TSlot) (t : Int) => l.length ≤ 1073741823) [] t, (fun (l : List TSlot) (t : Int) => (.tup [.own (0, 1) 3 0 (mTake l t).length, dB (kTake l t)] : D)) [] t, (fun (l : List TSlot) (t : Int) => [((0, 1), .arr false 3 yTSlot (ML encTSlot (mTake l t)))]) [] t) :=
  mkCon_fn (fun x y h _ => c44_inj x y h) (([], t) : (List TSlot) × Int) (by simp [nz, nz1, ML_nil, encLTSlot]) rfl
theorem c44_pc (l : List TSlot) (t : Int) (hpre : l.length ≤ 1073741823) : PCo Try.prog 44 [encLTSlot l, dI t] (Tab.of []) (.tup [.own (0, 1) 3 0 (mTake l t).length, dB (kTake l t)]) (Tab.of [((0, 1), .arr false 3 yTSlot (ML encTSlot (mTake l t)))]) := by
  refine pco_of_run [] (E := ⟨[c45, c111, c114], [], []⟩) (m := false) (base := 0) (Env.ok_cons c45_ok (Env.ok_cons c111_ok (Env.ok_cons c114_ok Env.ok_nil))) G_ok mix 300 6 Try.func44 (by kernel_rfl) rfl (by kernel_rfl) (by kernel_rfl) rfl ?_
  have hb := indexBy_bd (want := wantT t) l 0
  cases h1 : mAreSlots l with
  | false =>
    have hk : kTake l t = false := by simp [kTake, h1]
    simp [Try.f44, h1, hk, mTake_no hk]
    omega
  | true =>
    rcases look_index (t := t) l 0 (by omega) with ⟨h2, h3⟩ | ⟨k, h2, h3, h4⟩
    · have hk : kTake l t = false := by simp [kTake]; intro _; omega
      simp [Try.f44, h1, h2, hk, mTake_no hk]
      omega
    · have hi : indexBy (wantT t) 0 l = (k : Int) := by omega
      have hk : kTake l t = true := by simp [kTake, h1, hi]
      have hm : l.map (freeId (lookS t l)) = l.set k (freed (l[k]?.getD default)) := by rw [h4]; exact freeId_set (slot_valid h1) h2
      simp [Try.f44, h1, hi, hk, mTake_yes hk, hm]
      exact ⟨by omega, by omega, h2, rfl⟩
theorem c44_ok : c44.ok Try.prog := mkCon_ok fun ⟨l, t⟩ hpre => c44_pc l t hpre
end Go.Proofs.Ytpnfkjbnhholfaa
