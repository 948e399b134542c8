/- Contracts of the functions that the laws run. -/
import Derived.Test.Ytdbhfkbfajljpaaputi
import Derived.Test.Ytdbhfkbfajljpaasorti
import Derived.Test.YtdbhfkbfajljpaaEngB
namespace Go.Proofs.Ytdbhfkbfajljpaa
open Go Go.Eng
set_option linter.unusedSimpArgs false
set_option linter.unusedVariables false
set_option maxRecDepth 10000
set_option maxHeartbeats 1000000
def compN (l : List Int) : Nat → List Int
  | 0 => []
  | p + 1 => if 0 < p ∧ l[p]?.getD 0 = l[p - 1]?.getD 0 then compN l p else compN l p ++ [l[p]?.getD 0]
theorem compN_le (l : List Int) : ∀ p, (compN l p).length ≤ p
  | 0 => by simp [compN]
  | p + 1 => by
    have := compN_le l p
    rw [compN]; split
    · omega
    · simp; omega
theorem compN_lt (l : List Int) {q : Nat} (hq : (compN l q).length < q) : ∀ p, q ≤ p → (compN l p).length < p
  | 0, h => by omega
  | p + 1, h => by
    by_cases e : q = p + 1
    · subst e; exact hq
    · have := compN_lt l hq p (by omega)
      rw [compN]; split
      · omega
      · simp; omega
theorem compN_take {l : List Int} : ∀ p, p ≤ l.length → (∀ q, 0 < q → q < p → ¬ l[q]?.getD 0 = l[q - 1]?.getD 0) → compN l p = l.take p
  | 0, _, _ => by simp [compN]
  | p + 1, h, hn => by
    rw [compN, if_neg (fun e => hn p e.1 (by omega) e.2), compN_take (l := l) p (by omega) fun q h1 h2 => hn q h1 (by omega), take_at (d := 0) (show p < l.length by omega)]
theorem compN_mem {l : List Int} {w : Int} : ∀ p, p ≤ l.length → (w ∈ compN l p ↔ w ∈ l.take p)
  | 0, _ => by simp [compN]
  | p + 1, h => by
    have ih := compN_mem (l := l) (w := w) p (by omega)
    rw [take_at (d := 0) (show p < l.length by omega), List.mem_append, ← ih, compN]
    split
    · rename_i e
      constructor
      · exact fun hw => .inl hw
      · rintro (hw | hw)
        · exact hw
        · rw [List.mem_singleton] at hw
          rw [ih, hw, e.2]
          exact List.mem_iff_getElem?.2 ⟨p - 1, by rw [List.getElem?_take_of_lt (show p - 1 < p by omega), List.getElem?_eq_getElem (show p - 1 < l.length by omega)]; rfl⟩
    · rw [List.mem_append]
theorem compN_last {l : List Int} : ∀ p, 0 < p → p ≤ l.length → ∃ r, compN l p = r ++ [l[p - 1]?.getD 0]
  | 0, h, _ => by omega
  | p + 1, _, h => by
    rw [compN]
    split
    · rename_i e
      obtain ⟨r, hr⟩ := compN_last (l := l) p e.1 (by omega)
      exact ⟨r, by rw [hr, ← e.2]; rfl⟩
    · exact ⟨_, rfl⟩
theorem compN_asc {l : List Int} (ha : l.Pairwise (· ≤ ·)) : ∀ p, p ≤ l.length → (compN l p).Pairwise (· < ·) ∧ ∀ y ∈ compN l p, 0 < p → y ≤ l[p - 1]?.getD 0
  | 0, _ => by simp [compN]
  | p + 1, h => by
    have ih := compN_asc ha p (by omega)
    have hmono : 0 < p → l[p - 1]?.getD 0 ≤ l[p]?.getD 0 := fun h0 => by
      rw [List.getElem?_eq_getElem (show p - 1 < l.length by omega), List.getElem?_eq_getElem (show p < l.length by omega)]
      exact List.pairwise_iff_getElem.1 ha (p - 1) p (by omega) (by omega) (by omega)
    rw [compN]
    split
    · rename_i e
      refine ⟨ih.1, fun y hy _ => ?_⟩
      have := ih.2 y hy e.1
      simp only [Nat.add_sub_cancel]; rw [e.2]; exact this
    · rename_i e
      refine ⟨List.pairwise_append.2 ⟨ih.1, List.pairwise_singleton _ _, fun y hy z hz => ?_⟩, fun y hy _ => ?_⟩
      · rw [List.mem_singleton] at hz
        subst hz
        have h0 : 0 < p := by
          rcases Nat.eq_zero_or_pos p with h0 | h0
          · subst h0; simp [compN] at hy
          · exact h0
        have h1 := ih.2 y hy h0
        have h2 := hmono h0
        have h3 : ¬ l[p]?.getD 0 = l[p - 1]?.getD 0 := fun e2 => e ⟨h0, e2⟩
        omega
      · rw [List.mem_append, List.mem_singleton] at hy
        simp only [Nat.add_sub_cancel]
        rcases hy with hy | hy
        · have h0 : 0 < p := by
            rcases Nat.eq_zero_or_pos p with h0 | h0
            · subst h0; simp [compN] at hy
            · exact h0
          have h1 := ih.2 y hy h0
          have h2 := hmono h0
          omega
        · omega
def mComp (l : List Int) : List Int := compN l l.length
theorem mComp_le (l : List Int) : (mComp l).length ≤ l.length := compN_le l _
def zerosI (n : Nat) : List Int := List.replicate n 0
/-- slices.Compact[[]in -/
noncomputable def c62 : Con := mkCon 62 true (α := (List Int)) (fun x => (fun (l : List Int) => ([.own (0, 0) 1 0 l.length] : List D)) x) (fun x => (fun (l : List Int) => ([((0, 0), .arr false 1 (dI 0) (ML dI l))] : List (Nm × OO))) x) (fun x => (fun (l : List Int) => l.length ≤ 1099511627776) x) (fun x => (fun (l : List Int) => (.own (0, 0) 1 0 (mComp l).length : D)) x) (fun x => (fun (l : List Int) => ([((0, 0), .arr false 1 (dI 0) (ML dI (mComp l ++ zerosI (l.length - (mComp l).length))))] : List (Nm × OO))) x)
@[simp] theorem c62_f : c62.f = 62 := rfl
@[simp] theorem c62_own : c62.own = true := rfl
theorem c62_inj : ∀ u_ v_ : (List Int), ((fun x => (fun (l : List Int) => ([.own (0, 0) 1 0 l.length] : List D)) x) u_).map nz = ((fun x => (fun (l : List Int) => ([.own (0, 0) 1 0 l.length] : List D)) x) v_).map nz → (fun x => (fun (l : List Int) => ([((0, 0), .arr false 1 (dI 0) (ML dI l))] : List (Nm × OO))) x) u_ = (fun x => (fun (l : List Int) => ([((0, 0), .arr false 1 (dI 0) (ML dI l))] : List (Nm × OO))) x) v_ → u_ = v_ := by
  intro u_ v_ h h2_
  obtain l := u_
  obtain l' := v_
  simp [nz_lit, nz1_lit, nz_agg, nz_sl, nz1_sl, nz_sx, nz_el, nz1_el, nz_own, nz1_own, nz_ptr, nz_fn, nz_iface] at h h2_
  first | (simp [h, h2_]; done) | (obtain ⟨h3_, h4_⟩ := List.append_inj h2_ h.1; simp_all; done) | simp_all | grind
@[simp] theorem c62_fn (l : List Int) : c62.fn ([.own (0, 0) 1 0 l.length]) ([((0, 0), .arr false 1 (dI 0) (ML dI l))]) = some (l.length ≤ 1099511627776, .own (0, 0) 1 0 (mComp l).length, [((0, 0), .arr false 1 (dI 0) (ML dI (mComp l ++ zerosI (l.length - (mComp l).length))))]) :=
  mkCon_fn c62_inj (l : (List Int)) rfl rfl
theorem c62_pc (l : List Int) (hpre : l.length ≤ 1099511627776) : PCo Try.prog 62 ([.own (0, 0) 1 0 l.length]) (Tab.of ([((0, 0), .arr false 1 (dI 0) (ML dI l))])) (.own (0, 0) 1 0 (mComp l).length) (Tab.of ([((0, 0), .arr false 1 (dI 0) (ML dI (mComp l ++ zerosI (l.length - (mComp l).length))))])) := by
  refine pco_of_run [] (E := ⟨[], [], []⟩) (m := false) (base := 0) Env.ok_nil G_ok mix 300 6 Try.func62 (by kernel_rfl) rfl (by kernel_rfl) (by kernel_rfl) rfl ?_
  by_cases h2 : l.length < 2
  · have e : mComp l = l := by
      have := compN_take (l := l) l.length (Nat.le_refl _) (fun q h1 h3 => by omega)
      rw [mComp, this, List.take_length]
    have h2' : (l.length : Int) < 2 := by omega
    rw [e]
    simp [Try.f62, h2', zerosI]
    first | done | omega
  · have h2' : ¬ (l.length : Int) < 2 := by omega
    simp [Try.f62, h2']
    refine loop_inv (fun k : Nat => 1 ≤ k ∧ k ≤ l.length ∧ ∀ q, 0 < q → q < k → ¬ l[q]?.getD 0 = l[q - 1]?.getD 0) (fun k => [(0, .own (0, 0) 1 0 l.length), (3, dI k)]) (fun k => [((0, 0), .arr false 1 (dI 0) (ML dI l))]) 2 (fun k => l.length - k) 1 400 (by simp) (by refine ⟨by omega, by omega, fun q a b => by omega⟩) (by simp) ?_
    intro k ⟨hk1, hkl, hk⟩
    have ek : ((k : Int) - 1).toNat = k - 1 := by omega
    simp [ek]
    have hstep : ∀ q, q ≤ l.length → 0 < q → compN l q = if 1 < q ∧ l[q - 1]?.getD 0 = l[q - 1 - 1]?.getD 0 then compN l (q - 1) else compN l (q - 1) ++ [l[q - 1]?.getD 0] := fun q _ h0 => by
      obtain ⟨r, rfl⟩ : ∃ r, q = r + 1 := ⟨q - 1, by omega⟩
      simp only [Nat.add_sub_cancel]
      rw [compN]
      by_cases hr : 0 < r
      · simp [hr]
      · simp [hr]
    refine ⟨fun hlt => ⟨⟨hlt, by omega, by omega, by omega⟩, fun he => ⟨by omega, ?_⟩, fun hne => ⟨by omega, Again.mk (k + 1) ⟨by omega, by omega, fun q a b => ?_⟩ (by simp) (by first | omega | (simp; omega))⟩⟩, fun hge => ?_⟩
    · have hck : compN l (k + 1) = l.take k := by
        rw [compN, if_pos ⟨by omega, he⟩, compN_take k hkl hk]
      refine loop_inv (fun i : Nat => 1 ≤ i ∧ k + i ≤ l.length ∧ (compN l (k + i)).length < k + i) (fun i => [(0, .own (0, 0) 1 0 l.length), (3, dI (compN l (k + i)).length), (4, .own (0, 0) 1 k (l.length - k)), (5, dI i)]) (fun i => [((0, 0), .arr false 1 (dI 0) (ML dI (compN l (k + i) ++ l.drop (compN l (k + i)).length)))]) 2 (fun i => l.length - i) 1 400 (by simp) (by refine ⟨by omega, by omega, ?_⟩; rw [hck]; simp; omega) (by
        have hmn : min k l.length = k := by omega
        simp [hck, hmn]) ?_
      intro i ⟨hi1, hi2, hi3⟩
      have ei : ((i : Int) - 1).toNat = i - 1 := by omega
      have hst : compN l (k + i + 1) = if 0 < k + i ∧ l[k + i]?.getD 0 = l[k + i - 1]?.getD 0 then compN l (k + i) else compN l (k + i) ++ [l[k + i]?.getD 0] := by rw [compN]
      have hfin : k + i = l.length → mComp l = compN l (k + i) := fun e => by rw [mComp, e]
      generalize compN l (k + i) = c at *
      have hat : ∀ q, c.length ≤ q → (c ++ l.drop c.length)[q]?.getD 0 = l[q]?.getD 0 := fun q hq => by
        rw [List.getElem?_append_right hq, List.getElem?_drop]
        congr 2; omega
      have h1 := hat (k + i) (by omega)
      have h3 := hat (k + (i - 1)) (by omega)
      have e3 : k + (i - 1) = k + i - 1 := by omega
      simp [ei, h1, h3]
      refine ⟨fun hlt => ⟨⟨hlt, by omega, by omega, by omega, by omega⟩, fun he2 => ⟨by omega, ?_⟩, fun hne2 => ?_⟩, fun hge => ?_⟩
      · rw [e3] at he2
        rw [if_pos ⟨by omega, he2⟩] at hst
        exact Again.mk (i + 1) ⟨by omega, by omega, by rw [← Nat.add_assoc, hst]; omega⟩ (by rw [← Nat.add_assoc, hst]; simp) (by first | omega | (simp; omega))
      · rw [e3] at hne2
        rw [if_neg (fun e => hne2 e.2)] at hst
        refine ⟨⟨hlt, by omega, by omega, by omega⟩, by omega, by omega, Again.mk (i + 1) ⟨by omega, by omega, by rw [← Nat.add_assoc, hst]; simp; omega⟩ ?_ (by first | omega | (simp; omega))⟩
        rw [← Nat.add_assoc, hst]
        have hd : l.drop c.length = (l[c.length]?.getD 0) :: l.drop (c.length + 1) := drop_at (by omega)
        have hset : (c ++ l.drop c.length).set c.length (l[k + i]?.getD 0) = c ++ (l[k + i]?.getD 0) :: l.drop (c.length + 1) := by
          rw [List.set_append_right _ _ (Nat.le_refl _), Nat.sub_self, hd, List.set_cons_zero]
        simp
        rw [hd, List.set_cons_zero]
      · have hfull : k + i = l.length := by omega
        have hf := hfin hfull
        rw [hf]
        have e4 : c.length + (l.length - c.length) = l.length := by omega
        refine ⟨by omega, rfl, ?_⟩
        rw [e4]; simp [zerosI]
    · by_cases e : q = k
      · subst e; exact hne
      · exact hk q a (by omega)
    · have hkk : k = l.length := by omega
      subst hkk
      have e : mComp l = l := by
        have := compN_take (l := l) l.length (Nat.le_refl _) hk
        rw [mComp, this, List.take_length]
      rw [e]
      simp [zerosI]
theorem c62_ok : c62.ok Try.prog := mkCon_ok fun l hpre => c62_pc l hpre
/-- slices.Grow[[]in -/
noncomputable def c67 : Con := mkCon 67 true (α := Int) (fun x => (fun (n : Int) => ([.sl true 0 .any [], dI n] : List D)) x) (fun x => (fun (n : Int) => ([] : List (Nm × OO))) x) (fun x => (fun (n : Int) => 0 ≤ n ∧ n ≤ 1099511627776) x) (fun x => (fun (n : Int) => (.own (0, 1) 1 0 0 : D)) x) (fun x => (fun (n : Int) => ([((0, 1), .arr false 1 (dI 0) (ML dI (List.replicate n.toNat 0)))] : List (Nm × OO))) x)
@[simp] theorem c67_f : c67.f = 67 := rfl
@[simp] theorem c67_own : c67.own = true := rfl
theorem c67_inj : ∀ u_ v_ : Int, ((fun x => (fun (n : Int) => ([.sl true 0 .any [], dI n] : List D)) x) u_).map nz = ((fun x => (fun (n : Int) => ([.sl true 0 .any [], dI n] : List D)) x) v_).map nz → (fun x => (fun (n : Int) => ([] : List (Nm × OO))) x) u_ = (fun x => (fun (n : Int) => ([] : List (Nm × OO))) x) v_ → u_ = v_ := by
  intro u_ v_ h h2_
  obtain n := u_
  obtain n' := v_
  simp [nz_lit, nz1_lit, nz_agg, nz_sl, nz1_sl, nz_sx, nz_el, nz1_el, nz_own, nz1_own, nz_ptr, nz_fn, nz_iface] at h h2_
  first | (simp [h, h2_]; done) | (obtain ⟨h3_, h4_⟩ := List.append_inj h2_ h.1; simp_all; done) | simp_all | grind
@[simp] theorem c67_fn (n : Int) : c67.fn ([.sl true 0 .any [], dI n]) ([]) = some (0 ≤ n ∧ n ≤ 1099511627776, .own (0, 1) 1 0 0, [((0, 1), .arr false 1 (dI 0) (ML dI (List.replicate n.toNat 0)))]) :=
  mkCon_fn c67_inj (n : Int) rfl rfl
theorem c67_pc (n : Int) (hpre : 0 ≤ n ∧ n ≤ 1099511627776) : PCo Try.prog 67 ([.sl true 0 .any [], dI n]) (Tab.of ([])) (.own (0, 1) 1 0 0) (Tab.of ([((0, 1), .arr false 1 (dI 0) (ML dI (List.replicate n.toNat 0)))])) := by
  by_cases h0 : n = 0
  · subst h0
    show PCo Try.prog 67 [.sl true 0 .any [], dI 0] Tab.nil (.own (0, 1) 1 0 0) (Tab.of [((0, 1), .arr false 1 (dI 0) [])])
    refine pc_ghost (s' := 0) (z' := .any) ?_
    refine pco_of_run [] (tin := []) (E := ⟨[], [], []⟩) (m := false) (base := 0) Env.ok_nil G_ok mix 300 6 Try.func67 (by kernel_rfl) rfl (by kernel_rfl) (by kernel_rfl) rfl ?_
    simp [Try.f67]
  · refine pco_of_run [] (E := ⟨[], [], []⟩) (m := false) (base := 0) Env.ok_nil G_ok mix 300 6 Try.func67 (by kernel_rfl) rfl (by kernel_rfl) (by kernel_rfl) rfl ?_
    have h1 : 0 < n := by omega
    simp [Try.f67, h1]
    omega
theorem c67_ok : c67.ok Try.prog := mkCon_ok fun n hpre => c67_pc n hpre
/-- slices.Concat[[]in -/
noncomputable def c60 : Con := mkCon 60 false (α := (List Int) × (List Int)) (fun x => (fun (a : List Int) (b : List Int) => ([.sl false 1 yLI [encLI a, encLI b]] : List D)) x.1 x.2) (fun x => (fun (a : List Int) (b : List Int) => ([] : List (Nm × OO))) x.1 x.2) (fun x => (fun (a : List Int) (b : List Int) => a.length ≤ 1073741824 ∧ b.length ≤ 1073741824) x.1 x.2) (fun x => (fun (a : List Int) (b : List Int) => (.own (0, 1) 1 0 (a.length + b.length) : D)) x.1 x.2) (fun x => (fun (a : List Int) (b : List Int) => ([((0, 1), .arr false 1 (dI 0) (ML dI (a ++ b)))] : List (Nm × OO))) x.1 x.2)
@[simp] theorem c60_f : c60.f = 60 := rfl
@[simp] theorem c60_own : c60.own = false := rfl
theorem c60_inj : ∀ u_ v_ : (List Int) × (List Int), ((fun x => (fun (a : List Int) (b : List Int) => ([.sl false 1 yLI [encLI a, encLI b]] : List D)) x.1 x.2) u_).map nz = ((fun x => (fun (a : List Int) (b : List Int) => ([.sl false 1 yLI [encLI a, encLI b]] : List D)) x.1 x.2) v_).map nz → (fun x => (fun (a : List Int) (b : List Int) => ([] : List (Nm × OO))) x.1 x.2) u_ = (fun x => (fun (a : List Int) (b : List Int) => ([] : List (Nm × OO))) x.1 x.2) v_ → u_ = v_ := by
  intro u_ v_ h h2_
  obtain ⟨a, b⟩ := u_
  obtain ⟨a', b'⟩ := v_
  simp [nz_lit, nz1_lit, nz_agg, nz_sl, nz1_sl, nz_sx, nz_el, nz1_el, nz_own, nz1_own, nz_ptr, nz_fn, nz_iface] at h h2_
  first | (simp [h, h2_]; done) | (obtain ⟨h3_, h4_⟩ := List.append_inj h2_ h.1; simp_all; done) | simp_all | grind
@[simp] theorem c60_fn (a : List Int) (b : List Int) : c60.fn ([.sl false 1 yLI [(.sl false 1 (.lit (.int .i64 0)) (ML dI a)), (.sl false 1 (.lit (.int .i64 0)) (ML dI b))]]) ([]) = some (a.length ≤ 1073741824 ∧ b.length ≤ 1073741824, .own (0, 1) 1 0 (a.length + b.length), [((0, 1), .arr false 1 (dI 0) (ML dI (a ++ b)))]) :=
  mkCon_fn c60_inj ((a, b) : (List Int) × (List Int)) rfl rfl
theorem c60_pc (a : List Int) (b : List Int) (hpre : a.length ≤ 1073741824 ∧ b.length ≤ 1073741824) : PCo Try.prog 60 ([.sl false 1 yLI [encLI a, encLI b]]) (Tab.of ([])) (.own (0, 1) 1 0 (a.length + b.length)) (Tab.of ([((0, 1), .arr false 1 (dI 0) (ML dI (a ++ b)))])) := by
  refine pco_of_run [] (E := ⟨[c67], [], []⟩) (m := false) (base := 0) (Env.ok_cons c67_ok Env.ok_nil) G_ok mix 300 6 Try.func60 (by kernel_rfl) rfl (by kernel_rfl) (by kernel_rfl) rfl ?_
  simp [Try.f60]
  refine loop_unroll 400 ?_
  simp
  refine ⟨by omega, ⟨by omega, by omega⟩, by omega, fun _ => ⟨by omega, ?_⟩⟩
  refine loop_unroll 400 ?_
  simp
  omega
theorem c60_ok : c60.ok Try.prog := mkCon_ok fun ⟨a, b⟩ hpre => c60_pc a b hpre
def mOnce (l m : List Int) : List Int := mComp (mSort (l ++ m))
def mOnceT (l m : List Int) : List Int := mOnce l m ++ zerosI (l.length + m.length - (mOnce l m).length)
@[simp] theorem c61_sum (a b : List Int) : c61.fn [.own (0, 0) 1 0 (a.length + b.length)] [((0, 0), .arr false 1 (dI 0) (ML dI (a ++ b)))] = some (a.length + b.length < 4611686018427387904, .tup [], [((0, 0), .arr false 1 (dI 0) (ML dI (mSort (a ++ b))))]) := by
  have h := c61_fn (a ++ b)
  simp only [List.length_append] at h
  exact h
@[simp] theorem c62_sum (a b : List Int) : c62.fn [.own (0, 0) 1 0 (a.length + b.length)] [((0, 0), .arr false 1 (dI 0) (ML dI (mSort (a ++ b))))] = some (a.length + b.length ≤ 1099511627776, .own (0, 0) 1 0 (mOnce a b).length, [((0, 0), .arr false 1 (dI 0) (ML dI (mOnceT a b)))]) := by
  have h := c62_fn (mSort (a ++ b))
  simp only [mSort_len, List.length_append] at h
  exact h
/-- loop.example/g03007/impl.ascendingOnce -/
noncomputable def c46 : Con := mkCon 46 false (α := (List Int) × (List Int)) (fun x => (fun (l : List Int) (m : List Int) => [encLI l, encLI m]) x.1 x.2) (fun _ => []) (fun x => (fun (l : List Int) (m : List Int) => l.length ≤ 1073741824 ∧ m.length ≤ 1073741824) x.1 x.2) (fun x => (fun (l : List Int) (m : List Int) => (.own (0, 1) 1 0 (mOnce l m).length : D)) x.1 x.2) (fun x => (fun (l : List Int) (m : List Int) => [((0, 1), .arr false 1 (dI 0) (ML dI (mOnceT l m)))]) x.1 x.2)
@[simp] theorem c46_f : c46.f = 46 := rfl
@[simp] theorem c46_own : c46.own = false := rfl
theorem c46_inj : ∀ u_ v_ : (List Int) × (List Int), ((fun x => (fun (l : List Int) (m : List Int) => [encLI l, encLI m]) x.1 x.2) u_).map nz = ((fun x => (fun (l : List Int) (m : List Int) => [encLI l, encLI m]) x.1 x.2) v_).map nz → u_ = v_ := by
  intro u_ v_ h
  obtain ⟨l, m⟩ := u_
  obtain ⟨l', m'⟩ := v_
  simp [nz_lit, nz1_lit, nz_agg, nz_sl, nz1_sl, encLI] at h
  first | (simp [h]; done) | (obtain ⟨⟩ := h; simp_all; done) | simp_all
@[simp] theorem c46_fn (l : List Int) (m : List Int) : c46.fn [.sl false 1 (.lit (.int .i64 0)) (ML dI l), .sl false 1 (.lit (.int .i64 0)) (ML dI m)] [] = some ((fun (l : List Int) (m : List Int) => l.length ≤ 1073741824 ∧ m.length ≤ 1073741824) l m, (fun (l : List Int) (m : List Int) => (.own (0, 1) 1 0 (mOnce l m).length : D)) l m, (fun (l : List Int) (m : List Int) => [((0, 1), .arr false 1 (dI 0) (ML dI (mOnceT l m)))]) l m) :=
  mkCon_fn (fun x y h _ => c46_inj x y h) ((l, m) : (List Int) × (List Int)) (by simp [nz, nz1, ML_nil, encLI]) rfl
@[simp] theorem c46_fn1 (s_l : Nat) (z_l : D) (m : List Int) : c46.fn [.sl false s_l z_l [], .sl false 1 (.lit (.int .i64 0)) (ML dI m)] [] = some ((fun (l : List Int) (m : List Int) => l.length ≤ 1073741824 ∧ m.length ≤ 1073741824) [] m, (fun (l : List Int) (m : List Int) => (.own (0, 1) 1 0 (mOnce l m).length : D)) [] m, (fun (l : List Int) (m : List Int) => [((0, 1), .arr false 1 (dI 0) (ML dI (mOnceT l m)))]) [] m) :=
  mkCon_fn (fun x y h _ => c46_inj x y h) (([], m) : (List Int) × (List Int)) (by simp [nz, nz1, ML_nil, encLI]) rfl
@[simp] theorem c46_fn2 (l : List Int) (s_m : Nat) (z_m : D) : c46.fn [.sl false 1 (.lit (.int .i64 0)) (ML dI l), .sl false s_m z_m []] [] = some ((fun (l : List Int) (m : List Int) => l.length ≤ 1073741824 ∧ m.length ≤ 1073741824) l [], (fun (l : List Int) (m : List Int) => (.own (0, 1) 1 0 (mOnce l m).length : D)) l [], (fun (l : List Int) (m : List Int) => [((0, 1), .arr false 1 (dI 0) (ML dI (mOnceT l m)))]) l []) :=
  mkCon_fn (fun x y h _ => c46_inj x y h) ((l, []) : (List Int) × (List Int)) (by simp [nz, nz1, ML_nil, encLI]) rfl
@[simp] theorem c46_fn3 (s_l : Nat) (z_l : D) (s_m : Nat) (z_m : D) : c46.fn [.sl false s_l z_l [], .sl false s_m z_m []] [] = some ((fun (l : List Int) (m : List Int) => l.length ≤ 1073741824 ∧ m.length ≤ 1073741824) [] [], (fun (l : List Int) (m : List Int) => (.own (0, 1) 1 0 (mOnce l m).length : D)) [] [], (fun (l : List Int) (m : List Int) => [((0, 1), .arr false 1 (dI 0) (ML dI (mOnceT l m)))]) [] []) :=
  mkCon_fn (fun x y h _ => c46_inj x y h) (([], []) : (List Int) × (List Int)) (by simp [nz, nz1, ML_nil, encLI]) rfl
theorem c46_pc (l : List Int) (m : List Int) (hpre : l.length ≤ 1073741824 ∧ m.length ≤ 1073741824) : PCo Try.prog 46 [encLI l, encLI m] (Tab.of []) (.own (0, 1) 1 0 (mOnce l m).length) (Tab.of [((0, 1), .arr false 1 (dI 0) (ML dI (mOnceT l m)))]) := by
  refine pco_of_run [] (E := ⟨[c60, c61, c62], [], []⟩) (m := false) (base := 0) (Env.ok_cons c60_ok (Env.ok_cons c61_ok (Env.ok_cons c62_ok Env.ok_nil))) G_ok mix 300 6 Try.func46 (by kernel_rfl) rfl (by kernel_rfl) (by kernel_rfl) rfl ?_
  simp [Try.f46]
  exact ⟨hpre, by omega, by omega⟩
theorem c46_ok : c46.ok Try.prog := mkCon_ok fun ⟨l, m⟩ hpre => c46_pc l m hpre
theorem asc_ext {a b : List Int} (ha : a.Pairwise (· < ·)) (hb : b.Pairwise (· < ·)) (h : ∀ w, w ∈ a ↔ w ∈ b) : a = b := by
  have hp : a.Perm b := (List.perm_ext_iff_of_nodup (ha.imp fun h => by omega) (hb.imp fun h => by omega)).2 h
  exact hp.eq_of_pairwise (fun a b _ _ h1 h2 => by omega) ha hb
theorem once_fold (l m : List Int) : (l ++ m).foldl putI [] = mOnce l m := by
  have h1 := foldP (l ++ m) [] List.Pairwise.nil
  have h2 := compN_asc (mSort_asc (l ++ m)) (mSort (l ++ m)).length (Nat.le_refl _)
  refine asc_ext h1.1 h2.1 fun w => ?_
  have h3 := compN_mem (l := mSort (l ++ m)) (w := w) (mSort (l ++ m)).length (Nat.le_refl _)
  rw [List.take_length] at h3
  rw [h1.2.1 w]
  show w ∈ ([] : List Int) ∨ w ∈ l ++ m ↔ w ∈ compN (mSort (l ++ m)) (mSort (l ++ m)).length
  rw [h3, (mSort_perm _).mem_iff]; simp
theorem mOnce_le (l m : List Int) : (mOnce l m).length ≤ l.length + m.length := by
  have := mComp_le (mSort (l ++ m))
  rw [mSort_len, List.length_append] at this
  exact this

end Go.Proofs.Ytdbhfkbfajljpaa
