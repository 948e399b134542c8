/- Contracts of the functions that the laws run. -/
import Derived.Test.Ytdbhfkbfajljpaach01a
import Derived.Test.YtdbhfkbfajljpaaEngB
namespace Go.Proofs.Ytdbhfkbfajljpaa
open Go Go.Eng
set_option linter.unusedSimpArgs false
set_option linter.unusedVariables false
set_option maxRecDepth 10000
set_option maxHeartbeats 1000000
/-- one number after another is greater -/
def AscL (l : List Int) : Prop := ∀ q, 1 ≤ q → q < l.length → l[q - 1]?.getD 0 < l[q]?.getD 0
open Classical in
noncomputable def mAscL (l : List Int) : Bool := decide (AscL l)
theorem mAscL_iff (l : List Int) : mAscL l = true ↔ AscL l := by simp [mAscL]
theorem mAscL_pw {l : List Int} (h : l.Pairwise (· < ·)) : mAscL l = true := by
  rw [mAscL_iff]
  intro q h1 h2
  have := List.pairwise_iff_getElem.1 h (q - 1) q (by omega) h2 (by omega)
  rw [List.getElem?_eq_getElem (by omega), List.getElem?_eq_getElem h2]
  exact this
def mHas (l : List Int) (n : Int) : Bool := decide (n ∈ l)
/-- loop.example/g03007/laws.ascends -/
noncomputable def c24 : Con := mkCon 24 false (α := (List Int)) (fun x => (fun (l : List Int) => [encLI l]) x) (fun _ => []) (fun x => (fun (l : List Int) => l.length ≤ 1099511627776) x) (fun x => (fun (l : List Int) => (dB (mAscL l) : D)) x) (fun x => (fun (l : List Int) => []) x)
@[simp] theorem c24_f : c24.f = 24 := rfl
@[simp] theorem c24_own : c24.own = false := rfl
theorem c24_inj : ∀ u_ v_ : (List Int), ((fun x => (fun (l : List Int) => [encLI l]) x) u_).map nz = ((fun x => (fun (l : List Int) => [encLI l]) x) v_).map nz → u_ = v_ := by
  intro u_ v_ h
  obtain l := u_
  obtain l' := v_
  simp [nz_lit, nz1_lit, nz_agg, nz_sl, nz1_sl, encLI] at h
  first | (simp [h]; done) | (obtain ⟨⟩ := h; simp_all; done) | simp_all
@[simp] theorem c24_fn (l : List Int) : c24.fn [.sl false 1 (.lit (.int .i64 0)) (ML dI l)] [] = some ((fun (l : List Int) => l.length ≤ 1099511627776) l, (fun (l : List Int) => (dB (mAscL l) : D)) l, (fun (l : List Int) => []) l) :=
  mkCon_fn (fun x y h _ => c24_inj x y h) (l : (List Int)) (by simp [nz, nz1, ML_nil, encLI]) rfl
@[simp] theorem c24_fn1 (s_l : Nat) (z_l : D) : c24.fn [.sl false s_l z_l []] [] = some ((fun (l : List Int) => l.length ≤ 1099511627776) [], (fun (l : List Int) => (dB (mAscL l) : D)) [], (fun (l : List Int) => []) []) :=
  mkCon_fn (fun x y h _ => c24_inj x y h) ([] : (List Int)) (by simp [nz, nz1, ML_nil, encLI]) rfl
theorem c24_pc (l : List Int) (hpre : l.length ≤ 1099511627776) : PCo Try.prog 24 [encLI l] (Tab.of []) (dB (mAscL l)) (Tab.of []) := by
  refine pco_of_run [] (E := ⟨[], [], []⟩) (m := false) (base := 0) Env.ok_nil G_ok mix 300 6 Try.func24 (by kernel_rfl) rfl (by kernel_rfl) (by kernel_rfl) rfl ?_
  simp [Try.f24]
  refine loop_inv (fun p : Nat => 1 ≤ p ∧ p ≤ l.length + 1 ∧ ∀ q, 1 ≤ q → q < p → q < l.length → l[q - 1]?.getD 0 < l[q]?.getD 0) (fun p => [(0, encLI l), (3, dI p)]) (fun _ => []) 1 (fun p => l.length + 1 - p) 1 400 (by simp) (by simp; omega) (by simp) ?_
  intro p ⟨h1, hp, hi⟩
  have e : (((p : Int) - 1).toNat) = p - 1 := by omega
  simp [e]
  refine ⟨fun hlt => ?_, fun hge => ?_⟩
  · refine ⟨by repeat' (first | omega | refine And.intro ?_ ?_ | intro _), fun h => ?_, fun h => ⟨by omega, Again.mk (p + 1) ⟨by omega, by omega, fun q hq1 hq2 hq3 => ?_⟩ (by simp) (by first | omega | (simp; omega))⟩⟩
    · rw [Bool.eq_false_iff, Ne, mAscL_iff]
      intro ha
      have := ha p h1 (by omega)
      omega
    · rcases Nat.lt_or_ge q p with h2 | h2
      · exact hi q hq1 h2 hq3
      · have : q = p := by omega
        subst this; omega
  · rw [mAscL_iff]
    intro q hq1 hq2
    exact hi q hq1 (by omega) hq2
theorem c24_ok : c24.ok Try.prog := mkCon_ok fun l hpre => c24_pc l hpre
/-- loop.example/g03007/laws.sameInts -/
noncomputable def c19 : Con := mkCon 19 false (α := (List Int) × (List Int)) (fun x => (fun (a : List Int) (b : List Int) => [encLI a, encLI b]) x.1 x.2) (fun _ => []) (fun x => (fun (a : List Int) (b : List Int) => a.length ≤ 1099511627776 ∧ b.length ≤ 1099511627776) x.1 x.2) (fun x => (fun (a : List Int) (b : List Int) => (dB (decide (a = b)) : D)) x.1 x.2) (fun x => (fun (a : List Int) (b : List Int) => []) x.1 x.2)
@[simp] theorem c19_f : c19.f = 19 := rfl
@[simp] theorem c19_own : c19.own = false := rfl
theorem c19_inj : ∀ u_ v_ : (List Int) × (List Int), ((fun x => (fun (a : List Int) (b : List Int) => [encLI a, encLI b]) x.1 x.2) u_).map nz = ((fun x => (fun (a : List Int) (b : List Int) => [encLI a, encLI b]) x.1 x.2) v_).map nz → u_ = v_ := by
  intro u_ v_ h
  obtain ⟨a, b⟩ := u_
  obtain ⟨a', b'⟩ := v_
  simp [nz_lit, nz1_lit, nz_agg, nz_sl, nz1_sl, encLI] at h
  first | (simp [h]; done) | (obtain ⟨⟩ := h; simp_all; done) | simp_all
@[simp] theorem c19_fn (a : List Int) (b : List Int) : c19.fn [.sl false 1 (.lit (.int .i64 0)) (ML dI a), .sl false 1 (.lit (.int .i64 0)) (ML dI b)] [] = some ((fun (a : List Int) (b : List Int) => a.length ≤ 1099511627776 ∧ b.length ≤ 1099511627776) a b, (fun (a : List Int) (b : List Int) => (dB (decide (a = b)) : D)) a b, (fun (a : List Int) (b : List Int) => []) a b) :=
  mkCon_fn (fun x y h _ => c19_inj x y h) ((a, b) : (List Int) × (List Int)) (by simp [nz, nz1, ML_nil, encLI]) rfl
@[simp] theorem c19_fn1 (s_a : Nat) (z_a : D) (b : List Int) : c19.fn [.sl false s_a z_a [], .sl false 1 (.lit (.int .i64 0)) (ML dI b)] [] = some ((fun (a : List Int) (b : List Int) => a.length ≤ 1099511627776 ∧ b.length ≤ 1099511627776) [] b, (fun (a : List Int) (b : List Int) => (dB (decide (a = b)) : D)) [] b, (fun (a : List Int) (b : List Int) => []) [] b) :=
  mkCon_fn (fun x y h _ => c19_inj x y h) (([], b) : (List Int) × (List Int)) (by simp [nz, nz1, ML_nil, encLI]) rfl
@[simp] theorem c19_fn2 (a : List Int) (s_b : Nat) (z_b : D) : c19.fn [.sl false 1 (.lit (.int .i64 0)) (ML dI a), .sl false s_b z_b []] [] = some ((fun (a : List Int) (b : List Int) => a.length ≤ 1099511627776 ∧ b.length ≤ 1099511627776) a [], (fun (a : List Int) (b : List Int) => (dB (decide (a = b)) : D)) a [], (fun (a : List Int) (b : List Int) => []) a []) :=
  mkCon_fn (fun x y h _ => c19_inj x y h) ((a, []) : (List Int) × (List Int)) (by simp [nz, nz1, ML_nil, encLI]) rfl
@[simp] theorem c19_fn3 (s_a : Nat) (z_a : D) (s_b : Nat) (z_b : D) : c19.fn [.sl false s_a z_a [], .sl false s_b z_b []] [] = some ((fun (a : List Int) (b : List Int) => a.length ≤ 1099511627776 ∧ b.length ≤ 1099511627776) [] [], (fun (a : List Int) (b : List Int) => (dB (decide (a = b)) : D)) [] [], (fun (a : List Int) (b : List Int) => []) [] []) :=
  mkCon_fn (fun x y h _ => c19_inj x y h) (([], []) : (List Int) × (List Int)) (by simp [nz, nz1, ML_nil, encLI]) rfl
theorem c19_pc (a : List Int) (b : List Int) (hpre : a.length ≤ 1099511627776 ∧ b.length ≤ 1099511627776) : PCo Try.prog 19 [encLI a, encLI b] (Tab.of []) (dB (decide (a = b))) (Tab.of []) := by
  refine pco_of_run [] (E := ⟨[], [], []⟩) (m := false) (base := 0) Env.ok_nil G_ok mix 300 6 Try.func19 (by kernel_rfl) rfl (by kernel_rfl) (by kernel_rfl) rfl ?_
  simp [Try.f19]
  obtain ⟨pre1, pre2⟩ := hpre
  refine ⟨fun h => ?_, fun h => by intro e; subst e; exact absurd rfl h⟩
  refine loop_inv (fun p : Nat => p ≤ a.length ∧ a.take p = b.take p) (fun p => [(0, encLI a), (1, encLI b), (5, dI p)]) (fun _ => []) 1 (fun p => a.length - p) 0 100 (by simp) (by simp) (by simp) ?_
  intro p ⟨hp, hi⟩
  simp
  refine ⟨fun hlt => ⟨by omega, fun h2 => ⟨by omega, Again.mk (p + 1) ⟨by omega, take_eq_step hi (by omega) (by omega) h2⟩ (by simp) (by first | omega | (simp; omega))⟩, fun h2 => by intro e; subst e; exact absurd rfl h2⟩, fun hge => ?_⟩
  exact take_eq_full hi (by omega) (by omega)
theorem c19_ok : c19.ok Try.prog := mkCon_ok fun ⟨a, b⟩ hpre => c19_pc a b hpre
/-- loop.example/g03007/laws.big -/
noncomputable def c6 : Con := mkCon 6 false (α := (List Int)) (fun x => (fun (l : List Int) => [encLU l]) x) (fun _ => []) (fun x => (fun (l : List Int) => True) x) (fun x => (fun (l : List Int) => (dB (decide (1048576 < l.length)) : D)) x) (fun x => (fun (l : List Int) => []) x)
@[simp] theorem c6_f : c6.f = 6 := rfl
@[simp] theorem c6_own : c6.own = false := rfl
theorem c6_inj : ∀ u_ v_ : (List Int), ((fun x => (fun (l : List Int) => [encLU l]) x) u_).map nz = ((fun x => (fun (l : List Int) => [encLU l]) x) v_).map nz → u_ = v_ := by
  intro u_ v_ h
  obtain l := u_
  obtain l' := v_
  simp [nz_lit, nz1_lit, nz_agg, nz_sl, nz1_sl, encLU] at h
  first | (simp [h]; done) | (obtain ⟨⟩ := h; simp_all; done) | simp_all
@[simp] theorem c6_fn (l : List Int) : c6.fn [.sl false 1 (.lit (.int .u8 0)) (ML dU l)] [] = some ((fun (l : List Int) => True) l, (fun (l : List Int) => (dB (decide (1048576 < l.length)) : D)) l, (fun (l : List Int) => []) l) :=
  mkCon_fn (fun x y h _ => c6_inj x y h) (l : (List Int)) (by simp [nz, nz1, ML_nil, encLU]) rfl
@[simp] theorem c6_fn1 (s_l : Nat) (z_l : D) : c6.fn [.sl false s_l z_l []] [] = some ((fun (l : List Int) => True) [], (fun (l : List Int) => (dB (decide (1048576 < l.length)) : D)) [], (fun (l : List Int) => []) []) :=
  mkCon_fn (fun x y h _ => c6_inj x y h) ([] : (List Int)) (by simp [nz, nz1, ML_nil, encLU]) rfl
theorem c6_pc (l : List Int) : PCo Try.prog 6 [encLU l] (Tab.of []) (dB (decide (1048576 < l.length))) (Tab.of []) := by
  refine pco_of_run [] (E := ⟨[], [], []⟩) (m := false) (base := 0) Env.ok_nil G_ok mix 300 6 Try.func6 (by kernel_rfl) rfl (by kernel_rfl) (by kernel_rfl) rfl ?_
  simp [Try.f6]
  all_goals first | omega | (rw [Bool.eq_iff_iff]; simp; omega) | grind
theorem c6_ok : c6.ok Try.prog := mkCon_ok fun l hpre => c6_pc l
theorem ascBy_pw {α : Type} {ok : α → Bool} {num : α → Int} : ∀ {l : List α} {o : Option Int}, ascBy ok num o l = true → (∀ q, o = some q → ∀ x ∈ l, q < num x) ∧ l.Pairwise (fun a b => num a < num b)
  | [], _, _ => ⟨by simp, .nil⟩
  | x :: r, o, h => by
    simp only [ascBy, Bool.and_eq_true] at h
    obtain ⟨i1, i2⟩ := ascBy_pw h.2
    have hx := i1 _ rfl
    refine ⟨fun q hq y hy => ?_, List.pairwise_cons.2 ⟨hx, i2⟩⟩
    subst hq
    have h1 := of_decide_eq_true h.1.2
    rcases List.mem_cons.1 hy with rfl | hy
    · exact h1
    · have := hx y hy; omega
theorem ascBy_all {α : Type} {ok : α → Bool} {num : α → Int} : ∀ {l : List α} {o : Option Int}, ascBy ok num o l = true → ∀ x ∈ l, ok x = true
  | [], _, _ => by simp
  | x :: r, o, h => by
    simp only [ascBy, Bool.and_eq_true] at h
    intro y hy
    rcases List.mem_cons.1 hy with rfl | hy
    · exact h.1.1
    · exact ascBy_all h.2 y hy
theorem pick_map {α : Type} {want : α → Bool} {f : α → Int} (l : List α) : pick want f l = (l.filter want).map f := rfl
theorem pick_asc {α : Type} {ok : α → Bool} {num : α → Int} {want : α → Bool} {l : List α} {o : Option Int} (h : ascBy ok num o l = true) : mAscL (pick want num l) = true := by
  apply mAscL_pw
  rw [pick_map]
  exact List.pairwise_map.2 ((ascBy_pw h).2.filter _)
theorem pick_has {α : Type} {want : α → Bool} {num : α → Int} {l : List α} {x : α} (h : x ∈ l) (hw : want x = true) : mHas (pick want num l) (num x) = true := by
  rw [pick_map]
  exact decide_eq_true (List.mem_map.2 ⟨x, List.mem_filter.2 ⟨h, hw⟩, rfl⟩)
theorem pick_count {α : Type} {want : α → Bool} {num : α → Int} (l : List α) : (pick want num l).length = l.countP want := by
  rw [pick_map, List.length_map, List.countP_eq_length_filter]
/-- the first of a number is the one that has it, where the numbers ascend -/
theorem index_uniq {α : Type} [Inhabited α] {ok : α → Bool} {num : α → Int} {l : List α} {o : Option Int} {x : α} (h : ascBy ok num o l = true) (hx : x ∈ l) : 0 ≤ indexBy (wantN num (num x)) 0 l ∧ indexBy (wantN num (num x)) 0 l < l.length ∧ l[(indexBy (wantN num (num x)) 0 l).toNat]?.getD default = x := by
  have key : ∀ (l : List α) (k : Int), l.Pairwise (fun a b => num a < num b) → x ∈ l → ∃ n : Nat, indexBy (wantN num (num x)) k l = k + n ∧ n < l.length ∧ l[n]?.getD default = x := by
    intro l
    induction l with
    | nil => intro k _ hx; simp at hx
    | cons y r ih =>
      intro k hp hx
      obtain ⟨h1, h2⟩ := List.pairwise_cons.1 hp
      simp only [indexBy]
      by_cases e : num y = num x
      · rw [if_pos (by simp [wantN, e])]
        rcases List.mem_cons.1 hx with rfl | hx
        · exact ⟨0, by simp, by simp, by simp⟩
        · have := h1 x hx; omega
      · rw [if_neg (by simp [wantN, e])]
        rcases List.mem_cons.1 hx with rfl | hx
        · exact absurd rfl e
        · obtain ⟨n, e1, e2, e3⟩ := ih (k + 1) h2 hx
          exact ⟨n + 1, by rw [e1]; push_cast; omega, by simp; omega, by simpa using e3⟩
  obtain ⟨n, e1, e2, e3⟩ := key l 0 (ascBy_pw h).2 hx
  rw [e1]
  refine ⟨by omega, by omega, ?_⟩
  rw [show ((0 : Int) + n).toNat = n by omega]
  exact e3
theorem cnt_at {α : Type} {want : α → Bool} {l : List α} {p : Nat} {d : α} (h : p < l.length) : (l.take (p + 1)).countP want = (l.take p).countP want + if want (l[p]?.getD d) then 1 else 0 := by
  rw [take_at (d := d) h, List.countP_append]
  simp [List.countP_cons]

end Go.Proofs.Ytdbhfkbfajljpaa
