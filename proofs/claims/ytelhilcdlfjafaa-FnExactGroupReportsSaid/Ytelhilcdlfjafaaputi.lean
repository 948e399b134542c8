/- Contracts of the functions that the laws run. -/
import Derived.Test.Ytelhilcdlfjafaach03
import Derived.Test.YtelhilcdlfjafaaEngB
namespace Go.Proofs.Ytelhilcdlfjafaa
open Go Go.Eng
set_option linter.unusedSimpArgs false
set_option linter.unusedVariables false
set_option maxRecDepth 10000
set_option maxHeartbeats 1000000
def putI : List Int → Int → List Int
  | [], n => [n]
  | x :: t, n => if x < n then x :: putI t n else if x = n then x :: t else n :: x :: t
def cutI (l : List Int) (n : Int) : Nat := (l.takeWhile fun x => decide (x < n)).length
theorem cutI_le (l : List Int) (n : Int) : cutI l n ≤ l.length := (List.takeWhile_sublist _).length_le
theorem cutI_at : ∀ {l : List Int} {n : Int} {p : Nat}, p ≤ cutI l n → p < l.length → (p < cutI l n ↔ l[p]?.getD 0 < n)
  | [], n, p, _, h => by simp at h
  | x :: t, n, 0, _, _ => by
    by_cases h : x < n <;> simp [cutI, h]
  | x :: t, n, p + 1, h, h2 => by
    by_cases hx : x < n
    · simp only [cutI, List.takeWhile_cons, hx, decide_true, if_true, List.length_cons] at h ⊢
      have := cutI_at (l := t) (n := n) (p := p) (by simp only [cutI]; omega) (by simpa using h2)
      simp only [cutI] at this
      simp only [List.getElem?_cons_succ]
      omega
    · simp [cutI, hx] at h
theorem putI_cut : ∀ (l : List Int) (n : Int), putI l n = if cutI l n < l.length ∧ l[cutI l n]?.getD 0 = n then l else l.take (cutI l n) ++ n :: l.drop (cutI l n)
  | [], n => by simp [putI, cutI]
  | x :: t, n => by
    by_cases hx : x < n
    · have hc : cutI (x :: t) n = cutI t n + 1 := by simp [cutI, hx]
      rw [hc, putI, if_pos hx, putI_cut t n]
      by_cases h : cutI t n < t.length ∧ t[cutI t n]?.getD 0 = n
      · rw [if_pos h, if_pos ⟨by simp; omega, by simpa using h.2⟩]
      · rw [if_neg h, if_neg (fun e => h ⟨by simpa using e.1, by simpa using e.2⟩)]; simp
    · have hc : cutI (x :: t) n = 0 := by simp [cutI, hx]
      rw [hc, putI, if_neg hx]
      by_cases h : x = n <;> simp [h]
theorem putI_len (l : List Int) (n : Int) : (putI l n).length ≤ l.length + 1 := by
  have := cutI_le l n
  rw [putI_cut]; split
  · omega
  · simp; omega
theorem putI_mem : ∀ {l : List Int} {n w : Int}, w ∈ putI l n ↔ w = n ∨ w ∈ l
  | [], n, w => by simp [putI]
  | x :: t, n, w => by
    simp only [putI]
    split
    · rw [List.mem_cons, putI_mem (l := t), List.mem_cons]; grind
    · split
      · rename_i h; subst h; simp
      · simp
theorem putI_asc : ∀ {l : List Int} {n : Int}, l.Pairwise (· < ·) → (putI l n).Pairwise (· < ·)
  | [], n, _ => by simp [putI]
  | x :: t, n, h => by
    have h1 := List.pairwise_cons.1 h
    simp only [putI]
    split
    · rename_i hx
      refine List.pairwise_cons.2 ⟨fun y hy => ?_, putI_asc h1.2⟩
      rcases putI_mem.1 hy with e | e
      · subst e; exact hx
      · exact h1.1 y e
    · split
      · exact h
      · refine List.pairwise_cons.2 ⟨fun y hy => ?_, h⟩
        rcases List.mem_cons.1 hy with e | e
        · subst e; omega
        · have := h1.1 y e; omega
theorem mem_at {l : List Int} {p : Nat} {n : Int} (h : p < l.length) : n ∈ l.drop p ↔ (n = l[p]?.getD 0 ∨ n ∈ l.drop (p + 1)) := by
  rw [drop_at (d := 0) h, List.mem_cons]
theorem mem_end {l : List Int} {p : Nat} {n : Int} (h : l.length ≤ p) : ¬ n ∈ l.drop p := by
  rw [List.drop_eq_nil_of_le h]; simp
/-- loop.example/g03007/spec.l8Has -/
noncomputable def c40 : Con := mkCon 40 false (α := (List Int) × Int) (fun x => (fun (l : List Int) (n : Int) => [encLI l, dI n]) x.1 x.2) (fun _ => []) (fun x => (fun (l : List Int) (n : Int) => l.length ≤ 1099511627776) x.1 x.2) (fun x => (fun (l : List Int) (n : Int) => (dB (decide (n ∈ l)) : D)) x.1 x.2) (fun x => (fun (l : List Int) (n : Int) => []) x.1 x.2)
@[simp] theorem c40_f : c40.f = 40 := rfl
@[simp] theorem c40_own : c40.own = false := rfl
theorem c40_inj : ∀ u_ v_ : (List Int) × Int, ((fun x => (fun (l : List Int) (n : Int) => [encLI l, dI n]) x.1 x.2) u_).map nz = ((fun x => (fun (l : List Int) (n : Int) => [encLI l, dI n]) x.1 x.2) v_).map nz → u_ = v_ := by
  intro u_ v_ h
  obtain ⟨l, n⟩ := u_
  obtain ⟨l', n'⟩ := v_
  simp [nz_lit, nz1_lit, nz_agg, nz_sl, nz1_sl, encLI] at h
  first | (simp [h]; done) | (obtain ⟨⟩ := h; simp_all; done) | simp_all
@[simp] theorem c40_fn (l : List Int) (n : Int) : c40.fn [.sl false 1 (.lit (.int .i64 0)) (ML dI l), .lit (.int .i64 n)] [] = some ((fun (l : List Int) (n : Int) => l.length ≤ 1099511627776) l n, (fun (l : List Int) (n : Int) => (dB (decide (n ∈ l)) : D)) l n, (fun (l : List Int) (n : Int) => []) l n) :=
  mkCon_fn (fun x y h _ => c40_inj x y h) ((l, n) : (List Int) × Int) (by simp [nz, nz1, ML_nil, encLI]) rfl
@[simp] theorem c40_fn1 (s_l : Nat) (z_l : D) (n : Int) : c40.fn [.sl false s_l z_l [], .lit (.int .i64 n)] [] = some ((fun (l : List Int) (n : Int) => l.length ≤ 1099511627776) [] n, (fun (l : List Int) (n : Int) => (dB (decide (n ∈ l)) : D)) [] n, (fun (l : List Int) (n : Int) => []) [] n) :=
  mkCon_fn (fun x y h _ => c40_inj x y h) (([], n) : (List Int) × Int) (by simp [nz, nz1, ML_nil, encLI]) rfl
theorem c40_pc (l : List Int) (n : Int) (hpre : l.length ≤ 1099511627776) : PCo Try.prog 40 [encLI l, dI n] (Tab.of []) (dB (decide (n ∈ l))) (Tab.of []) := by
  refine pco_of_run [] (E := ⟨[], [], []⟩) (m := false) (base := 0) Env.ok_nil G_ok mix 300 6 Try.func40 (by kernel_rfl) rfl (by kernel_rfl) (by kernel_rfl) rfl ?_
  simp [Try.f40]
  refine loop_inv (fun p : Nat => p ≤ l.length ∧ (n ∈ l ↔ n ∈ l.drop p)) (fun p => [(0, encLI l), (1, dI n), (4, dB false), (5, dI p)]) (fun _ => []) 1 (fun p => l.length - p) 0 400 (by simp) (by simp) (by simp) ?_
  intro p ⟨hp, hi⟩
  simp
  refine ⟨fun hlt => ?_, fun hge => ?_⟩
  · rw [mem_at hlt] at hi
    repeat' (first | omega | refine And.intro ?_ ?_ | intro _)
    all_goals first | exact Again.mk (p + 1) ⟨by omega, by rw [hi]; grind⟩ (by simp) (by first | omega | (simp; omega)) | grind
  · have := mem_end (n := n) hge; grind
theorem c40_ok : c40.ok Try.prog := mkCon_ok fun ⟨l, n⟩ hpre => c40_pc l n hpre
theorem foldP : ∀ (l ks : List Int), ks.Pairwise (· < ·) → (l.foldl putI ks).Pairwise (· < ·) ∧ (∀ w, w ∈ l.foldl putI ks ↔ w ∈ ks ∨ w ∈ l) ∧ (l.foldl putI ks).length ≤ ks.length + l.length
  | [], ks, h => ⟨h, by simp, by simp⟩
  | x :: l, ks, h => by
    have := foldP l (putI ks x) (putI_asc h)
    have hl := putI_len ks x
    refine ⟨this.1, fun w => ?_, ?_⟩
    · rw [List.foldl_cons, this.2.1 w, putI_mem, List.mem_cons]; grind
    · simp only [List.foldl_cons, List.length_cons]; omega

end Go.Proofs.Ytelhilcdlfjafaa
