/- Contracts of the functions that the laws run. -/
import Derived.Test.Ytelhilcdlfjafaach24r
import Derived.Test.Ytelhilcdlfjafaach07b
import Derived.Test.YtelhilcdlfjafaahelpA
import Derived.Test.YtelhilcdlfjafaaEngB
namespace Go.Proofs.Ytelhilcdlfjafaa
open Go Go.Eng
set_option linter.unusedSimpArgs false
set_option linter.unusedVariables false
set_option maxRecDepth 10000
set_option maxHeartbeats 1000000
theorem ascBy_pw {α : Type} {ok : α → Bool} {num : α → Int} : ∀ {l : List α} {o : Option Int}, ascBy ok num o l = true → (∀ q, o = some q → ∀ x ∈ l, q < num x) ∧ l.Pairwise (fun a b => num a < num b)
  | [], _, _ => ⟨by simp, .nil⟩
  | x :: r, o, h => by
    simp only [ascBy, Bool.and_eq_true] at h
    obtain ⟨i1, i2⟩ := ascBy_pw h.2
    have hx := i1 _ rfl
    refine ⟨fun q hq y hy => ?_, List.pairwise_cons.2 ⟨hx, i2⟩⟩
    subst hq
    have h1 := of_decide_eq_true h.1.2
    rcases List.mem_cons.1 hy with rfl | hy
    · exact h1
    · have := hx y hy; omega
theorem ids_lt {l : List TReport} (h : mAreReports l = true) {q p : Nat} (hq : q < p) (hp : p < l.length) : (l[q]?.getD default).Id < (l[p]?.getD default).Id := by
  simp only [mAreReports, Bool.and_eq_true] at h
  have h1 := (ascBy_pw h.2).2
  have h2 := List.pairwise_iff_getElem.1 h1 q p (by omega) hp hq
  rw [List.getElem?_eq_getElem (by omega), List.getElem?_eq_getElem hp]
  exact h2
def gI (l : List TReport) (G : List Int) (p : Nat) : Nat → Int
  | 0 => (l[p]?.getD default).Id
  | q + 1 => if gI l G p q = (l[p]?.getD default).Id ∧ G[q]?.getD 0 = (l[q]?.getD default).Id ∧ soK (l[q]?.getD default) (l[p]?.getD default) = true then (l[q]?.getD default).Id else gI l G p q
def gL (l : List TReport) : Nat → List Int
  | 0 => []
  | p + 1 => gL l p ++ [gI l (gL l p) p p]
theorem gL_len (l : List TReport) : ∀ p, (gL l p).length = p
  | 0 => rfl
  | p + 1 => by simp [gL, gL_len l p]
theorem gI_hit {l : List TReport} {G : List Int} {p q : Nat} (hid : (l[q]?.getD default).Id ≠ (l[p]?.getD default).Id) (h : gI l G p (q + 1) = (l[q]?.getD default).Id) : ∀ r, gI l G p (q + 1 + r) = (l[q]?.getD default).Id
  | 0 => h
  | r + 1 => by
    have ih := gI_hit hid h r
    rw [show q + 1 + (r + 1) = (q + 1 + r) + 1 from rfl, gI, if_neg (by rw [ih]; exact fun e => hid e.1), ih]
def mGroups (l : List TReport) : List Int := if mAreReports l then gL l l.length else []
/-- loop.example/g03007/impl.GroupReports -/
noncomputable def c13 : Con := mkCon 13 false (α := (List TReport)) (fun x => (fun (l : List TReport) => [encLTReport l]) x) (fun _ => []) (fun x => (fun (l : List TReport) => l.length ≤ 1073741823 ∧ ∀ x ∈ l, smRh x) x) (fun x => (fun (l : List TReport) => (.own (0, 1) 1 0 (mGroups l).length : D)) x) (fun x => (fun (l : List TReport) => [((0, 1), .arr false 1 (dI 0) (ML dI (mGroups l)))]) x)
@[simp] theorem c13_f : c13.f = 13 := rfl
@[simp] theorem c13_own : c13.own = false := rfl
theorem c13_inj : ∀ u_ v_ : (List TReport), ((fun x => (fun (l : List TReport) => [encLTReport l]) x) u_).map nz = ((fun x => (fun (l : List TReport) => [encLTReport l]) x) v_).map nz → u_ = v_ := by
  intro u_ v_ h
  obtain l := u_
  obtain l' := v_
  simp [nz_lit, nz1_lit, nz_agg, nz_sl, nz1_sl, encLTReport] at h
  first | (simp [h]; done) | (obtain ⟨⟩ := h; simp_all; done) | simp_all
@[simp] theorem c13_fn (l : List TReport) : c13.fn [.sl false 8 yTReport (ML encTReport l)] [] = some ((fun (l : List TReport) => l.length ≤ 1073741823 ∧ ∀ x ∈ l, smRh x) l, (fun (l : List TReport) => (.own (0, 1) 1 0 (mGroups l).length : D)) l, (fun (l : List TReport) => [((0, 1), .arr false 1 (dI 0) (ML dI (mGroups l)))]) l) :=
  mkCon_fn (fun x y h _ => c13_inj x y h) (l : (List TReport)) (by simp [nz, nz1, ML_nil, encLTReport]) rfl
@[simp] theorem c13_fn1 (s_l : Nat) (z_l : D) : c13.fn [.sl false s_l z_l []] [] = some ((fun (l : List TReport) => l.length ≤ 1073741823 ∧ ∀ x ∈ l, smRh x) [], (fun (l : List TReport) => (.own (0, 1) 1 0 (mGroups l).length : D)) [], (fun (l : List TReport) => [((0, 1), .arr false 1 (dI 0) (ML dI (mGroups l)))]) []) :=
  mkCon_fn (fun x y h _ => c13_inj x y h) ([] : (List TReport)) (by simp [nz, nz1, ML_nil, encLTReport]) rfl
theorem c13_pc (l : List TReport) (hpre : l.length ≤ 1073741823 ∧ ∀ x ∈ l, smRh x) : PCo Try.prog 13 [encLTReport l] (Tab.of []) (.own (0, 1) 1 0 (mGroups l).length) (Tab.of [((0, 1), .arr false 1 (dI 0) (ML dI (mGroups l)))]) := by
  refine pco_of_run [] (E := ⟨[c8, c28], [], []⟩) (m := false) (base := 0) (Env.ok_cons c8_ok (Env.ok_cons c28_ok Env.ok_nil)) G_ok mix 300 6 Try.func13 (by kernel_rfl) rfl (by kernel_rfl) (by kernel_rfl) rfl ?_
  simp [Try.f13]
  obtain ⟨hpl, hpr⟩ := hpre
  have hpr' : ∀ x ∈ l, x.Colours.length ≤ 1099511627776 ∧ x.Places.length ≤ 1099511627776 := fun x hx => by have := hpr x hx; simp at this; omega
  refine ⟨⟨by omega, hpr'⟩, fun h => by simp [mGroups, h], fun hA => ?_⟩
  refine loop_inv (fun p : Nat => p ≤ l.length) (fun p => [(0, encLTReport l), (3, .own (0, 1) 1 0 p), (14, encLTReport l), (15, dI l.length), (16, dI p)]) (fun p => [((0, 1), .arr false 1 (dI 0) (ML dI (gL l p)))]) 2 (fun p => l.length - p) 0 400 (by simp) (by simp) (by simp [gL]) ?_
  intro p hp
  have hgl := gL_len l p
  simp [hgl]
  refine ⟨fun hlt => ?_, fun hge => ?_⟩
  · refine ⟨by omega, by omega, ?_⟩
    refine loop_inv (fun q : Nat => q ≤ p ∧ gI l (gL l p) p q = (l[p]?.getD default).Id) (fun q => [(0, encLTReport l), (3, .own (0, 1) 1 0 p), (5, .ptr (1, 1) 0), (6, dI (l[p]?.getD default).Id), (14, encLTReport l), (15, dI l.length), (16, dI p), (25, encLTReport (l.take p)), (26, dI p), (27, dI q)]) (fun q => [((0, 1), .arr false 1 (dI 0) (ML dI (gL l p))), ((1, 1), .box (encTReport (l[p]?.getD default)))]) 2 (fun q => p - q) 0 400 (by simp) (by simp [gI]) (by simp; omega) ?_
    intro q ⟨hq, hgi⟩
    have e : q < p → (l.take p)[q]?.getD default = l[q]?.getD default := fun h => by simp [List.getElem?_take, h]
    have m1 := hpr _ (getD_mem (d := default) hlt)
    simp at m1
    simp [hgl]
    refine ⟨fun h1 => ?_, fun h1 => ?_⟩
    · have m2 := hpr _ (getD_mem (d := default) (show q < l.length by omega))
      simp at m2
      have hid := ids_lt hA h1 hlt
      simp only [e h1]
      have hit : (gL l p)[q]?.getD 0 = (l[q]?.getD default).Id → soK (l[q]?.getD default) (l[p]?.getD default) = true → gI l (gL l p) p p = (l[q]?.getD default).Id := fun a b => by
        have hg : gI l (gL l p) p (q + 1) = (l[q]?.getD default).Id := by rw [gI, if_pos ⟨hgi, a, b⟩]
        have hf := gI_hit (by omega) hg (p - (q + 1))
        rw [show q + 1 + (p - (q + 1)) = p by omega] at hf
        exact hf
      have mis : ((gL l p)[q]?.getD 0 = (l[q]?.getD default).Id → soK (l[q]?.getD default) (l[p]?.getD default) = false) → gI l (gL l p) p (q + 1) = (l[p]?.getD default).Id := fun a => by
        rw [gI, if_neg (fun h => by have := a h.2.1; rw [h.2.2] at this; cases this)]; exact hgi
      repeat' (first | omega | assumption | refine And.intro ?_ ?_ | intro _)
      all_goals first
        | (have hf := hit (by assumption) (by assumption); exact Again.mk (p + 1) (by omega) (by simp [gL, hf]) (by first | omega | (simp; omega)))
        | (have hf := mis (by assumption); exact Again.mk (q + 1) ⟨by omega, hf⟩ (by simp) (by first | omega | (simp; omega)))
        | (have hf := mis (fun h => absurd h (by assumption)); exact Again.mk (q + 1) ⟨by omega, hf⟩ (by simp) (by first | omega | (simp; omega)))
        | (have hf := mis (fun h => by assumption); exact Again.mk (q + 1) ⟨by omega, hf⟩ (by simp) (by first | omega | (simp; omega)))
        | trace_state
    · have hqp : q = p := by omega
      subst hqp
      repeat' (first | omega | assumption | refine And.intro ?_ ?_ | intro _)
      all_goals first | exact Again.mk (q + 1) (by omega) (by simp [gL, hgi]) (by first | omega | (simp; omega)) | trace_state
  · have : p = l.length := by omega
    subst this
    simp [mGroups, hA, gL_len]
theorem c13_ok : c13.ok Try.prog := mkCon_ok fun l hpre => c13_pc l hpre
/-- loop.example/g03007/spec.GroupReports -/
noncomputable def c11 : Con := mkCon 11 false (α := (List TReport)) (fun x => (fun (l : List TReport) => [encLTReport l]) x) (fun _ => []) (fun x => (fun (l : List TReport) => l.length ≤ 1073741823 ∧ ∀ x ∈ l, smRh x) x) (fun x => (fun (l : List TReport) => (.own (0, 1) 1 0 (mGroups l).length : D)) x) (fun x => (fun (l : List TReport) => [((0, 1), .arr false 1 (dI 0) (ML dI (mGroups l)))]) x)
@[simp] theorem c11_f : c11.f = 11 := rfl
@[simp] theorem c11_own : c11.own = false := rfl
theorem c11_inj : ∀ u_ v_ : (List TReport), ((fun x => (fun (l : List TReport) => [encLTReport l]) x) u_).map nz = ((fun x => (fun (l : List TReport) => [encLTReport l]) x) v_).map nz → u_ = v_ := by
  intro u_ v_ h
  obtain l := u_
  obtain l' := v_
  simp [nz_lit, nz1_lit, nz_agg, nz_sl, nz1_sl, encLTReport] at h
  first | (simp [h]; done) | (obtain ⟨⟩ := h; simp_all; done) | simp_all
@[simp] theorem c11_fn (l : List TReport) : c11.fn [.sl false 8 yTReport (ML encTReport l)] [] = some ((fun (l : List TReport) => l.length ≤ 1073741823 ∧ ∀ x ∈ l, smRh x) l, (fun (l : List TReport) => (.own (0, 1) 1 0 (mGroups l).length : D)) l, (fun (l : List TReport) => [((0, 1), .arr false 1 (dI 0) (ML dI (mGroups l)))]) l) :=
  mkCon_fn (fun x y h _ => c11_inj x y h) (l : (List TReport)) (by simp [nz, nz1, ML_nil, encLTReport]) rfl
@[simp] theorem c11_fn1 (s_l : Nat) (z_l : D) : c11.fn [.sl false s_l z_l []] [] = some ((fun (l : List TReport) => l.length ≤ 1073741823 ∧ ∀ x ∈ l, smRh x) [], (fun (l : List TReport) => (.own (0, 1) 1 0 (mGroups l).length : D)) [], (fun (l : List TReport) => [((0, 1), .arr false 1 (dI 0) (ML dI (mGroups l)))]) []) :=
  mkCon_fn (fun x y h _ => c11_inj x y h) ([] : (List TReport)) (by simp [nz, nz1, ML_nil, encLTReport]) rfl
theorem c11_pc (l : List TReport) (hpre : l.length ≤ 1073741823 ∧ ∀ x ∈ l, smRh x) : PCo Try.prog 11 [encLTReport l] (Tab.of []) (.own (0, 1) 1 0 (mGroups l).length) (Tab.of [((0, 1), .arr false 1 (dI 0) (ML dI (mGroups l)))]) := by
  refine pco_of_run [] (E := ⟨[c6, c27], [], []⟩) (m := false) (base := 0) (Env.ok_cons c6_ok (Env.ok_cons c27_ok Env.ok_nil)) G_ok mix 300 6 Try.func11 (by kernel_rfl) rfl (by kernel_rfl) (by kernel_rfl) rfl ?_
  simp [Try.f11]
  obtain ⟨hpl, hpr⟩ := hpre
  have hpr' : ∀ x ∈ l, x.Colours.length ≤ 1099511627776 ∧ x.Places.length ≤ 1099511627776 := fun x hx => by have := hpr x hx; simp at this; omega
  refine loop_inv (fun p : Nat => p ≤ l.length ∧ (0 < p → mAreReports l = true)) (fun p => [(0, encLTReport l), (3, .own (0, 1) 1 0 p), (4, dI p)]) (fun p => [((0, 1), .arr false 1 (dI 0) (ML dI (gL l p)))]) 2 (fun p => l.length - p) 0 400 (by simp) (by simp) (by simp [gL]) ?_
  intro p ⟨hp, hi⟩
  have hgl := gL_len l p
  cases hA : mAreReports l with
  | false =>
    have hp0 : p = 0 := by
      cases p with
      | zero => rfl
      | succ p => have := hi (by omega); rw [hA] at this; cases this
    subst hp0
    simp [hgl, hA]
    repeat' (first | omega | exact hpr' | refine And.intro ?_ ?_ | intro _)
    all_goals first | simp [mGroups, hA, gL] | trace_state
  | true =>
  simp [hgl, hA]
  refine ⟨fun _ => ⟨by omega, hpr'⟩, fun hlt => ⟨hlt, ?_⟩, fun hge => ?_⟩
  · refine loop_inv (fun q : Nat => q ≤ p) (fun q => [(0, encLTReport l), (3, .own (0, 1) 1 0 p), (4, dI p), (5, dI (gI l (gL l p) p q)), (6, dI q)]) (fun q => [((0, 1), .arr false 1 (dI 0) (ML dI (gL l p)))]) 2 (fun q => p - q) 0 400 (by simp) (by simp) (by simp [gI]) ?_
    intro q hq
    have m1 := hpr _ (getD_mem (d := default) hlt)
    simp at m1
    simp [hgl]
    refine ⟨fun h1 => ?_, fun h1 => ?_⟩
    · have m2 := hpr _ (getD_mem (d := default) (show q < l.length by omega))
      simp at m2
      have hit : (gL l p)[q]?.getD 0 = (l[q]?.getD default).Id → gI l (gL l p) p q = (l[p]?.getD default).Id → soK (l[q]?.getD default) (l[p]?.getD default) = true → gI l (gL l p) p (q + 1) = (l[q]?.getD default).Id := fun a b c => by rw [gI, if_pos ⟨b, a, c⟩]
      have mis : ¬ (gI l (gL l p) p q = (l[p]?.getD default).Id ∧ (gL l p)[q]?.getD 0 = (l[q]?.getD default).Id ∧ soK (l[q]?.getD default) (l[p]?.getD default) = true) → gI l (gL l p) p (q + 1) = gI l (gL l p) p q := fun a => by rw [gI, if_neg a]
      repeat' (first | omega | assumption | refine And.intro ?_ ?_ | intro _)
      all_goals first
        | (have hf := hit (by assumption) (by assumption) (by assumption); exact Again.mk (q + 1) (by omega) (by simp [hf]) (by first | omega | (simp; omega)))
        | (have hf := hit (by grind) (by grind) (by grind); exact Again.mk (q + 1) (by omega) (by simp [hf]) (by first | omega | (simp; omega)))
        | (have hf := mis (by grind); exact Again.mk (q + 1) (by omega) (by simp [hf]) (by first | omega | (simp; omega)))
        | trace_state
    · have hqp : q = p := by omega
      subst hqp
      repeat' (first | omega | assumption | refine And.intro ?_ ?_ | intro _)
      all_goals first | exact Again.mk (q + 1) (by omega) (by simp [gL]) (by first | omega | (simp; omega)) | exact Again.mk (q + 1) ⟨by omega, fun _ => hA⟩ (by simp [gL]) (by first | omega | (simp; omega)) | trace_state
  · have : p = l.length := by omega
    subst this
    simp [mGroups, hA, gL_len]
theorem c11_ok : c11.ok Try.prog := mkCon_ok fun l hpre => c11_pc l hpre

end Go.Proofs.Ytelhilcdlfjafaa
