/- Contracts of the functions that the laws run. -/
import Derived.Test.Ytadbjlnfdjbbjaach06t
import Derived.Test.YtadbjlnfdjbbjaahelpA
import Derived.Test.YtadbjlnfdjbbjaaEngB
namespace Go.Proofs.Ytadbjlnfdjbbjaa
open Go Go.Eng
set_option linter.unusedSimpArgs false
set_option linter.unusedVariables false
set_option maxRecDepth 10000
set_option maxHeartbeats 1000000
abbrev mk_TFind : Int → TFind := fun n => ⟨⟨n, n + 1, n + 2, n + 3, n + 4⟩, n + 5, n + 6, n + 7⟩
/-- loop.example/g03007/laws.markFindS -/
noncomputable def c85 : Con := mkCon 85 true (α := (List TFind) × (List TFind) × Int) (fun x => (fun (l : List TFind) (t : List TFind) (k : Int) => ([.own (0, 0) 8 0 l.length, dI k] : List D)) x.1 x.2.1 x.2.2) (fun x => (fun (l : List TFind) (t : List TFind) (k : Int) => ([((0, 0), .arr false 8 yTFind (ML encTFind (l ++ t)))] : List (Nm × OO))) x.1 x.2.1 x.2.2) (fun x => (fun (l : List TFind) (t : List TFind) (k : Int) => l.length ≤ 1099511627776 ∧ 0 ≤ k ∧ k ≤ 1152921504606846976) x.1 x.2.1 x.2.2) (fun x => (fun (l : List TFind) (t : List TFind) (k : Int) => (dI (k + 8 * l.length) : D)) x.1 x.2.1 x.2.2) (fun x => (fun (l : List TFind) (t : List TFind) (k : Int) => ([((0, 0), .arr false 8 yTFind (ML encTFind (mkL mk_TFind 8 k l.length ++ t)))] : List (Nm × OO))) x.1 x.2.1 x.2.2)
@[simp] theorem c85_f : c85.f = 85 := rfl
@[simp] theorem c85_own : c85.own = true := rfl
theorem c85_inj : ∀ u_ v_ : (List TFind) × (List TFind) × Int, ((fun x => (fun (l : List TFind) (t : List TFind) (k : Int) => ([.own (0, 0) 8 0 l.length, dI k] : List D)) x.1 x.2.1 x.2.2) u_).map nz = ((fun x => (fun (l : List TFind) (t : List TFind) (k : Int) => ([.own (0, 0) 8 0 l.length, dI k] : List D)) x.1 x.2.1 x.2.2) v_).map nz → (fun x => (fun (l : List TFind) (t : List TFind) (k : Int) => ([((0, 0), .arr false 8 yTFind (ML encTFind (l ++ t)))] : List (Nm × OO))) x.1 x.2.1 x.2.2) u_ = (fun x => (fun (l : List TFind) (t : List TFind) (k : Int) => ([((0, 0), .arr false 8 yTFind (ML encTFind (l ++ t)))] : List (Nm × OO))) x.1 x.2.1 x.2.2) v_ → u_ = v_ := by
  intro u_ v_ h h2_
  obtain ⟨l, t, k⟩ := u_
  obtain ⟨l', t', k'⟩ := v_
  simp [nz_lit, nz1_lit, nz_agg, nz_sl, nz1_sl, nz_sx, nz_el, nz1_el, nz_own, nz1_own, nz_ptr, nz_fn, nz_iface] at h h2_
  first | (simp [h, h2_]; done) | (obtain ⟨h3_, h4_⟩ := List.append_inj h2_ h.1; simp_all; done) | simp_all | grind
@[simp] theorem c85_fn (l : List TFind) (t : List TFind) (k : Int) : c85.fn ([.own (0, 0) 8 0 l.length, dI k]) ([((0, 0), .arr false 8 yTFind (ML encTFind (l ++ t)))]) = some (l.length ≤ 1099511627776 ∧ 0 ≤ k ∧ k ≤ 1152921504606846976, dI (k + 8 * l.length), [((0, 0), .arr false 8 yTFind (ML encTFind (mkL mk_TFind 8 k l.length ++ t)))]) :=
  mkCon_fn c85_inj ((l, t, k) : (List TFind) × (List TFind) × Int) rfl rfl
theorem c85_pc (l : List TFind) (t : List TFind) (k : Int) (hpre : l.length ≤ 1099511627776 ∧ 0 ≤ k ∧ k ≤ 1152921504606846976) : PCo Try.prog 85 ([.own (0, 0) 8 0 l.length, dI k]) (Tab.of ([((0, 0), .arr false 8 yTFind (ML encTFind (l ++ t)))])) (dI (k + 8 * l.length)) (Tab.of ([((0, 0), .arr false 8 yTFind (ML encTFind (mkL mk_TFind 8 k l.length ++ t)))])) := by
  refine pco_of_run [] (E := ⟨[], []⟩) (m := false) (base := 0) Env.ok_nil G_ok mix 300 6 Try.func85 (by kernel_rfl) rfl (by kernel_rfl) (by kernel_rfl) rfl ?_
  simp [Try.f85]
  obtain ⟨pre1, pre2, pre3⟩ := hpre
  refine loop_inv (fun p : Nat => p ≤ l.length) (fun p => [(0, .own (0, 0) 8 0 l.length), (1, dI (k + 8 * p)), (5, dI p)]) (fun p => [((0, 0), .arr false 8 yTFind (ML encTFind (mkL mk_TFind 8 k p ++ (l ++ t).drop p)))]) 2 (fun p => l.length - p) 0 100 (by simp) (by simp) (by simp) ?_
  intro p hp
  simp
  have hs : ∀ x, x = mk_TFind (k + 8 * (p : Int)) → p < (l ++ t).length → mkL mk_TFind 8 k p ++ ((l ++ t).drop p).set 0 x = mkL mk_TFind 8 k (p + 1) ++ (l ++ t).drop (p + 1) := fun x hx hlt => mark_step0 hlt hx
  refine ⟨fun hlt => ?_, fun hge => ?_⟩
  · have hlt2 : p < (l ++ t).length := by simp; omega
    repeat' (first | omega | refine And.intro ?_ ?_ | intro _)
    all_goals refine Again.mk (p + 1) (by omega) ?_ (by first | omega | (simp; omega))
    all_goals (rw [hs _ (by simp [mark_get0 hlt2, mark_get hlt2]; first | done | omega) hlt2]; simp; omega)
  have : p = l.length := by omega
  subst this
  simp
  trace_state
theorem c85_ok : c85.ok Try.prog := mkCon_ok fun ⟨l, t, k⟩ hpre => c85_pc l t k hpre
/-- loop.example/g03007/laws.heldFindS -/
noncomputable def c88 : Con := mkCon 88 false (α := (List TFind) × Int) (fun x => (fun (l : List TFind) (k : Int) => [encLTFind l, dI k]) x.1 x.2) (fun _ => []) (fun x => (fun (l : List TFind) (k : Int) => l.length ≤ 1099511627776 ∧ 0 ≤ k ∧ k ≤ 1152921504606846976) x.1 x.2) (fun x => (fun (l : List TFind) (k : Int) => (dI (if l = mkL mk_TFind 8 k l.length then k + 8 * l.length else -1) : D)) x.1 x.2) (fun x => (fun (l : List TFind) (k : Int) => []) x.1 x.2)
@[simp] theorem c88_f : c88.f = 88 := rfl
@[simp] theorem c88_own : c88.own = false := rfl
theorem c88_inj : ∀ u_ v_ : (List TFind) × Int, ((fun x => (fun (l : List TFind) (k : Int) => [encLTFind l, dI k]) x.1 x.2) u_).map nz = ((fun x => (fun (l : List TFind) (k : Int) => [encLTFind l, dI k]) x.1 x.2) v_).map nz → u_ = v_ := by
  intro u_ v_ h
  obtain ⟨l, k⟩ := u_
  obtain ⟨l', k'⟩ := v_
  simp [nz_lit, nz1_lit, nz_agg, nz_sl, nz1_sl, encLTFind] at h
  first | (simp [h]; done) | (obtain ⟨⟩ := h; simp_all; done) | simp_all
@[simp] theorem c88_fn (l : List TFind) (k : Int) : c88.fn [.sl false 8 yTFind (ML encTFind l), .lit (.int .i64 k)] [] = some ((fun (l : List TFind) (k : Int) => l.length ≤ 1099511627776 ∧ 0 ≤ k ∧ k ≤ 1152921504606846976) l k, (fun (l : List TFind) (k : Int) => (dI (if l = mkL mk_TFind 8 k l.length then k + 8 * l.length else -1) : D)) l k, (fun (l : List TFind) (k : Int) => []) l k) :=
  mkCon_fn (fun x y h _ => c88_inj x y h) ((l, k) : (List TFind) × Int) (by simp [nz, nz1, ML_nil, encLTFind]) rfl
@[simp] theorem c88_fn1 (s_l : Nat) (z_l : D) (k : Int) : c88.fn [.sl false s_l z_l [], .lit (.int .i64 k)] [] = some ((fun (l : List TFind) (k : Int) => l.length ≤ 1099511627776 ∧ 0 ≤ k ∧ k ≤ 1152921504606846976) [] k, (fun (l : List TFind) (k : Int) => (dI (if l = mkL mk_TFind 8 k l.length then k + 8 * l.length else -1) : D)) [] k, (fun (l : List TFind) (k : Int) => []) [] k) :=
  mkCon_fn (fun x y h _ => c88_inj x y h) (([], k) : (List TFind) × Int) (by simp [nz, nz1, ML_nil, encLTFind]) rfl
theorem c88_pc (l : List TFind) (k : Int) (hpre : l.length ≤ 1099511627776 ∧ 0 ≤ k ∧ k ≤ 1152921504606846976) : PCo Try.prog 88 [encLTFind l, dI k] (Tab.of []) (dI (if l = mkL mk_TFind 8 k l.length then k + 8 * l.length else -1)) (Tab.of []) := by
  refine pco_of_run [] (E := ⟨[], []⟩) (m := false) (base := 0) Env.ok_nil G_ok mix 300 6 Try.func88 (by kernel_rfl) rfl (by kernel_rfl) (by kernel_rfl) rfl ?_
  simp [Try.f88]
  obtain ⟨pre1, pre2, pre3⟩ := hpre
  refine loop_inv (fun p : Nat => p ≤ l.length ∧ l.take p = (mkL mk_TFind 8 k l.length).take p) (fun p => [(0, encLTFind l), (1, dI (k + 8 * p)), (5, dI p)]) (fun _ => []) 1 (fun p => l.length - p) 0 100 (by simp) (by simp) (by simp) ?_
  intro p ⟨hp, hi⟩
  simp
  refine ⟨fun hlt => ?_, fun hge => ?_⟩
  · have hx := mkL_get (f := mk_TFind) (m := 8) (k := k) (d := default) hlt
    by_cases he : l[p]?.getD default = mk_TFind (k + 8 * (p : Int))
    · generalize hA : Again _ _ _ _ _ _ _ = A
      have hAA : A := by rw [← hA]; exact Again.mk (p + 1) ⟨by omega, take_eq_step hi (by omega) (by simp; omega) (by rw [hx]; exact he)⟩ (by simp; omega) (by first | omega | (simp; omega))
      clear hA
      simp only [he, mk_TFind]
      repeat' (first | exact hAA | omega | refine And.intro ?_ ?_ | intro _)
      all_goals first | (exfalso; exact absurd trivial (by assumption)) | (exfalso; omega)
    · have hne : ¬ l = mkL mk_TFind 8 k l.length := fun e => he (by rw [← hx]; exact congrArg (fun z => z[p]?.getD default) e)
      generalize Again _ _ _ _ _ _ _ = A
      repeat' (first | omega | rfl | refine And.intro ?_ ?_ | intro _)
      all_goals first | (exfalso; apply hne; assumption) | (exfalso; apply he; obtain ⟨x, hq⟩ : ∃ x, l[p]?.getD default = x := ⟨_, rfl⟩; simp only [hq] at *; obtain ⟨⟨x1, x2, x3, x4, x5⟩, x6, x7, x8⟩ := x; simp [mk_TFind] at *; omega)
  · have h4 := take_eq_full hi hge (by simp; omega)
    rw [if_pos h4]; omega
theorem c88_ok : c88.ok Try.prog := mkCon_ok fun ⟨l, k⟩ hpre => c88_pc l k hpre
@[simp] theorem markF_nil (l : List TFind) (k : Int) : c85.fn [.own (0, 0) 8 0 l.length, dI k] [((0, 0), .arr false 8 yTFind (ML encTFind l))] = some (l.length ≤ 1099511627776 ∧ 0 ≤ k ∧ k ≤ 1152921504606846976, dI (k + 8 * l.length), [((0, 0), .arr false 8 yTFind (ML encTFind (mkL mk_TFind 8 k l.length)))]) := by
  have h := c85_fn (l := l) (t := []) (k := k)
  simpa using h

end Go.Proofs.Ytadbjlnfdjbbjaa
