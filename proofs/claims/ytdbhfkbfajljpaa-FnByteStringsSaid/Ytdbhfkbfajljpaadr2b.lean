/- Contracts of the functions that the laws run. -/
import Derived.Test.YtdbhfkbfajljpaaEngB
import Derived.Test.YtdbhfkbfajljpaaEngB
import Derived.Test.Ytdbhfkbfajljpaadr2
import Derived.Test.YtdbhfkbfajljpaaEngB
namespace Go.Proofs.Ytdbhfkbfajljpaa
open Go Go.Eng
set_option linter.unusedSimpArgs false
set_option linter.unusedVariables false
set_option maxRecDepth 10000
set_option maxHeartbeats 1000000
/-- loop.example/g03007/spec.DrawAppendBytes -/
theorem c13_ex (l : List Int) (hp : l.length ≤ 2097152) : ∃ x_ : List Int × List Int, (fun x : List Int × List Int => x.1.length ≤ 2 ∧ okBy x.1 ∧ x.2.length ≤ 5 ∧ okBy x.2) x_ ∧ PCo Try.prog 13 [encLU l] (Tab.of []) ((fun x : List Int × List Int => (.tup [encLU x.1, encLU x.2] : D)) x_) (Tab.of ((fun x : List Int × List Int => ([] : List (Nm × OO))) x_)) := by
  refine pco_ex_of_run (fun x : List Int × List Int => x.1.length ≤ 2 ∧ okBy x.1 ∧ x.2.length ≤ 5 ∧ okBy x.2) (fun x : List Int × List Int => (.tup [encLU x.1, encLU x.2] : D)) (fun x : List Int × List Int => ([] : List (Nm × OO))) [] (E := ⟨[c30, c31, c32], [], []⟩) (m := false) (base := 0) (Env.ok_cons c30_ok (Env.ok_cons c31_ok (Env.ok_cons c32_ok Env.ok_nil))) G_ok mix 300 6 Try.func13 (by kernel_rfl) rfl (by kernel_rfl) (by kernel_rfl) (by kernel_rfl) rfl ?_
  simp [Try.f13, hp]
  have hk := v30_ok l hp
  have hb := below_bd (v30 l) 3 (by omega)
  have hl := v31_ok (n32 (v30 l) 3) (v32 (v30 l) 3) (by simp) (by omega)
  obtain ⟨hl1, hl2⟩ := hl
  have hl3 : (v31 (n32 (v30 l) 3) (v32 (v30 l) 3)).length ≤ 2 := by omega
  have hb6 := below_bd (n31 (n32 (v30 l) 3) (v32 (v30 l) 3)) 6 (by omega)
  have hm := v31_ok (n32 (n31 (n32 (v30 l) 3) (v32 (v30 l) 3)) 6) (v32 (n31 (n32 (v30 l) 3) (v32 (v30 l) 3)) 6) (by simp) (by omega)
  obtain ⟨hm1, hm2⟩ := hm
  have hm3 : (v31 (n32 (n31 (n32 (v30 l) 3) (v32 (v30 l) 3)) 6) (v32 (n31 (n32 (v30 l) 3) (v32 (v30 l) 3)) 6)).length ≤ 5 := by omega
  simp [hk]
  repeat' (with_reducible first | apply And.intro | intro _)
  all_goals try (first | omega | assumption | (simp; done) | (simp only [below_eq, Int.reduceLT]; omega))
  all_goals first | exact hl3 | exact hl2 | exact hm3 | exact hm2 | omega | trace_state
open Classical in
noncomputable def q13 (l : List Int) : List Int × List Int := if h : l.length ≤ 2097152 then Classical.choose (c13_ex l h) else default
theorem q13_sp (l : List Int) (hp : l.length ≤ 2097152) : (fun x : List Int × List Int => x.1.length ≤ 2 ∧ okBy x.1 ∧ x.2.length ≤ 5 ∧ okBy x.2) (q13 l) ∧ PCo Try.prog 13 [encLU l] (Tab.of []) ((fun x : List Int × List Int => (.tup [encLU x.1, encLU x.2] : D)) (q13 l)) (Tab.of ((fun x : List Int × List Int => ([] : List (Nm × OO))) (q13 l))) := by
  have e : q13 l = Classical.choose (c13_ex l hp) := by rw [q13, dif_pos hp]
  rw [e]
  exact Classical.choose_spec (c13_ex l hp)
noncomputable def v13 (l : List Int) : List Int × List Int := q13 l
theorem v13_ok (l : List Int) (hp : l.length ≤ 2097152) : (fun x : List Int × List Int => x.1.length ≤ 2 ∧ okBy x.1 ∧ x.2.length ≤ 5 ∧ okBy x.2) (v13 l) := (q13_sp l hp).1
noncomputable def c13 : Con := mkCon 13 false (α := (List Int)) (fun x => (fun (l : List Int) => ([encLU l] : List D)) x) (fun x => (fun (l : List Int) => ([] : List (Nm × OO))) x) (fun x => (fun (l : List Int) => l.length ≤ 2097152) x) (fun x => (fun (l : List Int) => (fun x : List Int × List Int => (.tup [encLU x.1, encLU x.2] : D)) (v13 l)) x) (fun x => (fun (l : List Int) => (fun x : List Int × List Int => ([] : List (Nm × OO))) (v13 l)) x)
@[simp] theorem c13_f : c13.f = 13 := rfl
@[simp] theorem c13_own : c13.own = false := rfl
theorem c13_inj : ∀ u_ v_ : (List Int), ((fun x => (fun (l : List Int) => ([encLU l] : List D)) x) u_).map nz = ((fun x => (fun (l : List Int) => ([encLU l] : List D)) x) v_).map nz → (fun x => (fun (l : List Int) => ([] : List (Nm × OO))) x) u_ = (fun x => (fun (l : List Int) => ([] : List (Nm × OO))) x) v_ → u_ = v_ := by
  intro u_ v_ h h2_
  obtain l := u_
  obtain l' := v_
  simp [nz_lit, nz1_lit, nz_agg, nz_sl, nz1_sl, nz_sx, nz_el, nz1_el, nz_own, nz1_own, nz_ptr, nz_fn, nz_iface] at h h2_
  first | (simp [h, h2_]; done) | (obtain ⟨h3_, h4_⟩ := List.append_inj h2_ h.1; simp_all; done) | simp_all | grind
@[simp] theorem c13_fn (l : List Int) : c13.fn ([(.sl false 1 (.lit (.int .u8 0)) (ML dU l))]) ([]) = some (l.length ≤ 2097152, (fun x : List Int × List Int => (.tup [encLU x.1, encLU x.2] : D)) (v13 l), (fun x : List Int × List Int => ([] : List (Nm × OO))) (v13 l)) :=
  mkCon_fn c13_inj (l : (List Int)) rfl rfl
theorem c13_ok : c13.ok Try.prog := mkCon_ok fun l hpre => (q13_sp l hpre).2

end Go.Proofs.Ytdbhfkbfajljpaa
