/- Contracts of the functions that the laws run. -/
import Derived.Test.YtpnfkjbnhholfaaDoorEngB
import Derived.Test.YtpnfkjbnhholfaaDoorEngB
import Derived.Test.YtpnfkjbnhholfaaDoordr17
import Derived.Test.YtpnfkjbnhholfaaDoordr13
import Derived.Test.YtpnfkjbnhholfaaDoorEngB
namespace Go.Proofs.YtpnfkjbnhholfaaDoor
open Go Go.Eng
set_option linter.unusedSimpArgs false
set_option linter.unusedVariables false
set_option maxRecDepth 10000
set_option maxHeartbeats 1000000
/-- loop.example/g03007/spec.DrawFateOf -/
theorem c17_ex (l : List Int) (hp : l.length ≤ 2097152) : ∃ x_ : TFind × List TClaim × Int, (fun x : TFind × List TClaim × Int => x.2.1.length ≤ 7 ∧ -1 ≤ x.2.2 ∧ x.2.2 ≤ 200001) x_ ∧ PCo Tryd.prog 17 [encLU l] (Tab.of []) ((fun x : TFind × List TClaim × Int => (.tup [encTFind x.1, .sl false 5 yTClaim (ML encTClaim x.2.1), dI x.2.2] : D)) x_) (Tab.of ((fun x : TFind × List TClaim × Int => ([] : List (Nm × OO))) x_)) := by
  refine pco_ex_of_run (fun x : TFind × List TClaim × Int => x.2.1.length ≤ 7 ∧ -1 ≤ x.2.2 ∧ x.2.2 ≤ 200001) (fun x : TFind × List TClaim × Int => (.tup [encTFind x.1, .sl false 5 yTClaim (ML encTClaim x.2.1), dI x.2.2] : D)) (fun x : TFind × List TClaim × Int => ([] : List (Nm × OO))) [1008, 9000027, 11000009] (E := ⟨[c25, c26, c27, c36, c37, c38], [], []⟩) (m := false) (base := 1000000) (Env.ok_cons c25_ok (Env.ok_cons c26_ok (Env.ok_cons c27_ok (Env.ok_cons c36_ok (Env.ok_cons c37_ok (Env.ok_cons c38_ok Env.ok_nil)))))) G_ok mix 300 6 Tryd.func17 (by kernel_rfl) rfl (by kernel_rfl) (by kernel_rfl) (by kernel_rfl) rfl ?_
  simp [Tryd.f17, hp]
  have hk := v25_ok l hp
  have hl := v36_ok (n26 (v25 l)) (by simp) trivial
  have hn : ∀ c, okCu c → -1 ≤ v27 c ∧ v27 c ≤ 200001 := fun c h => v27_ok c h trivial
  have hnil : ∀ a : List TClaim, ML encTClaim a = [] ↔ a = [] := fun a => by simp [ML]
  simp only at hl
  simp [hk, hnil]
  repeat' (with_reducible first | apply and_rev | apply Exists.intro (⟨⟨?_, ?_, ?_, ?_, ?_⟩, ?_, ?_, ?_⟩ : TFind) | apply Exists.intro | intro _)
  all_goals try dsimp only
  all_goals try with_reducible rfl
  all_goals try rfl
  all_goals (first | done | omega | assumption | exact List.length_pos_iff.2 (by assumption) | (simp [*]; done) | (simp [*]; omega) | (simp [*, below_eq]; done) | (simp [*, below_eq]; omega) | (simp only [below_eq, Int.reduceLT]; omega) | trace_state)
open Classical in
noncomputable def q17 (l : List Int) : TFind × List TClaim × Int := if h : l.length ≤ 2097152 then Classical.choose (c17_ex l h) else default
theorem q17_sp (l : List Int) (hp : l.length ≤ 2097152) : (fun x : TFind × List TClaim × Int => x.2.1.length ≤ 7 ∧ -1 ≤ x.2.2 ∧ x.2.2 ≤ 200001) (q17 l) ∧ PCo Tryd.prog 17 [encLU l] (Tab.of []) ((fun x : TFind × List TClaim × Int => (.tup [encTFind x.1, .sl false 5 yTClaim (ML encTClaim x.2.1), dI x.2.2] : D)) (q17 l)) (Tab.of ((fun x : TFind × List TClaim × Int => ([] : List (Nm × OO))) (q17 l))) := by
  have e : q17 l = Classical.choose (c17_ex l hp) := by rw [q17, dif_pos hp]
  rw [e]
  exact Classical.choose_spec (c17_ex l hp)
noncomputable def v17 (l : List Int) : TFind × List TClaim × Int := q17 l
theorem v17_ok (l : List Int) (hp : l.length ≤ 2097152) : (fun x : TFind × List TClaim × Int => x.2.1.length ≤ 7 ∧ -1 ≤ x.2.2 ∧ x.2.2 ≤ 200001) (v17 l) := (q17_sp l hp).1
noncomputable def c17 : Con := mkCon 17 false (α := (List Int)) (fun x => (fun (l : List Int) => ([encLU l] : List D)) x) (fun x => (fun (l : List Int) => ([] : List (Nm × OO))) x) (fun x => (fun (l : List Int) => l.length ≤ 2097152) x) (fun x => (fun (l : List Int) => (fun x : TFind × List TClaim × Int => (.tup [encTFind x.1, .sl false 5 yTClaim (ML encTClaim x.2.1), dI x.2.2] : D)) (v17 l)) x) (fun x => (fun (l : List Int) => (fun x : TFind × List TClaim × Int => ([] : List (Nm × OO))) (v17 l)) x)
@[simp] theorem c17_f : c17.f = 17 := rfl
@[simp] theorem c17_own : c17.own = false := rfl
theorem c17_inj : ∀ u_ v_ : (List Int), ((fun x => (fun (l : List Int) => ([encLU l] : List D)) x) u_).map nz = ((fun x => (fun (l : List Int) => ([encLU l] : List D)) x) v_).map nz → (fun x => (fun (l : List Int) => ([] : List (Nm × OO))) x) u_ = (fun x => (fun (l : List Int) => ([] : List (Nm × OO))) x) v_ → u_ = v_ := by
  intro u_ v_ h h2_
  obtain l := u_
  obtain l' := v_
  simp [nz_lit, nz1_lit, nz_agg, nz_sl, nz1_sl, nz_sx, nz_el, nz1_el, nz_own, nz1_own, nz_ptr, nz_fn, nz_iface] at h h2_
  first | (simp [h, h2_]; done) | (obtain ⟨h3_, h4_⟩ := List.append_inj h2_ h.1; simp_all; done) | simp_all | grind
@[simp] theorem c17_fn (l : List Int) : c17.fn ([(.sl false 1 (.lit (.int .u8 0)) (ML dU l))]) ([]) = some (l.length ≤ 2097152, (fun x : TFind × List TClaim × Int => (.tup [encTFind x.1, .sl false 5 yTClaim (ML encTClaim x.2.1), dI x.2.2] : D)) (v17 l), (fun x : TFind × List TClaim × Int => ([] : List (Nm × OO))) (v17 l)) :=
  mkCon_fn c17_inj (l : (List Int)) rfl rfl
theorem c17_ok : c17.ok Tryd.prog := mkCon_ok fun l hpre => (q17_sp l hpre).2
/-- loop.example/g03007/spec.DrawFatesOf -/
theorem c22_ex (l : List Int) (hp : l.length ≤ 2097152) : ∃ x_ : List TFind × List TClaim × Int, (fun x : List TFind × List TClaim × Int => x.1.length ≤ 7 ∧ x.2.1.length ≤ 7 ∧ -1 ≤ x.2.2 ∧ x.2.2 ≤ 200001) x_ ∧ PCo Tryd.prog 22 [encLU l] (Tab.of []) ((fun x : List TFind × List TClaim × Int => (.tup [.sl false 8 yTFind (ML encTFind x.1), .sl false 5 yTClaim (ML encTClaim x.2.1), dI x.2.2] : D)) x_) (Tab.of ((fun x : List TFind × List TClaim × Int => ([] : List (Nm × OO))) x_)) := by
  refine pco_ex_of_run (fun x : List TFind × List TClaim × Int => x.1.length ≤ 7 ∧ x.2.1.length ≤ 7 ∧ -1 ≤ x.2.2 ∧ x.2.2 ≤ 200001) (fun x : List TFind × List TClaim × Int => (.tup [.sl false 8 yTFind (ML encTFind x.1), .sl false 5 yTClaim (ML encTClaim x.2.1), dI x.2.2] : D)) (fun x : List TFind × List TClaim × Int => ([] : List (Nm × OO))) [] (E := ⟨[c25, c27, c36, c41], [], []⟩) (m := false) (base := 0) (Env.ok_cons c25_ok (Env.ok_cons c27_ok (Env.ok_cons c36_ok (Env.ok_cons c41_ok Env.ok_nil)))) G_ok mix 300 6 Tryd.func22 (by kernel_rfl) rfl (by kernel_rfl) (by kernel_rfl) (by kernel_rfl) rfl ?_
  simp [Tryd.f22, hp]
  have hk := v25_ok l hp
  have hl := v41_ok (v25 l) hk trivial
  have hl2 := v36_ok (n41 (v25 l)) (by simp) trivial
  have hn := v27_ok (n36 (n41 (v25 l))) (by simp) trivial
  try simp [hk]
  repeat' (with_reducible first | apply and_rev | apply Exists.intro | intro _)
  all_goals try dsimp only
  all_goals try with_reducible rfl
  all_goals try rfl
  all_goals (first | done | omega | assumption | exact List.length_pos_iff.2 (by assumption) | (simp [*]; done) | (simp [*]; omega) | (simp [*, below_eq]; done) | (simp [*, below_eq]; omega) | (simp only [below_eq, Int.reduceLT]; omega) | trace_state)
open Classical in
noncomputable def q22 (l : List Int) : List TFind × List TClaim × Int := if h : l.length ≤ 2097152 then Classical.choose (c22_ex l h) else default
theorem q22_sp (l : List Int) (hp : l.length ≤ 2097152) : (fun x : List TFind × List TClaim × Int => x.1.length ≤ 7 ∧ x.2.1.length ≤ 7 ∧ -1 ≤ x.2.2 ∧ x.2.2 ≤ 200001) (q22 l) ∧ PCo Tryd.prog 22 [encLU l] (Tab.of []) ((fun x : List TFind × List TClaim × Int => (.tup [.sl false 8 yTFind (ML encTFind x.1), .sl false 5 yTClaim (ML encTClaim x.2.1), dI x.2.2] : D)) (q22 l)) (Tab.of ((fun x : List TFind × List TClaim × Int => ([] : List (Nm × OO))) (q22 l))) := by
  have e : q22 l = Classical.choose (c22_ex l hp) := by rw [q22, dif_pos hp]
  rw [e]
  exact Classical.choose_spec (c22_ex l hp)
noncomputable def v22 (l : List Int) : List TFind × List TClaim × Int := q22 l
theorem v22_ok (l : List Int) (hp : l.length ≤ 2097152) : (fun x : List TFind × List TClaim × Int => x.1.length ≤ 7 ∧ x.2.1.length ≤ 7 ∧ -1 ≤ x.2.2 ∧ x.2.2 ≤ 200001) (v22 l) := (q22_sp l hp).1
noncomputable def c22 : Con := mkCon 22 false (α := (List Int)) (fun x => (fun (l : List Int) => ([encLU l] : List D)) x) (fun x => (fun (l : List Int) => ([] : List (Nm × OO))) x) (fun x => (fun (l : List Int) => l.length ≤ 2097152) x) (fun x => (fun (l : List Int) => (fun x : List TFind × List TClaim × Int => (.tup [.sl false 8 yTFind (ML encTFind x.1), .sl false 5 yTClaim (ML encTClaim x.2.1), dI x.2.2] : D)) (v22 l)) x) (fun x => (fun (l : List Int) => (fun x : List TFind × List TClaim × Int => ([] : List (Nm × OO))) (v22 l)) x)
@[simp] theorem c22_f : c22.f = 22 := rfl
@[simp] theorem c22_own : c22.own = false := rfl
theorem c22_inj : ∀ u_ v_ : (List Int), ((fun x => (fun (l : List Int) => ([encLU l] : List D)) x) u_).map nz = ((fun x => (fun (l : List Int) => ([encLU l] : List D)) x) v_).map nz → (fun x => (fun (l : List Int) => ([] : List (Nm × OO))) x) u_ = (fun x => (fun (l : List Int) => ([] : List (Nm × OO))) x) v_ → u_ = v_ := by
  intro u_ v_ h h2_
  obtain l := u_
  obtain l' := v_
  simp [nz_lit, nz1_lit, nz_agg, nz_sl, nz1_sl, nz_sx, nz_el, nz1_el, nz_own, nz1_own, nz_ptr, nz_fn, nz_iface] at h h2_
  first | (simp [h, h2_]; done) | (obtain ⟨h3_, h4_⟩ := List.append_inj h2_ h.1; simp_all; done) | simp_all | grind
@[simp] theorem c22_fn (l : List Int) : c22.fn ([(.sl false 1 (.lit (.int .u8 0)) (ML dU l))]) ([]) = some (l.length ≤ 2097152, (fun x : List TFind × List TClaim × Int => (.tup [.sl false 8 yTFind (ML encTFind x.1), .sl false 5 yTClaim (ML encTClaim x.2.1), dI x.2.2] : D)) (v22 l), (fun x : List TFind × List TClaim × Int => ([] : List (Nm × OO))) (v22 l)) :=
  mkCon_fn c22_inj (l : (List Int)) rfl rfl
theorem c22_ok : c22.ok Tryd.prog := mkCon_ok fun l hpre => (q22_sp l hpre).2

end Go.Proofs.YtpnfkjbnhholfaaDoor
