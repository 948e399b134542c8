/- Contracts of the functions that the laws run. -/
import Derived.Test.YtdbhfkbfajljpaaEngB
import Derived.Test.YtdbhfkbfajljpaaEngB
import Derived.Test.Ytdbhfkbfajljpaadr0b
import Derived.Test.Ytdbhfkbfajljpaalw02m
import Derived.Test.YtdbhfkbfajljpaaEngB
namespace Go.Proofs.Ytdbhfkbfajljpaa
open Go Go.Eng
set_option linter.unusedSimpArgs false
set_option linter.unusedVariables false
set_option maxRecDepth 10000
set_option maxHeartbeats 1000000
theorem okBy_app {a b : List Int} (ha : okBy a) (hb : okBy b) : okBy (a ++ b) := by
  intro y hy
  rcases List.mem_append.1 hy with hy | hy
  · exact ha y hy
  · exact hb y hy
theorem okBy_uv : ∀ (f : Nat) (m : Int), okBy (uv f m)
  | 0, m => by intro y hy; simp [uv] at hy; rw [hy]; exact u8_bd _
  | f + 1, m => by
    rw [uv]; split
    · intro y hy
      rcases List.mem_cons.1 hy with rfl | hy
      · exact u8_bd _
      · exact okBy_uv f _ y hy
    · intro y hy; simp at hy; rw [hy]; exact u8_bd _
theorem okBy_put {l : List Int} (h : okBy l) (n : Int) : okBy (mPutU l n) := by
  rw [mPutU]; split
  · exact okBy_app h (okBy_uv _ _)
  · exact h
/-- loop.example/g03007/spec.DrawAppendUvarint -/
theorem c7_ex (l : List Int) (hp : l.length ≤ 2097152) : ∃ x_ : List Int × Int, (fun x : List Int × Int => x.1.length ≤ 2 ∧ okBy x.1) x_ ∧ PCo Try.prog 7 [encLU l] (Tab.of []) ((fun x : List Int × Int => (.tup [encLU x.1, dI x.2] : D)) x_) (Tab.of ((fun x : List Int × Int => ([] : List (Nm × OO))) x_)) := by
  refine pco_ex_of_run (fun x : List Int × Int => x.1.length ≤ 2 ∧ okBy x.1) (fun x : List Int × Int => (.tup [encLU x.1, dI x.2] : D)) (fun x : List Int × Int => ([] : List (Nm × OO))) [] (E := ⟨[c30, c31, c32, c33], [], []⟩) (m := false) (base := 0) (Env.ok_cons c30_ok (Env.ok_cons c31_ok (Env.ok_cons c32_ok (Env.ok_cons c33_ok Env.ok_nil)))) G_ok mix 300 6 Try.func7 (by kernel_rfl) rfl (by kernel_rfl) (by kernel_rfl) (by kernel_rfl) rfl ?_
  simp [Try.f7, hp]
  have hk := v30_ok l hp
  have hb := below_bd (v30 l) 3 (by omega)
  have hl := v31_ok (n32 (v30 l) 3) (v32 (v30 l) 3) (by simp) (by omega)
  obtain ⟨hl1, hl2⟩ := hl
  have hl3 : (v31 (n32 (v30 l) 3) (v32 (v30 l) 3)).length ≤ 2 := by omega
  simp [hk]
  exact ⟨by omega, hl3, hl2⟩
open Classical in
noncomputable def q7 (l : List Int) : List Int × Int := if h : l.length ≤ 2097152 then Classical.choose (c7_ex l h) else default
theorem q7_sp (l : List Int) (hp : l.length ≤ 2097152) : (fun x : List Int × Int => x.1.length ≤ 2 ∧ okBy x.1) (q7 l) ∧ PCo Try.prog 7 [encLU l] (Tab.of []) ((fun x : List Int × Int => (.tup [encLU x.1, dI x.2] : D)) (q7 l)) (Tab.of ((fun x : List Int × Int => ([] : List (Nm × OO))) (q7 l))) := by
  have e : q7 l = Classical.choose (c7_ex l hp) := by rw [q7, dif_pos hp]
  rw [e]
  exact Classical.choose_spec (c7_ex l hp)
noncomputable def v7 (l : List Int) : List Int × Int := q7 l
theorem v7_ok (l : List Int) (hp : l.length ≤ 2097152) : (fun x : List Int × Int => x.1.length ≤ 2 ∧ okBy x.1) (v7 l) := (q7_sp l hp).1
noncomputable def c7 : Con := mkCon 7 false (α := (List Int)) (fun x => (fun (l : List Int) => ([encLU l] : List D)) x) (fun x => (fun (l : List Int) => ([] : List (Nm × OO))) x) (fun x => (fun (l : List Int) => l.length ≤ 2097152) x) (fun x => (fun (l : List Int) => (fun x : List Int × Int => (.tup [encLU x.1, dI x.2] : D)) (v7 l)) x) (fun x => (fun (l : List Int) => (fun x : List Int × Int => ([] : List (Nm × OO))) (v7 l)) x)
@[simp] theorem c7_f : c7.f = 7 := rfl
@[simp] theorem c7_own : c7.own = false := rfl
theorem c7_inj : ∀ u_ v_ : (List Int), ((fun x => (fun (l : List Int) => ([encLU l] : List D)) x) u_).map nz = ((fun x => (fun (l : List Int) => ([encLU l] : List D)) x) v_).map nz → (fun x => (fun (l : List Int) => ([] : List (Nm × OO))) x) u_ = (fun x => (fun (l : List Int) => ([] : List (Nm × OO))) x) v_ → u_ = v_ := by
  intro u_ v_ h h2_
  obtain l := u_
  obtain l' := v_
  simp [nz_lit, nz1_lit, nz_agg, nz_sl, nz1_sl, nz_sx, nz_el, nz1_el, nz_own, nz1_own, nz_ptr, nz_fn, nz_iface] at h h2_
  first | (simp [h, h2_]; done) | (obtain ⟨h3_, h4_⟩ := List.append_inj h2_ h.1; simp_all; done) | simp_all | grind
@[simp] theorem c7_fn (l : List Int) : c7.fn ([(.sl false 1 (.lit (.int .u8 0)) (ML dU l))]) ([]) = some (l.length ≤ 2097152, (fun x : List Int × Int => (.tup [encLU x.1, dI x.2] : D)) (v7 l), (fun x : List Int × Int => ([] : List (Nm × OO))) (v7 l)) :=
  mkCon_fn c7_inj (l : (List Int)) rfl rfl
theorem c7_ok : c7.ok Try.prog := mkCon_ok fun l hpre => (q7_sp l hpre).2
/-- loop.example/g03007/spec.DrawReadUvarint -/
theorem c11_ex (l : List Int) (hp : l.length ≤ 2097152) : ∃ x_ : List Int × Int, (fun x : List Int × Int => x.1.length ≤ 10 ∧ okBy x.1) x_ ∧ PCo Try.prog 11 [encLU l] (Tab.of []) ((fun x : List Int × Int => (.tup [encLU x.1, dI x.2] : D)) x_) (Tab.of ((fun x : List Int × Int => ([] : List (Nm × OO))) x_)) := by
  refine pco_ex_of_run (fun x : List Int × Int => x.1.length ≤ 10 ∧ okBy x.1) (fun x : List Int × Int => (.tup [encLU x.1, dI x.2] : D)) (fun x : List Int × Int => ([] : List (Nm × OO))) [] (E := ⟨[c30, c31, c32, c38, c39, c40, c41f], [], []⟩) (m := false) (base := 0) (Env.ok_cons c30_ok (Env.ok_cons c31_ok (Env.ok_cons c32_ok (Env.ok_cons c38_ok (Env.ok_cons c39_ok (Env.ok_cons c40_ok (Env.ok_cons c41f_ok Env.ok_nil))))))) G_ok mix 300 6 Try.func11 (by kernel_rfl) rfl (by kernel_rfl) (by kernel_rfl) (by kernel_rfl) rfl ?_
  simp [Try.f11, hp]
  have hk := v30_ok l hp
  have hB := v31_ok (n38 (v30 l) 2) 1 (by simp) (by omega)
  have hB1 : (v31 (n38 (v30 l) 2) 1).length ≤ 1 := hB.1
  have hP := mPutU_len (v31 (n38 (v30 l) 2) 1) (v40 (n31 (n38 (v30 l) 2) 1))
  have b8 := below_bd (n38 (v30 l) 2) 8 (by omega)
  simp [hk]
  refine ⟨fun h => ⟨by omega, by omega, okBy_put hB.2 _⟩, fun h => ?_⟩
  refine loop_inv (fun p : Nat × List Int × TL1Cur => p.2.1.length + p.1 ≤ 7 ∧ okCu p.2.2 ∧ okBy p.2.1) (fun p => [(4, .ptr (0, 1) 0), (5, .own (1, 1) 1 0 p.2.1.length), (6, dI p.1)]) (fun p => [((0, 1), .box (encTL1Cur p.2.2)), ((1, 1), .arr false 1 (dU 0) (ML dU p.2.1))]) 2 (fun p => p.1) ((v32 (n38 (v30 l) 2) 8).toNat, [], n32 (n38 (v30 l) 2) 8) 400 (by simp) (by simp [okBy_nil]; omega) (by simp; omega) ?_
  rintro ⟨p, q, d⟩ ⟨hl, hk2, hall⟩
  simp only at hl hk2 hall
  have happ : okBy (q ++ [IntKind.wrap .u8 (v41f d [128, 255, 0, 1, 127])]) := okBy_snoc hall (u8_bd _)
  simp [hk2]
  refine ⟨fun h => ?_, fun h => ?_⟩
  · skip
    repeat' (with_reducible first | apply And.intro | intro _)
    all_goals try (first | omega | assumption | (simp; done) | (simp only [below_eq, Int.reduceLT]; omega))
    refine Again.mk (p - 1, q ++ [IntKind.wrap .u8 (v41f d [128, 255, 0, 1, 127])], ?_) ?hinv ?hle ?hmu
    case hle =>
      simp
      repeat' (with_reducible first | apply and_rev | intro _)
      all_goals try dsimp only
      all_goals try with_reducible rfl
      all_goals try rfl
      all_goals (first | done | omega | (simp [*]; done) | (simp; omega) | trace_state)
    case hinv => (simp [*]; try (first | done | omega | (repeat' (with_reducible apply And.intro)) <;> (first | omega | assumption | trace_state)))
    case hmu => (simp; try omega)
  · skip
    repeat' (with_reducible first | apply and_rev | apply Exists.intro | intro _)
    all_goals try dsimp only
    all_goals try with_reducible rfl
    all_goals try rfl
    all_goals (first | done | omega | assumption | exact List.length_pos_iff.2 (by assumption) | (simp [*]; done) | (simp [*]; omega) | (simp [*, below_eq]; done) | (simp [*, below_eq]; omega) | (simp only [below_eq, Int.reduceLT]; omega) | trace_state)
open Classical in
noncomputable def q11 (l : List Int) : List Int × Int := if h : l.length ≤ 2097152 then Classical.choose (c11_ex l h) else default
theorem q11_sp (l : List Int) (hp : l.length ≤ 2097152) : (fun x : List Int × Int => x.1.length ≤ 10 ∧ okBy x.1) (q11 l) ∧ PCo Try.prog 11 [encLU l] (Tab.of []) ((fun x : List Int × Int => (.tup [encLU x.1, dI x.2] : D)) (q11 l)) (Tab.of ((fun x : List Int × Int => ([] : List (Nm × OO))) (q11 l))) := by
  have e : q11 l = Classical.choose (c11_ex l hp) := by rw [q11, dif_pos hp]
  rw [e]
  exact Classical.choose_spec (c11_ex l hp)
noncomputable def v11 (l : List Int) : List Int × Int := q11 l
theorem v11_ok (l : List Int) (hp : l.length ≤ 2097152) : (fun x : List Int × Int => x.1.length ≤ 10 ∧ okBy x.1) (v11 l) := (q11_sp l hp).1
noncomputable def c11 : Con := mkCon 11 false (α := (List Int)) (fun x => (fun (l : List Int) => ([encLU l] : List D)) x) (fun x => (fun (l : List Int) => ([] : List (Nm × OO))) x) (fun x => (fun (l : List Int) => l.length ≤ 2097152) x) (fun x => (fun (l : List Int) => (fun x : List Int × Int => (.tup [encLU x.1, dI x.2] : D)) (v11 l)) x) (fun x => (fun (l : List Int) => (fun x : List Int × Int => ([] : List (Nm × OO))) (v11 l)) x)
@[simp] theorem c11_f : c11.f = 11 := rfl
@[simp] theorem c11_own : c11.own = false := rfl
theorem c11_inj : ∀ u_ v_ : (List Int), ((fun x => (fun (l : List Int) => ([encLU l] : List D)) x) u_).map nz = ((fun x => (fun (l : List Int) => ([encLU l] : List D)) x) v_).map nz → (fun x => (fun (l : List Int) => ([] : List (Nm × OO))) x) u_ = (fun x => (fun (l : List Int) => ([] : List (Nm × OO))) x) v_ → u_ = v_ := by
  intro u_ v_ h h2_
  obtain l := u_
  obtain l' := v_
  simp [nz_lit, nz1_lit, nz_agg, nz_sl, nz1_sl, nz_sx, nz_el, nz1_el, nz_own, nz1_own, nz_ptr, nz_fn, nz_iface] at h h2_
  first | (simp [h, h2_]; done) | (obtain ⟨h3_, h4_⟩ := List.append_inj h2_ h.1; simp_all; done) | simp_all | grind
@[simp] theorem c11_fn (l : List Int) : c11.fn ([(.sl false 1 (.lit (.int .u8 0)) (ML dU l))]) ([]) = some (l.length ≤ 2097152, (fun x : List Int × Int => (.tup [encLU x.1, dI x.2] : D)) (v11 l), (fun x : List Int × Int => ([] : List (Nm × OO))) (v11 l)) :=
  mkCon_fn c11_inj (l : (List Int)) rfl rfl
theorem c11_ok : c11.ok Try.prog := mkCon_ok fun l hpre => (q11_sp l hpre).2

end Go.Proofs.Ytdbhfkbfajljpaa
