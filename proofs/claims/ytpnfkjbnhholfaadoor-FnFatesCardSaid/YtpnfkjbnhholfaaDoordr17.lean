/- Contracts of the functions that the laws run. -/
import Derived.Test.YtpnfkjbnhholfaaDoorEngB
import Derived.Test.YtpnfkjbnhholfaaDoorEngB
import Derived.Test.YtpnfkjbnhholfaaDoordr6
import Derived.Test.YtpnfkjbnhholfaaDoorEngB
namespace Go.Proofs.YtpnfkjbnhholfaaDoor
open Go Go.Eng
set_option linter.unusedSimpArgs false
set_option linter.unusedVariables false
set_option maxRecDepth 10000
set_option maxHeartbeats 1000000
/-- loop.example/g03007/spec.l17Now -/
theorem c27_ex (c : TL1Cur) (hc : okCu c) (hp : True) : ∃ x_ : (Int) × TL1Cur, (fun x_ : (Int) × TL1Cur => okCu x_.2 ∧ (fun x : Int => -1 ≤ x ∧ x ≤ 200001) x_.1) x_ ∧ PCo Tryd.prog 27 [.ptr (0, 0) 0] (Tab.of [((0, 0), .box (encTL1Cur c))]) ((fun x_ : (Int) × TL1Cur => (fun x : Int => (dI x : D)) x_.1) x_) (Tab.of ((fun x_ : (Int) × TL1Cur => (((0, 0), .box (encTL1Cur x_.2)) :: (fun x : Int => ([] : List (Nm × OO))) x_.1)) x_)) := by
  refine pco_ex_of_run (fun x_ : (Int) × TL1Cur => okCu x_.2 ∧ (fun x : Int => -1 ≤ x ∧ x ≤ 200001) x_.1) (fun x_ : (Int) × TL1Cur => (fun x : Int => (dI x : D)) x_.1) (fun x_ : (Int) × TL1Cur => (((0, 0), .box (encTL1Cur x_.2)) :: (fun x : Int => ([] : List (Nm × OO))) x_.1)) [] (E := ⟨[c38], [], []⟩) (m := false) (base := 1000000) (Env.ok_cons c38_ok Env.ok_nil) G_ok mix 300 6 Tryd.func27 (by kernel_rfl) rfl (by kernel_rfl) (by kernel_rfl) (by kernel_rfl) rfl ?_
  simp [Tryd.f27, hc]
  have hm := v38_ok c [0, 20, 60, 100, 2160, 2200, 2240, 4320, 4400, 200000, 200001, -1] hc (by simp)
  simp at hm
  repeat' (with_reducible first | apply and_rev | apply Exists.intro | intro _)
  all_goals try dsimp only
  all_goals try with_reducible rfl
  all_goals try rfl
  all_goals (first | done | omega | assumption | exact List.length_pos_iff.2 (by assumption) | (simp [*]; done) | (simp [*]; omega) | (simp [*, below_eq]; done) | (simp [*, below_eq]; omega) | (simp only [below_eq, Int.reduceLT]; omega) | trace_state)
open Classical in
noncomputable def q27 (c : TL1Cur) : (Int) × TL1Cur := if h : okCu c ∧ True then Classical.choose (c27_ex c  h.1 h.2) else (default, ⟨[], 0, 0⟩)
theorem q27_sp (c : TL1Cur) (hc : okCu c) (hp : True) : (fun x_ : (Int) × TL1Cur => okCu x_.2 ∧ (fun x : Int => -1 ≤ x ∧ x ≤ 200001) x_.1) (q27 c ) ∧ PCo Tryd.prog 27 [.ptr (0, 0) 0] (Tab.of [((0, 0), .box (encTL1Cur c))]) ((fun x_ : (Int) × TL1Cur => (fun x : Int => (dI x : D)) x_.1) (q27 c )) (Tab.of ((fun x_ : (Int) × TL1Cur => (((0, 0), .box (encTL1Cur x_.2)) :: (fun x : Int => ([] : List (Nm × OO))) x_.1)) (q27 c ))) := by
  have e : q27 c  = Classical.choose (c27_ex c  hc hp) := by rw [q27, dif_pos ⟨hc, hp⟩]
  rw [e]
  exact Classical.choose_spec (c27_ex c  hc hp)
noncomputable def v27 (c : TL1Cur) : Int := (q27 c ).1
noncomputable def n27 (c : TL1Cur) : TL1Cur := (q27 c ).2
open Classical in
@[simp] theorem n27_ok (c : TL1Cur) : okCu (n27 c ) := by
  by_cases h : okCu c ∧ True
  · exact (q27_sp c  h.1 h.2).1.1
  · rw [n27, q27, dif_neg h]; exact ⟨by simp, by simp, by simp⟩
theorem v27_ok (c : TL1Cur) (hc : okCu c) (hp : True) : (fun x : Int => -1 ≤ x ∧ x ≤ 200001) (v27 c ) := (q27_sp c  hc hp).1.2
noncomputable def c27 : Con := mkCon 27 true (α := TL1Cur) (fun x => (fun (c : TL1Cur) => ([.ptr (0, 0) 0] : List D)) x) (fun x => (fun (c : TL1Cur) => ([((0, 0), .box (encTL1Cur c))] : List (Nm × OO))) x) (fun x => (fun (c : TL1Cur) => okCu c ∧ True) x) (fun x => (fun (c : TL1Cur) => (fun x : Int => (dI x : D)) (v27 c )) x) (fun x => (fun (c : TL1Cur) => (((0, 0), .box (encTL1Cur (n27 c ))) :: (fun x : Int => ([] : List (Nm × OO))) (v27 c ))) x)
@[simp] theorem c27_f : c27.f = 27 := rfl
@[simp] theorem c27_own : c27.own = true := rfl
theorem c27_inj : ∀ u_ v_ : TL1Cur, ((fun x => (fun (c : TL1Cur) => ([.ptr (0, 0) 0] : List D)) x) u_).map nz = ((fun x => (fun (c : TL1Cur) => ([.ptr (0, 0) 0] : List D)) x) v_).map nz → (fun x => (fun (c : TL1Cur) => ([((0, 0), .box (encTL1Cur c))] : List (Nm × OO))) x) u_ = (fun x => (fun (c : TL1Cur) => ([((0, 0), .box (encTL1Cur c))] : List (Nm × OO))) x) v_ → u_ = v_ := by
  intro u_ v_ h h2_
  obtain ⟨c_b_, c_i_, c_h_⟩ := u_
  obtain ⟨c_b_', c_i_', c_h_'⟩ := v_
  simp [nz_lit, nz1_lit, nz_agg, nz_sl, nz1_sl, nz_sx, nz_el, nz1_el, nz_own, nz1_own, nz_ptr, nz_fn, nz_iface] at h h2_
  first | (simp [h, h2_]; done) | (obtain ⟨h3_, h4_⟩ := List.append_inj h2_ h.1; simp_all; done) | simp_all | grind
@[simp] theorem c27_fn (c : TL1Cur) : c27.fn ([.ptr (0, 0) 0]) ([((0, 0), .box (.agg [.sl false 1 (.lit (.int .u8 0)) (ML dU c.b_), .lit (.int .i64 c.i_), .lit (.int .i64 c.h_)]))]) = some (okCu c ∧ True, (fun x : Int => (dI x : D)) (v27 c ), (((0, 0), .box (encTL1Cur (n27 c ))) :: (fun x : Int => ([] : List (Nm × OO))) (v27 c ))) :=
  mkCon_fn c27_inj (c : TL1Cur) rfl rfl
theorem c27_ok : c27.ok Tryd.prog := mkCon_ok fun c hpre => (q27_sp c  hpre.1 hpre.2).2
/-- loop.example/g03007/spec.DrawIsDue -/
theorem c6_ex (l : List Int) (hp : l.length ≤ 2097152) : ∃ x_ : TFind × Int, (fun x : TFind × Int => -1 ≤ x.2 ∧ x.2 ≤ 200001) x_ ∧ PCo Tryd.prog 6 [encLU l] (Tab.of []) ((fun x : TFind × Int => (.tup [encTFind x.1, dI x.2] : D)) x_) (Tab.of ((fun x : TFind × Int => ([] : List (Nm × OO))) x_)) := by
  refine pco_ex_of_run (fun x : TFind × Int => -1 ≤ x.2 ∧ x.2 ≤ 200001) (fun x : TFind × Int => (.tup [encTFind x.1, dI x.2] : D)) (fun x : TFind × Int => ([] : List (Nm × OO))) [1003, 9000027, 10000007] (E := ⟨[c25, c26, c27], [], []⟩) (m := false) (base := 0) (Env.ok_cons c25_ok (Env.ok_cons c26_ok (Env.ok_cons c27_ok Env.ok_nil))) G_ok mix 300 6 Tryd.func6 (by kernel_rfl) rfl (by kernel_rfl) (by kernel_rfl) (by kernel_rfl) rfl ?_
  simp [Tryd.f6, hp]
  have hk := v25_ok l hp
  have hn := v27_ok (n26 (v25 l)) (by simp) trivial
  try simp [hk]
  repeat' (with_reducible first | apply and_rev | apply Exists.intro (⟨⟨?_, ?_, ?_, ?_, ?_⟩, ?_, ?_, ?_⟩ : TFind) | apply Exists.intro | intro _)
  all_goals try dsimp only
  all_goals try with_reducible rfl
  all_goals try rfl
  all_goals (first | done | omega | assumption | exact List.length_pos_iff.2 (by assumption) | (simp [*]; done) | (simp [*]; omega) | (simp [*, below_eq]; done) | (simp [*, below_eq]; omega) | (simp only [below_eq, Int.reduceLT]; omega) | trace_state)
open Classical in
noncomputable def q6 (l : List Int) : TFind × Int := if h : l.length ≤ 2097152 then Classical.choose (c6_ex l h) else default
theorem q6_sp (l : List Int) (hp : l.length ≤ 2097152) : (fun x : TFind × Int => -1 ≤ x.2 ∧ x.2 ≤ 200001) (q6 l) ∧ PCo Tryd.prog 6 [encLU l] (Tab.of []) ((fun x : TFind × Int => (.tup [encTFind x.1, dI x.2] : D)) (q6 l)) (Tab.of ((fun x : TFind × Int => ([] : List (Nm × OO))) (q6 l))) := by
  have e : q6 l = Classical.choose (c6_ex l hp) := by rw [q6, dif_pos hp]
  rw [e]
  exact Classical.choose_spec (c6_ex l hp)
noncomputable def v6 (l : List Int) : TFind × Int := q6 l
theorem v6_ok (l : List Int) (hp : l.length ≤ 2097152) : (fun x : TFind × Int => -1 ≤ x.2 ∧ x.2 ≤ 200001) (v6 l) := (q6_sp l hp).1
noncomputable def c6 : Con := mkCon 6 false (α := (List Int)) (fun x => (fun (l : List Int) => ([encLU l] : List D)) x) (fun x => (fun (l : List Int) => ([] : List (Nm × OO))) x) (fun x => (fun (l : List Int) => l.length ≤ 2097152) x) (fun x => (fun (l : List Int) => (fun x : TFind × Int => (.tup [encTFind x.1, dI x.2] : D)) (v6 l)) x) (fun x => (fun (l : List Int) => (fun x : TFind × Int => ([] : List (Nm × OO))) (v6 l)) x)
@[simp] theorem c6_f : c6.f = 6 := rfl
@[simp] theorem c6_own : c6.own = false := rfl
theorem c6_inj : ∀ u_ v_ : (List Int), ((fun x => (fun (l : List Int) => ([encLU l] : List D)) x) u_).map nz = ((fun x => (fun (l : List Int) => ([encLU l] : List D)) x) v_).map nz → (fun x => (fun (l : List Int) => ([] : List (Nm × OO))) x) u_ = (fun x => (fun (l : List Int) => ([] : List (Nm × OO))) x) v_ → u_ = v_ := by
  intro u_ v_ h h2_
  obtain l := u_
  obtain l' := v_
  simp [nz_lit, nz1_lit, nz_agg, nz_sl, nz1_sl, nz_sx, nz_el, nz1_el, nz_own, nz1_own, nz_ptr, nz_fn, nz_iface] at h h2_
  first | (simp [h, h2_]; done) | (obtain ⟨h3_, h4_⟩ := List.append_inj h2_ h.1; simp_all; done) | simp_all | grind
@[simp] theorem c6_fn (l : List Int) : c6.fn ([(.sl false 1 (.lit (.int .u8 0)) (ML dU l))]) ([]) = some (l.length ≤ 2097152, (fun x : TFind × Int => (.tup [encTFind x.1, dI x.2] : D)) (v6 l), (fun x : TFind × Int => ([] : List (Nm × OO))) (v6 l)) :=
  mkCon_fn c6_inj (l : (List Int)) rfl rfl
theorem c6_ok : c6.ok Tryd.prog := mkCon_ok fun l hpre => (q6_sp l hpre).2
/-- loop.example/g03007/spec.DrawDueThings -/
theorem c31_ex (l : List Int) (hp : l.length ≤ 2097152) : ∃ x_ : List TFind × Int, (fun x : List TFind × Int => x.1.length ≤ 7 ∧ -1 ≤ x.2 ∧ x.2 ≤ 200001) x_ ∧ PCo Tryd.prog 31 [encLU l] (Tab.of []) ((fun x : List TFind × Int => (.tup [.sl false 8 yTFind (ML encTFind x.1), dI x.2] : D)) x_) (Tab.of ((fun x : List TFind × Int => ([] : List (Nm × OO))) x_)) := by
  refine pco_ex_of_run (fun x : List TFind × Int => x.1.length ≤ 7 ∧ -1 ≤ x.2 ∧ x.2 ≤ 200001) (fun x : List TFind × Int => (.tup [.sl false 8 yTFind (ML encTFind x.1), dI x.2] : D)) (fun x : List TFind × Int => ([] : List (Nm × OO))) [] (E := ⟨[c25, c27, c41], [], []⟩) (m := false) (base := 0) (Env.ok_cons c25_ok (Env.ok_cons c27_ok (Env.ok_cons c41_ok Env.ok_nil))) G_ok mix 300 6 Tryd.func31 (by kernel_rfl) rfl (by kernel_rfl) (by kernel_rfl) (by kernel_rfl) rfl ?_
  simp [Tryd.f31, hp]
  have hk := v25_ok l hp
  have hl := v41_ok _ hk trivial
  have hn := v27_ok (n41 (v25 l)) (by simp) trivial
  try simp [hk]
  repeat' (with_reducible first | apply and_rev | apply Exists.intro | intro _)
  all_goals try dsimp only
  all_goals try with_reducible rfl
  all_goals try rfl
  all_goals (first | done | omega | assumption | exact List.length_pos_iff.2 (by assumption) | (simp [*]; done) | (simp [*]; omega) | (simp [*, below_eq]; done) | (simp [*, below_eq]; omega) | (simp only [below_eq, Int.reduceLT]; omega) | trace_state)
open Classical in
noncomputable def q31 (l : List Int) : List TFind × Int := if h : l.length ≤ 2097152 then Classical.choose (c31_ex l h) else default
theorem q31_sp (l : List Int) (hp : l.length ≤ 2097152) : (fun x : List TFind × Int => x.1.length ≤ 7 ∧ -1 ≤ x.2 ∧ x.2 ≤ 200001) (q31 l) ∧ PCo Tryd.prog 31 [encLU l] (Tab.of []) ((fun x : List TFind × Int => (.tup [.sl false 8 yTFind (ML encTFind x.1), dI x.2] : D)) (q31 l)) (Tab.of ((fun x : List TFind × Int => ([] : List (Nm × OO))) (q31 l))) := by
  have e : q31 l = Classical.choose (c31_ex l hp) := by rw [q31, dif_pos hp]
  rw [e]
  exact Classical.choose_spec (c31_ex l hp)
noncomputable def v31 (l : List Int) : List TFind × Int := q31 l
theorem v31_ok (l : List Int) (hp : l.length ≤ 2097152) : (fun x : List TFind × Int => x.1.length ≤ 7 ∧ -1 ≤ x.2 ∧ x.2 ≤ 200001) (v31 l) := (q31_sp l hp).1
noncomputable def c31 : Con := mkCon 31 false (α := (List Int)) (fun x => (fun (l : List Int) => ([encLU l] : List D)) x) (fun x => (fun (l : List Int) => ([] : List (Nm × OO))) x) (fun x => (fun (l : List Int) => l.length ≤ 2097152) x) (fun x => (fun (l : List Int) => (fun x : List TFind × Int => (.tup [.sl false 8 yTFind (ML encTFind x.1), dI x.2] : D)) (v31 l)) x) (fun x => (fun (l : List Int) => (fun x : List TFind × Int => ([] : List (Nm × OO))) (v31 l)) x)
@[simp] theorem c31_f : c31.f = 31 := rfl
@[simp] theorem c31_own : c31.own = false := rfl
theorem c31_inj : ∀ u_ v_ : (List Int), ((fun x => (fun (l : List Int) => ([encLU l] : List D)) x) u_).map nz = ((fun x => (fun (l : List Int) => ([encLU l] : List D)) x) v_).map nz → (fun x => (fun (l : List Int) => ([] : List (Nm × OO))) x) u_ = (fun x => (fun (l : List Int) => ([] : List (Nm × OO))) x) v_ → u_ = v_ := by
  intro u_ v_ h h2_
  obtain l := u_
  obtain l' := v_
  simp [nz_lit, nz1_lit, nz_agg, nz_sl, nz1_sl, nz_sx, nz_el, nz1_el, nz_own, nz1_own, nz_ptr, nz_fn, nz_iface] at h h2_
  first | (simp [h, h2_]; done) | (obtain ⟨h3_, h4_⟩ := List.append_inj h2_ h.1; simp_all; done) | simp_all | grind
@[simp] theorem c31_fn (l : List Int) : c31.fn ([(.sl false 1 (.lit (.int .u8 0)) (ML dU l))]) ([]) = some (l.length ≤ 2097152, (fun x : List TFind × Int => (.tup [.sl false 8 yTFind (ML encTFind x.1), dI x.2] : D)) (v31 l), (fun x : List TFind × Int => ([] : List (Nm × OO))) (v31 l)) :=
  mkCon_fn c31_inj (l : (List Int)) rfl rfl
theorem c31_ok : c31.ok Tryd.prog := mkCon_ok fun l hpre => (q31_sp l hpre).2
/-- loop.example/g03007/spec.DrawNextDue -/
theorem c12_ex (l : List Int) (hp : l.length ≤ 2097152) : ∃ x_ : List TFind × Int, (fun x : List TFind × Int => x.1.length ≤ 7 ∧ -1 ≤ x.2 ∧ x.2 ≤ 200001) x_ ∧ PCo Tryd.prog 12 [encLU l] (Tab.of []) ((fun x : List TFind × Int => (.tup [.sl false 8 yTFind (ML encTFind x.1), dI x.2] : D)) x_) (Tab.of ((fun x : List TFind × Int => ([] : List (Nm × OO))) x_)) := by
  refine pco_ex_of_run (fun x : List TFind × Int => x.1.length ≤ 7 ∧ -1 ≤ x.2 ∧ x.2 ≤ 200001) (fun x : List TFind × Int => (.tup [.sl false 8 yTFind (ML encTFind x.1), dI x.2] : D)) (fun x : List TFind × Int => ([] : List (Nm × OO))) [] (E := ⟨[c31], [], []⟩) (m := false) (base := 0) (Env.ok_cons c31_ok Env.ok_nil) G_ok mix 300 6 Tryd.func12 (by kernel_rfl) rfl (by kernel_rfl) (by kernel_rfl) (by kernel_rfl) rfl ?_
  simp [Tryd.f12, hp]
  have hl := v31_ok l hp
  repeat' (with_reducible first | apply and_rev | apply Exists.intro | intro _)
  all_goals try dsimp only
  all_goals try with_reducible rfl
  all_goals try rfl
  all_goals (first | done | omega | assumption | exact List.length_pos_iff.2 (by assumption) | (simp [*]; done) | (simp [*]; omega) | (simp [*, below_eq]; done) | (simp [*, below_eq]; omega) | (simp only [below_eq, Int.reduceLT]; omega) | trace_state)
open Classical in
noncomputable def q12 (l : List Int) : List TFind × Int := if h : l.length ≤ 2097152 then Classical.choose (c12_ex l h) else default
theorem q12_sp (l : List Int) (hp : l.length ≤ 2097152) : (fun x : List TFind × Int => x.1.length ≤ 7 ∧ -1 ≤ x.2 ∧ x.2 ≤ 200001) (q12 l) ∧ PCo Tryd.prog 12 [encLU l] (Tab.of []) ((fun x : List TFind × Int => (.tup [.sl false 8 yTFind (ML encTFind x.1), dI x.2] : D)) (q12 l)) (Tab.of ((fun x : List TFind × Int => ([] : List (Nm × OO))) (q12 l))) := by
  have e : q12 l = Classical.choose (c12_ex l hp) := by rw [q12, dif_pos hp]
  rw [e]
  exact Classical.choose_spec (c12_ex l hp)
noncomputable def v12 (l : List Int) : List TFind × Int := q12 l
theorem v12_ok (l : List Int) (hp : l.length ≤ 2097152) : (fun x : List TFind × Int => x.1.length ≤ 7 ∧ -1 ≤ x.2 ∧ x.2 ≤ 200001) (v12 l) := (q12_sp l hp).1
noncomputable def c12 : Con := mkCon 12 false (α := (List Int)) (fun x => (fun (l : List Int) => ([encLU l] : List D)) x) (fun x => (fun (l : List Int) => ([] : List (Nm × OO))) x) (fun x => (fun (l : List Int) => l.length ≤ 2097152) x) (fun x => (fun (l : List Int) => (fun x : List TFind × Int => (.tup [.sl false 8 yTFind (ML encTFind x.1), dI x.2] : D)) (v12 l)) x) (fun x => (fun (l : List Int) => (fun x : List TFind × Int => ([] : List (Nm × OO))) (v12 l)) x)
@[simp] theorem c12_f : c12.f = 12 := rfl
@[simp] theorem c12_own : c12.own = false := rfl
theorem c12_inj : ∀ u_ v_ : (List Int), ((fun x => (fun (l : List Int) => ([encLU l] : List D)) x) u_).map nz = ((fun x => (fun (l : List Int) => ([encLU l] : List D)) x) v_).map nz → (fun x => (fun (l : List Int) => ([] : List (Nm × OO))) x) u_ = (fun x => (fun (l : List Int) => ([] : List (Nm × OO))) x) v_ → u_ = v_ := by
  intro u_ v_ h h2_
  obtain l := u_
  obtain l' := v_
  simp [nz_lit, nz1_lit, nz_agg, nz_sl, nz1_sl, nz_sx, nz_el, nz1_el, nz_own, nz1_own, nz_ptr, nz_fn, nz_iface] at h h2_
  first | (simp [h, h2_]; done) | (obtain ⟨h3_, h4_⟩ := List.append_inj h2_ h.1; simp_all; done) | simp_all | grind
@[simp] theorem c12_fn (l : List Int) : c12.fn ([(.sl false 1 (.lit (.int .u8 0)) (ML dU l))]) ([]) = some (l.length ≤ 2097152, (fun x : List TFind × Int => (.tup [.sl false 8 yTFind (ML encTFind x.1), dI x.2] : D)) (v12 l), (fun x : List TFind × Int => ([] : List (Nm × OO))) (v12 l)) :=
  mkCon_fn c12_inj (l : (List Int)) rfl rfl
theorem c12_ok : c12.ok Tryd.prog := mkCon_ok fun l hpre => (q12_sp l hpre).2

end Go.Proofs.YtpnfkjbnhholfaaDoor
