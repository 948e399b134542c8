/- Contracts of the functions that the laws run. -/
import Derived.Test.YtdbhfkbfajljpaaDoorEngB
import Derived.Test.YtdbhfkbfajljpaaDoorEngB
import Derived.Test.YtdbhfkbfajljpaaDoordr4
import Derived.Test.YtdbhfkbfajljpaaDoorch06
import Derived.Test.YtdbhfkbfajljpaaDoorEngB
namespace Go.Proofs.YtdbhfkbfajljpaaDoor
open Go Go.Eng
set_option linter.unusedSimpArgs false
set_option linter.unusedVariables false
set_option maxRecDepth 10000
set_option maxHeartbeats 1000000
/-- loop.example/g03007/spec.l6Draw -/
theorem c41_ex (c : TL1Cur) (id : Int) (hc : okCu c) (hp : True) : ∃ x_ : (TFind) × TL1Cur, (fun x_ : (TFind) × TL1Cur => okCu x_.2 ∧ (fun x : TFind => True) x_.1) x_ ∧ PCo Tryd.prog 41 [.ptr (0, 0) 0, dI id] (Tab.of [((0, 0), .box (encTL1Cur c))]) ((fun x_ : (TFind) × TL1Cur => (fun x : TFind => (encTFind x : D)) x_.1) x_) (Tab.of ((fun x_ : (TFind) × TL1Cur => (((0, 0), .box (encTL1Cur x_.2)) :: (fun x : TFind => ([] : List (Nm × OO))) x_.1)) x_)) := by
  refine pco_ex_of_run (fun x_ : (TFind) × TL1Cur => okCu x_.2 ∧ (fun x : TFind => True) x_.1) (fun x_ : (TFind) × TL1Cur => (fun x : TFind => (encTFind x : D)) x_.1) (fun x_ : (TFind) × TL1Cur => (((0, 0), .box (encTL1Cur x_.2)) :: (fun x : TFind => ([] : List (Nm × OO))) x_.1)) [] (E := ⟨[c27, c42], [], []⟩) (m := false) (base := 1000000) (Env.ok_cons c27_ok (Env.ok_cons c42_ok Env.ok_nil)) G_ok mix 300 6 Tryd.func41 (by kernel_rfl) rfl (by kernel_rfl) (by kernel_rfl) (by kernel_rfl) rfl ?_
  simp [Tryd.f41, hc]
  repeat' (with_reducible first | apply and_rev | apply Exists.intro (⟨⟨?_, ?_, ?_, ?_, ?_⟩, ?_, ?_, ?_⟩ : TFind) | apply Exists.intro | intro _)
  all_goals try dsimp only
  all_goals try with_reducible rfl
  all_goals try rfl
  all_goals (first | done | omega | assumption | exact List.length_pos_iff.2 (by assumption) | (simp [*]; done) | (simp [*]; omega) | (simp [*, below_eq]; done) | (simp [*, below_eq]; omega) | (simp only [below_eq, Int.reduceLT]; omega) | trace_state)
open Classical in
noncomputable def q41 (c : TL1Cur) (id : Int) : (TFind) × TL1Cur := if h : okCu c ∧ True then Classical.choose (c41_ex c id h.1 h.2) else (default, ⟨[], 0, 0⟩)
theorem q41_sp (c : TL1Cur) (id : Int) (hc : okCu c) (hp : True) : (fun x_ : (TFind) × TL1Cur => okCu x_.2 ∧ (fun x : TFind => True) x_.1) (q41 c id) ∧ PCo Tryd.prog 41 [.ptr (0, 0) 0, dI id] (Tab.of [((0, 0), .box (encTL1Cur c))]) ((fun x_ : (TFind) × TL1Cur => (fun x : TFind => (encTFind x : D)) x_.1) (q41 c id)) (Tab.of ((fun x_ : (TFind) × TL1Cur => (((0, 0), .box (encTL1Cur x_.2)) :: (fun x : TFind => ([] : List (Nm × OO))) x_.1)) (q41 c id))) := by
  have e : q41 c id = Classical.choose (c41_ex c id hc hp) := by rw [q41, dif_pos ⟨hc, hp⟩]
  rw [e]
  exact Classical.choose_spec (c41_ex c id hc hp)
noncomputable def v41 (c : TL1Cur) (id : Int) : TFind := (q41 c id).1
noncomputable def n41 (c : TL1Cur) (id : Int) : TL1Cur := (q41 c id).2
open Classical in
@[simp] theorem n41_ok (c : TL1Cur) (id : Int) : okCu (n41 c id) := by
  by_cases h : okCu c ∧ True
  · exact (q41_sp c id h.1 h.2).1.1
  · rw [n41, q41, dif_neg h]; exact ⟨by simp, by simp, by simp⟩
theorem v41_ok (c : TL1Cur) (id : Int) (hc : okCu c) (hp : True) : (fun x : TFind => True) (v41 c id) := (q41_sp c id hc hp).1.2
noncomputable def c41 : Con := mkCon 41 true (α := TL1Cur × Int) (fun x => (fun (c : TL1Cur) (id : Int) => ([.ptr (0, 0) 0, dI id] : List D)) x.1 x.2) (fun x => (fun (c : TL1Cur) (id : Int) => ([((0, 0), .box (encTL1Cur c))] : List (Nm × OO))) x.1 x.2) (fun x => (fun (c : TL1Cur) (id : Int) => okCu c ∧ True) x.1 x.2) (fun x => (fun (c : TL1Cur) (id : Int) => (fun x : TFind => (encTFind x : D)) (v41 c id)) x.1 x.2) (fun x => (fun (c : TL1Cur) (id : Int) => (((0, 0), .box (encTL1Cur (n41 c id))) :: (fun x : TFind => ([] : List (Nm × OO))) (v41 c id))) x.1 x.2)
@[simp] theorem c41_f : c41.f = 41 := rfl
@[simp] theorem c41_own : c41.own = true := rfl
theorem c41_inj : ∀ u_ v_ : TL1Cur × Int, ((fun x => (fun (c : TL1Cur) (id : Int) => ([.ptr (0, 0) 0, dI id] : List D)) x.1 x.2) u_).map nz = ((fun x => (fun (c : TL1Cur) (id : Int) => ([.ptr (0, 0) 0, dI id] : List D)) x.1 x.2) v_).map nz → (fun x => (fun (c : TL1Cur) (id : Int) => ([((0, 0), .box (encTL1Cur c))] : List (Nm × OO))) x.1 x.2) u_ = (fun x => (fun (c : TL1Cur) (id : Int) => ([((0, 0), .box (encTL1Cur c))] : List (Nm × OO))) x.1 x.2) v_ → u_ = v_ := by
  intro u_ v_ h h2_
  obtain ⟨⟨c_b_, c_i_, c_h_⟩, id⟩ := u_
  obtain ⟨⟨c_b_', c_i_', c_h_'⟩, id'⟩ := v_
  simp [nz_lit, nz1_lit, nz_agg, nz_sl, nz1_sl, nz_sx, nz_el, nz1_el, nz_own, nz1_own, nz_ptr, nz_fn, nz_iface] at h h2_
  first | (simp [h, h2_]; done) | (obtain ⟨h3_, h4_⟩ := List.append_inj h2_ h.1; simp_all; done) | simp_all | grind
@[simp] theorem c41_fn (c : TL1Cur) (id : Int) : c41.fn ([.ptr (0, 0) 0, .lit (.int .i64 id)]) ([((0, 0), .box (.agg [.sl false 1 (.lit (.int .u8 0)) (ML dU c.b_), .lit (.int .i64 c.i_), .lit (.int .i64 c.h_)]))]) = some (okCu c ∧ True, (fun x : TFind => (encTFind x : D)) (v41 c id), (((0, 0), .box (encTL1Cur (n41 c id))) :: (fun x : TFind => ([] : List (Nm × OO))) (v41 c id))) :=
  mkCon_fn c41_inj ((c, id) : TL1Cur × Int) rfl rfl
theorem c41_ok : c41.ok Tryd.prog := mkCon_ok fun ⟨c, id⟩ hpre => (q41_sp c id hpre.1 hpre.2).2
/-- loop.example/g03007/spec.l6List -/
theorem c33_ex (c : TL1Cur) (hc : okCu c) (hp : True) : ∃ x_ : (List TFind) × TL1Cur, (fun x_ : (List TFind) × TL1Cur => okCu x_.2 ∧ (fun x : List TFind => x.length ≤ 7) x_.1) x_ ∧ PCo Tryd.prog 33 [.ptr (0, 0) 0] (Tab.of [((0, 0), .box (encTL1Cur c))]) ((fun x_ : (List TFind) × TL1Cur => (fun x : List TFind => (.own (0, 1) 8 0 x.length : D)) x_.1) x_) (Tab.of ((fun x_ : (List TFind) × TL1Cur => (((0, 0), .box (encTL1Cur x_.2)) :: (fun x : List TFind => ([((0, 1), .arr false 8 yTFind (ML encTFind x))] : List (Nm × OO))) x_.1)) x_)) := by
  refine pco_ex_of_run (fun x_ : (List TFind) × TL1Cur => okCu x_.2 ∧ (fun x : List TFind => x.length ≤ 7) x_.1) (fun x_ : (List TFind) × TL1Cur => (fun x : List TFind => (.own (0, 1) 8 0 x.length : D)) x_.1) (fun x_ : (List TFind) × TL1Cur => (((0, 0), .box (encTL1Cur x_.2)) :: (fun x : List TFind => ([((0, 1), .arr false 8 yTFind (ML encTFind x))] : List (Nm × OO))) x_.1)) [] (E := ⟨[c27, c41], [], []⟩) (m := false) (base := 0) (Env.ok_cons c27_ok (Env.ok_cons c41_ok Env.ok_nil)) G_ok mix 300 6 Tryd.func33 (by kernel_rfl) rfl (by kernel_rfl) (by kernel_rfl) (by kernel_rfl) rfl ?_
  simp [Tryd.f33, hc]
  refine loop_inv (fun p : Nat × List TFind × TL1Cur => p.1 ≤ 7 ∧ p.2.1.length = p.1 ∧ okCu p.2.2) (fun p => [(0, .ptr (0, 0) 0), (3, .own (0, 1) 8 0 p.2.1.length), (4, dI ((p.1 : Int) + 1))]) (fun p => [((0, 0), .box (encTL1Cur p.2.2)), ((0, 1), .arr false 8 yTFind (ML encTFind p.2.1))]) 2 (fun p => 8 - p.1) (0, [], c) 400 (by simp) (by simp [hc]) (by simp) ?_
  rintro ⟨p, l, d⟩ ⟨hp, hl, hk⟩
  simp only at hp hl hk
  have hb := below_bd d 8 (by omega)
  simp [hk]
  refine ⟨fun h => ?_, fun h => ?_⟩
  · repeat' (first | omega | refine And.intro ?_ ?_ | intro _)
    all_goals first | exact Again.mk (p + 1, l ++ [v41 (n27 d 8) (2 * ((p : Int) + 1))], n41 (n27 d 8) (2 * ((p : Int) + 1))) (by simp; omega) (by simp) (by simp; omega) | trace_state
  · skip
    repeat' (with_reducible first | apply and_rev | apply Exists.intro | intro _)
    all_goals try dsimp only
    all_goals try with_reducible rfl
    all_goals try rfl
    all_goals (first | done | omega | assumption | exact List.length_pos_iff.2 (by assumption) | (simp [*]; done) | (simp [*]; omega) | (simp [*, below_eq]; done) | (simp [*, below_eq]; omega) | (simp only [below_eq, Int.reduceLT]; omega) | trace_state)
open Classical in
noncomputable def q33 (c : TL1Cur) : (List TFind) × TL1Cur := if h : okCu c ∧ True then Classical.choose (c33_ex c  h.1 h.2) else (default, ⟨[], 0, 0⟩)
theorem q33_sp (c : TL1Cur) (hc : okCu c) (hp : True) : (fun x_ : (List TFind) × TL1Cur => okCu x_.2 ∧ (fun x : List TFind => x.length ≤ 7) x_.1) (q33 c ) ∧ PCo Tryd.prog 33 [.ptr (0, 0) 0] (Tab.of [((0, 0), .box (encTL1Cur c))]) ((fun x_ : (List TFind) × TL1Cur => (fun x : List TFind => (.own (0, 1) 8 0 x.length : D)) x_.1) (q33 c )) (Tab.of ((fun x_ : (List TFind) × TL1Cur => (((0, 0), .box (encTL1Cur x_.2)) :: (fun x : List TFind => ([((0, 1), .arr false 8 yTFind (ML encTFind x))] : List (Nm × OO))) x_.1)) (q33 c ))) := by
  have e : q33 c  = Classical.choose (c33_ex c  hc hp) := by rw [q33, dif_pos ⟨hc, hp⟩]
  rw [e]
  exact Classical.choose_spec (c33_ex c  hc hp)
noncomputable def v33 (c : TL1Cur) : List TFind := (q33 c ).1
noncomputable def n33 (c : TL1Cur) : TL1Cur := (q33 c ).2
open Classical in
@[simp] theorem n33_ok (c : TL1Cur) : okCu (n33 c ) := by
  by_cases h : okCu c ∧ True
  · exact (q33_sp c  h.1 h.2).1.1
  · rw [n33, q33, dif_neg h]; exact ⟨by simp, by simp, by simp⟩
theorem v33_ok (c : TL1Cur) (hc : okCu c) (hp : True) : (fun x : List TFind => x.length ≤ 7) (v33 c ) := (q33_sp c  hc hp).1.2
noncomputable def c33 : Con := mkCon 33 true (α := TL1Cur) (fun x => (fun (c : TL1Cur) => ([.ptr (0, 0) 0] : List D)) x) (fun x => (fun (c : TL1Cur) => ([((0, 0), .box (encTL1Cur c))] : List (Nm × OO))) x) (fun x => (fun (c : TL1Cur) => okCu c ∧ True) x) (fun x => (fun (c : TL1Cur) => (fun x : List TFind => (.own (0, 1) 8 0 x.length : D)) (v33 c )) x) (fun x => (fun (c : TL1Cur) => (((0, 0), .box (encTL1Cur (n33 c ))) :: (fun x : List TFind => ([((0, 1), .arr false 8 yTFind (ML encTFind x))] : List (Nm × OO))) (v33 c ))) x)
@[simp] theorem c33_f : c33.f = 33 := rfl
@[simp] theorem c33_own : c33.own = true := rfl
theorem c33_inj : ∀ u_ v_ : TL1Cur, ((fun x => (fun (c : TL1Cur) => ([.ptr (0, 0) 0] : List D)) x) u_).map nz = ((fun x => (fun (c : TL1Cur) => ([.ptr (0, 0) 0] : List D)) x) v_).map nz → (fun x => (fun (c : TL1Cur) => ([((0, 0), .box (encTL1Cur c))] : List (Nm × OO))) x) u_ = (fun x => (fun (c : TL1Cur) => ([((0, 0), .box (encTL1Cur c))] : List (Nm × OO))) x) v_ → u_ = v_ := by
  intro u_ v_ h h2_
  obtain ⟨c_b_, c_i_, c_h_⟩ := u_
  obtain ⟨c_b_', c_i_', c_h_'⟩ := v_
  simp [nz_lit, nz1_lit, nz_agg, nz_sl, nz1_sl, nz_sx, nz_el, nz1_el, nz_own, nz1_own, nz_ptr, nz_fn, nz_iface] at h h2_
  first | (simp [h, h2_]; done) | (obtain ⟨h3_, h4_⟩ := List.append_inj h2_ h.1; simp_all; done) | simp_all | grind
@[simp] theorem c33_fn (c : TL1Cur) : c33.fn ([.ptr (0, 0) 0]) ([((0, 0), .box (.agg [.sl false 1 (.lit (.int .u8 0)) (ML dU c.b_), .lit (.int .i64 c.i_), .lit (.int .i64 c.h_)]))]) = some (okCu c ∧ True, (fun x : List TFind => (.own (0, 1) 8 0 x.length : D)) (v33 c ), (((0, 0), .box (encTL1Cur (n33 c ))) :: (fun x : List TFind => ([((0, 1), .arr false 8 yTFind (ML encTFind x))] : List (Nm × OO))) (v33 c ))) :=
  mkCon_fn c33_inj (c : TL1Cur) rfl rfl
theorem c33_ok : c33.ok Tryd.prog := mkCon_ok fun c hpre => (q33_sp c  hpre.1 hpre.2).2
/-- loop.example/g03007/spec.l6Any -/
theorem c30_ex (c : TL1Cur) (hc : okCu c) (hp : True) : ∃ x_ : (List TFind) × TL1Cur, (fun x_ : (List TFind) × TL1Cur => okCu x_.2 ∧ (fun x : List TFind => x.length ≤ 7) x_.1) x_ ∧ PCo Tryd.prog 30 [.ptr (0, 0) 0] (Tab.of [((0, 0), .box (encTL1Cur c))]) ((fun x_ : (List TFind) × TL1Cur => (fun x : List TFind => (.own (0, 1) 8 0 x.length : D)) x_.1) x_) (Tab.of ((fun x_ : (List TFind) × TL1Cur => (((0, 0), .box (encTL1Cur x_.2)) :: (fun x : List TFind => ([((0, 1), .arr false 8 yTFind (ML encTFind x))] : List (Nm × OO))) x_.1)) x_)) := by
  refine pco_ex_of_run (fun x_ : (List TFind) × TL1Cur => okCu x_.2 ∧ (fun x : List TFind => x.length ≤ 7) x_.1) (fun x_ : (List TFind) × TL1Cur => (fun x : List TFind => (.own (0, 1) 8 0 x.length : D)) x_.1) (fun x_ : (List TFind) × TL1Cur => (((0, 0), .box (encTL1Cur x_.2)) :: (fun x : List TFind => ([((0, 1), .arr false 8 yTFind (ML encTFind x))] : List (Nm × OO))) x_.1)) [] (E := ⟨[c17, c27, c33, c34, c35], [], []⟩) (m := false) (base := 1000000) (Env.ok_cons c17_ok (Env.ok_cons c27_ok (Env.ok_cons c33_ok (Env.ok_cons c34_ok (Env.ok_cons c35_ok Env.ok_nil))))) G_ok mix 300 6 Tryd.func30 (by kernel_rfl) rfl (by kernel_rfl) (by kernel_rfl) (by kernel_rfl) rfl ?_
  simp [Tryd.f30, hc]
  have hl := v33_ok c hc trivial
  have hb := lt_ne (l := v33 c) (below_bd (n33 c) (v33 c).length)
  repeat' (with_reducible first | apply and_rev | apply Exists.intro | intro _)
  all_goals try dsimp only
  all_goals try with_reducible rfl
  all_goals try rfl
  all_goals (first | done | omega | assumption | exact List.length_pos_iff.2 (by assumption) | (simp [*]; done) | (simp [*]; omega) | (simp [*, below_eq]; done) | (simp [*, below_eq]; omega) | (simp only [below_eq, Int.reduceLT]; omega) | trace_state)
open Classical in
noncomputable def q30 (c : TL1Cur) : (List TFind) × TL1Cur := if h : okCu c ∧ True then Classical.choose (c30_ex c  h.1 h.2) else (default, ⟨[], 0, 0⟩)
theorem q30_sp (c : TL1Cur) (hc : okCu c) (hp : True) : (fun x_ : (List TFind) × TL1Cur => okCu x_.2 ∧ (fun x : List TFind => x.length ≤ 7) x_.1) (q30 c ) ∧ PCo Tryd.prog 30 [.ptr (0, 0) 0] (Tab.of [((0, 0), .box (encTL1Cur c))]) ((fun x_ : (List TFind) × TL1Cur => (fun x : List TFind => (.own (0, 1) 8 0 x.length : D)) x_.1) (q30 c )) (Tab.of ((fun x_ : (List TFind) × TL1Cur => (((0, 0), .box (encTL1Cur x_.2)) :: (fun x : List TFind => ([((0, 1), .arr false 8 yTFind (ML encTFind x))] : List (Nm × OO))) x_.1)) (q30 c ))) := by
  have e : q30 c  = Classical.choose (c30_ex c  hc hp) := by rw [q30, dif_pos ⟨hc, hp⟩]
  rw [e]
  exact Classical.choose_spec (c30_ex c  hc hp)
noncomputable def v30 (c : TL1Cur) : List TFind := (q30 c ).1
noncomputable def n30 (c : TL1Cur) : TL1Cur := (q30 c ).2
open Classical in
@[simp] theorem n30_ok (c : TL1Cur) : okCu (n30 c ) := by
  by_cases h : okCu c ∧ True
  · exact (q30_sp c  h.1 h.2).1.1
  · rw [n30, q30, dif_neg h]; exact ⟨by simp, by simp, by simp⟩
theorem v30_ok (c : TL1Cur) (hc : okCu c) (hp : True) : (fun x : List TFind => x.length ≤ 7) (v30 c ) := (q30_sp c  hc hp).1.2
noncomputable def c30 : Con := mkCon 30 true (α := TL1Cur) (fun x => (fun (c : TL1Cur) => ([.ptr (0, 0) 0] : List D)) x) (fun x => (fun (c : TL1Cur) => ([((0, 0), .box (encTL1Cur c))] : List (Nm × OO))) x) (fun x => (fun (c : TL1Cur) => okCu c ∧ True) x) (fun x => (fun (c : TL1Cur) => (fun x : List TFind => (.own (0, 1) 8 0 x.length : D)) (v30 c )) x) (fun x => (fun (c : TL1Cur) => (((0, 0), .box (encTL1Cur (n30 c ))) :: (fun x : List TFind => ([((0, 1), .arr false 8 yTFind (ML encTFind x))] : List (Nm × OO))) (v30 c ))) x)
@[simp] theorem c30_f : c30.f = 30 := rfl
@[simp] theorem c30_own : c30.own = true := rfl
theorem c30_inj : ∀ u_ v_ : TL1Cur, ((fun x => (fun (c : TL1Cur) => ([.ptr (0, 0) 0] : List D)) x) u_).map nz = ((fun x => (fun (c : TL1Cur) => ([.ptr (0, 0) 0] : List D)) x) v_).map nz → (fun x => (fun (c : TL1Cur) => ([((0, 0), .box (encTL1Cur c))] : List (Nm × OO))) x) u_ = (fun x => (fun (c : TL1Cur) => ([((0, 0), .box (encTL1Cur c))] : List (Nm × OO))) x) v_ → u_ = v_ := by
  intro u_ v_ h h2_
  obtain ⟨c_b_, c_i_, c_h_⟩ := u_
  obtain ⟨c_b_', c_i_', c_h_'⟩ := v_
  simp [nz_lit, nz1_lit, nz_agg, nz_sl, nz1_sl, nz_sx, nz_el, nz1_el, nz_own, nz1_own, nz_ptr, nz_fn, nz_iface] at h h2_
  first | (simp [h, h2_]; done) | (obtain ⟨h3_, h4_⟩ := List.append_inj h2_ h.1; simp_all; done) | simp_all | grind
@[simp] theorem c30_fn (c : TL1Cur) : c30.fn ([.ptr (0, 0) 0]) ([((0, 0), .box (.agg [.sl false 1 (.lit (.int .u8 0)) (ML dU c.b_), .lit (.int .i64 c.i_), .lit (.int .i64 c.h_)]))]) = some (okCu c ∧ True, (fun x : List TFind => (.own (0, 1) 8 0 x.length : D)) (v30 c ), (((0, 0), .box (encTL1Cur (n30 c ))) :: (fun x : List TFind => ([((0, 1), .arr false 8 yTFind (ML encTFind x))] : List (Nm × OO))) (v30 c ))) :=
  mkCon_fn c30_inj (c : TL1Cur) rfl rfl
theorem c30_ok : c30.ok Tryd.prog := mkCon_ok fun c hpre => (q30_sp c  hpre.1 hpre.2).2
/-- loop.example/g03007/spec.l6One -/
theorem c23_ex (c : TL1Cur) (hc : okCu c) (hp : True) : ∃ x_ : (TFind) × TL1Cur, (fun x_ : (TFind) × TL1Cur => okCu x_.2 ∧ (fun x : TFind => True) x_.1) x_ ∧ PCo Tryd.prog 23 [.ptr (0, 0) 0] (Tab.of [((0, 0), .box (encTL1Cur c))]) ((fun x_ : (TFind) × TL1Cur => (fun x : TFind => (encTFind x : D)) x_.1) x_) (Tab.of ((fun x_ : (TFind) × TL1Cur => (((0, 0), .box (encTL1Cur x_.2)) :: (fun x : TFind => ([] : List (Nm × OO))) x_.1)) x_)) := by
  refine pco_ex_of_run (fun x_ : (TFind) × TL1Cur => okCu x_.2 ∧ (fun x : TFind => True) x_.1) (fun x_ : (TFind) × TL1Cur => (fun x : TFind => (encTFind x : D)) x_.1) (fun x_ : (TFind) × TL1Cur => (((0, 0), .box (encTL1Cur x_.2)) :: (fun x : TFind => ([] : List (Nm × OO))) x_.1)) [] (E := ⟨[c30], [], []⟩) (m := false) (base := 1000000) (Env.ok_cons c30_ok Env.ok_nil) G_ok mix 300 6 Tryd.func23 (by kernel_rfl) rfl (by kernel_rfl) (by kernel_rfl) (by kernel_rfl) rfl ?_
  simp [Tryd.f23, hc]
  have hl := v30_ok c hc trivial
  repeat' (with_reducible first | apply and_rev | apply Exists.intro (⟨⟨?_, ?_, ?_, ?_, ?_⟩, ?_, ?_, ?_⟩ : TFind) | apply Exists.intro | intro _)
  all_goals try dsimp only
  all_goals try with_reducible rfl
  all_goals try rfl
  all_goals (first | done | omega | assumption | exact List.length_pos_iff.2 (by assumption) | (simp [*]; done) | (simp [*]; omega) | (simp [*, below_eq]; done) | (simp [*, below_eq]; omega) | (simp only [below_eq, Int.reduceLT]; omega) | trace_state)
open Classical in
noncomputable def q23 (c : TL1Cur) : (TFind) × TL1Cur := if h : okCu c ∧ True then Classical.choose (c23_ex c  h.1 h.2) else (default, ⟨[], 0, 0⟩)
theorem q23_sp (c : TL1Cur) (hc : okCu c) (hp : True) : (fun x_ : (TFind) × TL1Cur => okCu x_.2 ∧ (fun x : TFind => True) x_.1) (q23 c ) ∧ PCo Tryd.prog 23 [.ptr (0, 0) 0] (Tab.of [((0, 0), .box (encTL1Cur c))]) ((fun x_ : (TFind) × TL1Cur => (fun x : TFind => (encTFind x : D)) x_.1) (q23 c )) (Tab.of ((fun x_ : (TFind) × TL1Cur => (((0, 0), .box (encTL1Cur x_.2)) :: (fun x : TFind => ([] : List (Nm × OO))) x_.1)) (q23 c ))) := by
  have e : q23 c  = Classical.choose (c23_ex c  hc hp) := by rw [q23, dif_pos ⟨hc, hp⟩]
  rw [e]
  exact Classical.choose_spec (c23_ex c  hc hp)
noncomputable def v23 (c : TL1Cur) : TFind := (q23 c ).1
noncomputable def n23 (c : TL1Cur) : TL1Cur := (q23 c ).2
open Classical in
@[simp] theorem n23_ok (c : TL1Cur) : okCu (n23 c ) := by
  by_cases h : okCu c ∧ True
  · exact (q23_sp c  h.1 h.2).1.1
  · rw [n23, q23, dif_neg h]; exact ⟨by simp, by simp, by simp⟩
theorem v23_ok (c : TL1Cur) (hc : okCu c) (hp : True) : (fun x : TFind => True) (v23 c ) := (q23_sp c  hc hp).1.2
noncomputable def c23 : Con := mkCon 23 true (α := TL1Cur) (fun x => (fun (c : TL1Cur) => ([.ptr (0, 0) 0] : List D)) x) (fun x => (fun (c : TL1Cur) => ([((0, 0), .box (encTL1Cur c))] : List (Nm × OO))) x) (fun x => (fun (c : TL1Cur) => okCu c ∧ True) x) (fun x => (fun (c : TL1Cur) => (fun x : TFind => (encTFind x : D)) (v23 c )) x) (fun x => (fun (c : TL1Cur) => (((0, 0), .box (encTL1Cur (n23 c ))) :: (fun x : TFind => ([] : List (Nm × OO))) (v23 c ))) x)
@[simp] theorem c23_f : c23.f = 23 := rfl
@[simp] theorem c23_own : c23.own = true := rfl
theorem c23_inj : ∀ u_ v_ : TL1Cur, ((fun x => (fun (c : TL1Cur) => ([.ptr (0, 0) 0] : List D)) x) u_).map nz = ((fun x => (fun (c : TL1Cur) => ([.ptr (0, 0) 0] : List D)) x) v_).map nz → (fun x => (fun (c : TL1Cur) => ([((0, 0), .box (encTL1Cur c))] : List (Nm × OO))) x) u_ = (fun x => (fun (c : TL1Cur) => ([((0, 0), .box (encTL1Cur c))] : List (Nm × OO))) x) v_ → u_ = v_ := by
  intro u_ v_ h h2_
  obtain ⟨c_b_, c_i_, c_h_⟩ := u_
  obtain ⟨c_b_', c_i_', c_h_'⟩ := v_
  simp [nz_lit, nz1_lit, nz_agg, nz_sl, nz1_sl, nz_sx, nz_el, nz1_el, nz_own, nz1_own, nz_ptr, nz_fn, nz_iface] at h h2_
  first | (simp [h, h2_]; done) | (obtain ⟨h3_, h4_⟩ := List.append_inj h2_ h.1; simp_all; done) | simp_all | grind
@[simp] theorem c23_fn (c : TL1Cur) : c23.fn ([.ptr (0, 0) 0]) ([((0, 0), .box (.agg [.sl false 1 (.lit (.int .u8 0)) (ML dU c.b_), .lit (.int .i64 c.i_), .lit (.int .i64 c.h_)]))]) = some (okCu c ∧ True, (fun x : TFind => (encTFind x : D)) (v23 c ), (((0, 0), .box (encTL1Cur (n23 c ))) :: (fun x : TFind => ([] : List (Nm × OO))) (v23 c ))) :=
  mkCon_fn c23_inj (c : TL1Cur) rfl rfl
theorem c23_ok : c23.ok Tryd.prog := mkCon_ok fun c hpre => (q23_sp c  hpre.1 hpre.2).2
end Go.Proofs.YtdbhfkbfajljpaaDoor
