/- Contracts of the functions that the laws run. -/
import Derived.Test.YtpnfkjbnhholfaaDoorEngB
import Derived.Test.YtpnfkjbnhholfaaDoorEngB
import Derived.Test.YtpnfkjbnhholfaaDoordr4
import Derived.Test.YtpnfkjbnhholfaaDoorch06
import Derived.Test.YtpnfkjbnhholfaaDoorEngB
namespace Go.Proofs.YtpnfkjbnhholfaaDoor
open Go Go.Eng
set_option linter.unusedSimpArgs false
set_option linter.unusedVariables false
set_option maxRecDepth 10000
set_option maxHeartbeats 1000000
/-- loop.example/g03007/spec.l6Draw -/
theorem c66_ex (c : TL1Cur) (id : Int) (hc : okCu c) (hp : True) : ∃ x_ : (TFind) × TL1Cur, (fun x_ : (TFind) × TL1Cur => okCu x_.2 ∧ (fun x : TFind => True) x_.1) x_ ∧ PCo Tryd.prog 66 [.ptr (0, 0) 0, dI id] (Tab.of [((0, 0), .box (encTL1Cur c))]) ((fun x_ : (TFind) × TL1Cur => (fun x : TFind => (encTFind x : D)) x_.1) x_) (Tab.of ((fun x_ : (TFind) × TL1Cur => (((0, 0), .box (encTL1Cur x_.2)) :: (fun x : TFind => ([] : List (Nm × OO))) x_.1)) x_)) := by
  refine pco_ex_of_run (fun x_ : (TFind) × TL1Cur => okCu x_.2 ∧ (fun x : TFind => True) x_.1) (fun x_ : (TFind) × TL1Cur => (fun x : TFind => (encTFind x : D)) x_.1) (fun x_ : (TFind) × TL1Cur => (((0, 0), .box (encTL1Cur x_.2)) :: (fun x : TFind => ([] : List (Nm × OO))) x_.1)) [] (E := ⟨[c52, c67], [], []⟩) (m := false) (base := 1000000) (Env.ok_cons c52_ok (Env.ok_cons c67_ok Env.ok_nil)) G_ok mix 300 6 Tryd.func66 (by kernel_rfl) rfl (by kernel_rfl) (by kernel_rfl) (by kernel_rfl) rfl ?_
  simp [Tryd.f66, hc]
  repeat' (with_reducible first | apply and_rev | apply Exists.intro (⟨⟨?_, ?_, ?_, ?_, ?_⟩, ?_, ?_, ?_⟩ : TFind) | apply Exists.intro | intro _)
  all_goals try dsimp only
  all_goals try with_reducible rfl
  all_goals try rfl
  all_goals (first | done | omega | assumption | exact List.length_pos_iff.2 (by assumption) | (simp [*]; done) | (simp [*]; omega) | (simp [*, below_eq]; done) | (simp [*, below_eq]; omega) | (simp only [below_eq, Int.reduceLT]; omega) | trace_state)
open Classical in
noncomputable def q66 (c : TL1Cur) (id : Int) : (TFind) × TL1Cur := if h : okCu c ∧ True then Classical.choose (c66_ex c id h.1 h.2) else (default, ⟨[], 0, 0⟩)
theorem q66_sp (c : TL1Cur) (id : Int) (hc : okCu c) (hp : True) : (fun x_ : (TFind) × TL1Cur => okCu x_.2 ∧ (fun x : TFind => True) x_.1) (q66 c id) ∧ PCo Tryd.prog 66 [.ptr (0, 0) 0, dI id] (Tab.of [((0, 0), .box (encTL1Cur c))]) ((fun x_ : (TFind) × TL1Cur => (fun x : TFind => (encTFind x : D)) x_.1) (q66 c id)) (Tab.of ((fun x_ : (TFind) × TL1Cur => (((0, 0), .box (encTL1Cur x_.2)) :: (fun x : TFind => ([] : List (Nm × OO))) x_.1)) (q66 c id))) := by
  have e : q66 c id = Classical.choose (c66_ex c id hc hp) := by rw [q66, dif_pos ⟨hc, hp⟩]
  rw [e]
  exact Classical.choose_spec (c66_ex c id hc hp)
noncomputable def v66 (c : TL1Cur) (id : Int) : TFind := (q66 c id).1
noncomputable def n66 (c : TL1Cur) (id : Int) : TL1Cur := (q66 c id).2
open Classical in
@[simp] theorem n66_ok (c : TL1Cur) (id : Int) : okCu (n66 c id) := by
  by_cases h : okCu c ∧ True
  · exact (q66_sp c id h.1 h.2).1.1
  · rw [n66, q66, dif_neg h]; exact ⟨by simp, by simp, by simp⟩
theorem v66_ok (c : TL1Cur) (id : Int) (hc : okCu c) (hp : True) : (fun x : TFind => True) (v66 c id) := (q66_sp c id hc hp).1.2
noncomputable def c66 : Con := mkCon 66 true (α := TL1Cur × Int) (fun x => (fun (c : TL1Cur) (id : Int) => ([.ptr (0, 0) 0, dI id] : List D)) x.1 x.2) (fun x => (fun (c : TL1Cur) (id : Int) => ([((0, 0), .box (encTL1Cur c))] : List (Nm × OO))) x.1 x.2) (fun x => (fun (c : TL1Cur) (id : Int) => okCu c ∧ True) x.1 x.2) (fun x => (fun (c : TL1Cur) (id : Int) => (fun x : TFind => (encTFind x : D)) (v66 c id)) x.1 x.2) (fun x => (fun (c : TL1Cur) (id : Int) => (((0, 0), .box (encTL1Cur (n66 c id))) :: (fun x : TFind => ([] : List (Nm × OO))) (v66 c id))) x.1 x.2)
@[simp] theorem c66_f : c66.f = 66 := rfl
@[simp] theorem c66_own : c66.own = true := rfl
theorem c66_inj : ∀ u_ v_ : TL1Cur × Int, ((fun x => (fun (c : TL1Cur) (id : Int) => ([.ptr (0, 0) 0, dI id] : List D)) x.1 x.2) u_).map nz = ((fun x => (fun (c : TL1Cur) (id : Int) => ([.ptr (0, 0) 0, dI id] : List D)) x.1 x.2) v_).map nz → (fun x => (fun (c : TL1Cur) (id : Int) => ([((0, 0), .box (encTL1Cur c))] : List (Nm × OO))) x.1 x.2) u_ = (fun x => (fun (c : TL1Cur) (id : Int) => ([((0, 0), .box (encTL1Cur c))] : List (Nm × OO))) x.1 x.2) v_ → u_ = v_ := by
  intro u_ v_ h h2_
  obtain ⟨⟨c_b_, c_i_, c_h_⟩, id⟩ := u_
  obtain ⟨⟨c_b_', c_i_', c_h_'⟩, id'⟩ := v_
  simp [nz_lit, nz1_lit, nz_agg, nz_sl, nz1_sl, nz_sx, nz_el, nz1_el, nz_own, nz1_own, nz_ptr, nz_fn, nz_iface] at h h2_
  first | (simp [h, h2_]; done) | (obtain ⟨h3_, h4_⟩ := List.append_inj h2_ h.1; simp_all; done) | simp_all | grind
@[simp] theorem c66_fn (c : TL1Cur) (id : Int) : c66.fn ([.ptr (0, 0) 0, .lit (.int .i64 id)]) ([((0, 0), .box (.agg [.sl false 1 (.lit (.int .u8 0)) (ML dU c.b_), .lit (.int .i64 c.i_), .lit (.int .i64 c.h_)]))]) = some (okCu c ∧ True, (fun x : TFind => (encTFind x : D)) (v66 c id), (((0, 0), .box (encTL1Cur (n66 c id))) :: (fun x : TFind => ([] : List (Nm × OO))) (v66 c id))) :=
  mkCon_fn c66_inj ((c, id) : TL1Cur × Int) rfl rfl
theorem c66_ok : c66.ok Tryd.prog := mkCon_ok fun ⟨c, id⟩ hpre => (q66_sp c id hpre.1 hpre.2).2
/-- loop.example/g03007/spec.l6List -/
theorem c55_ex (c : TL1Cur) (hc : okCu c) (hp : True) : ∃ x_ : (List TFind) × TL1Cur, (fun x_ : (List TFind) × TL1Cur => okCu x_.2 ∧ (fun x : List TFind => x.length ≤ 7) x_.1) x_ ∧ PCo Tryd.prog 55 [.ptr (0, 0) 0] (Tab.of [((0, 0), .box (encTL1Cur c))]) ((fun x_ : (List TFind) × TL1Cur => (fun x : List TFind => (.own (0, 1) 8 0 x.length : D)) x_.1) x_) (Tab.of ((fun x_ : (List TFind) × TL1Cur => (((0, 0), .box (encTL1Cur x_.2)) :: (fun x : List TFind => ([((0, 1), .arr false 8 yTFind (ML encTFind x))] : List (Nm × OO))) x_.1)) x_)) := by
  refine pco_ex_of_run (fun x_ : (List TFind) × TL1Cur => okCu x_.2 ∧ (fun x : List TFind => x.length ≤ 7) x_.1) (fun x_ : (List TFind) × TL1Cur => (fun x : List TFind => (.own (0, 1) 8 0 x.length : D)) x_.1) (fun x_ : (List TFind) × TL1Cur => (((0, 0), .box (encTL1Cur x_.2)) :: (fun x : List TFind => ([((0, 1), .arr false 8 yTFind (ML encTFind x))] : List (Nm × OO))) x_.1)) [] (E := ⟨[c52, c66], [], []⟩) (m := false) (base := 0) (Env.ok_cons c52_ok (Env.ok_cons c66_ok Env.ok_nil)) G_ok mix 300 6 Tryd.func55 (by kernel_rfl) rfl (by kernel_rfl) (by kernel_rfl) (by kernel_rfl) rfl ?_
  simp [Tryd.f55, hc]
  refine loop_inv (fun p : Nat × List TFind × TL1Cur => p.1 ≤ 7 ∧ p.2.1.length = p.1 ∧ okCu p.2.2) (fun p => [(0, .ptr (0, 0) 0), (3, .own (0, 1) 8 0 p.2.1.length), (4, dI ((p.1 : Int) + 1))]) (fun p => [((0, 0), .box (encTL1Cur p.2.2)), ((0, 1), .arr false 8 yTFind (ML encTFind p.2.1))]) 2 (fun p => 8 - p.1) (0, [], c) 400 (by simp) (by simp [hc]) (by simp) ?_
  rintro ⟨p, l, d⟩ ⟨hp, hl, hk⟩
  simp only at hp hl hk
  have hb := below_bd d 8 (by omega)
  simp [hk]
  refine ⟨fun h => ?_, fun h => ?_⟩
  · repeat' (first | omega | refine And.intro ?_ ?_ | intro _)
    all_goals first | exact Again.mk (p + 1, l ++ [v66 (n52 d 8) (2 * ((p : Int) + 1))], n66 (n52 d 8) (2 * ((p : Int) + 1))) (by simp; omega) (by simp) (by simp; omega) | trace_state
  · skip
    repeat' (with_reducible first | apply and_rev | apply Exists.intro | intro _)
    all_goals try dsimp only
    all_goals try with_reducible rfl
    all_goals try rfl
    all_goals (first | done | omega | assumption | exact List.length_pos_iff.2 (by assumption) | (simp [*]; done) | (simp [*]; omega) | (simp [*, below_eq]; done) | (simp [*, below_eq]; omega) | (simp only [below_eq, Int.reduceLT]; omega) | trace_state)
open Classical in
noncomputable def q55 (c : TL1Cur) : (List TFind) × TL1Cur := if h : okCu c ∧ True then Classical.choose (c55_ex c  h.1 h.2) else (default, ⟨[], 0, 0⟩)
theorem q55_sp (c : TL1Cur) (hc : okCu c) (hp : True) : (fun x_ : (List TFind) × TL1Cur => okCu x_.2 ∧ (fun x : List TFind => x.length ≤ 7) x_.1) (q55 c ) ∧ PCo Tryd.prog 55 [.ptr (0, 0) 0] (Tab.of [((0, 0), .box (encTL1Cur c))]) ((fun x_ : (List TFind) × TL1Cur => (fun x : List TFind => (.own (0, 1) 8 0 x.length : D)) x_.1) (q55 c )) (Tab.of ((fun x_ : (List TFind) × TL1Cur => (((0, 0), .box (encTL1Cur x_.2)) :: (fun x : List TFind => ([((0, 1), .arr false 8 yTFind (ML encTFind x))] : List (Nm × OO))) x_.1)) (q55 c ))) := by
  have e : q55 c  = Classical.choose (c55_ex c  hc hp) := by rw [q55, dif_pos ⟨hc, hp⟩]
  rw [e]
  exact Classical.choose_spec (c55_ex c  hc hp)
noncomputable def v55 (c : TL1Cur) : List TFind := (q55 c ).1
noncomputable def n55 (c : TL1Cur) : TL1Cur := (q55 c ).2
open Classical in
@[simp] theorem n55_ok (c : TL1Cur) : okCu (n55 c ) := by
  by_cases h : okCu c ∧ True
  · exact (q55_sp c  h.1 h.2).1.1
  · rw [n55, q55, dif_neg h]; exact ⟨by simp, by simp, by simp⟩
theorem v55_ok (c : TL1Cur) (hc : okCu c) (hp : True) : (fun x : List TFind => x.length ≤ 7) (v55 c ) := (q55_sp c  hc hp).1.2
noncomputable def c55 : Con := mkCon 55 true (α := TL1Cur) (fun x => (fun (c : TL1Cur) => ([.ptr (0, 0) 0] : List D)) x) (fun x => (fun (c : TL1Cur) => ([((0, 0), .box (encTL1Cur c))] : List (Nm × OO))) x) (fun x => (fun (c : TL1Cur) => okCu c ∧ True) x) (fun x => (fun (c : TL1Cur) => (fun x : List TFind => (.own (0, 1) 8 0 x.length : D)) (v55 c )) x) (fun x => (fun (c : TL1Cur) => (((0, 0), .box (encTL1Cur (n55 c ))) :: (fun x : List TFind => ([((0, 1), .arr false 8 yTFind (ML encTFind x))] : List (Nm × OO))) (v55 c ))) x)
@[simp] theorem c55_f : c55.f = 55 := rfl
@[simp] theorem c55_own : c55.own = true := rfl
theorem c55_inj : ∀ u_ v_ : TL1Cur, ((fun x => (fun (c : TL1Cur) => ([.ptr (0, 0) 0] : List D)) x) u_).map nz = ((fun x => (fun (c : TL1Cur) => ([.ptr (0, 0) 0] : List D)) x) v_).map nz → (fun x => (fun (c : TL1Cur) => ([((0, 0), .box (encTL1Cur c))] : List (Nm × OO))) x) u_ = (fun x => (fun (c : TL1Cur) => ([((0, 0), .box (encTL1Cur c))] : List (Nm × OO))) x) v_ → u_ = v_ := by
  intro u_ v_ h h2_
  obtain ⟨c_b_, c_i_, c_h_⟩ := u_
  obtain ⟨c_b_', c_i_', c_h_'⟩ := v_
  simp [nz_lit, nz1_lit, nz_agg, nz_sl, nz1_sl, nz_sx, nz_el, nz1_el, nz_own, nz1_own, nz_ptr, nz_fn, nz_iface] at h h2_
  first | (simp [h, h2_]; done) | (obtain ⟨h3_, h4_⟩ := List.append_inj h2_ h.1; simp_all; done) | simp_all | grind
@[simp] theorem c55_fn (c : TL1Cur) : c55.fn ([.ptr (0, 0) 0]) ([((0, 0), .box (.agg [.sl false 1 (.lit (.int .u8 0)) (ML dU c.b_), .lit (.int .i64 c.i_), .lit (.int .i64 c.h_)]))]) = some (okCu c ∧ True, (fun x : List TFind => (.own (0, 1) 8 0 x.length : D)) (v55 c ), (((0, 0), .box (encTL1Cur (n55 c ))) :: (fun x : List TFind => ([((0, 1), .arr false 8 yTFind (ML encTFind x))] : List (Nm × OO))) (v55 c ))) :=
  mkCon_fn c55_inj (c : TL1Cur) rfl rfl
theorem c55_ok : c55.ok Tryd.prog := mkCon_ok fun c hpre => (q55_sp c  hpre.1 hpre.2).2
/-- loop.example/g03007/spec.l6Any -/
theorem c41_ex (c : TL1Cur) (hc : okCu c) (hp : True) : ∃ x_ : (List TFind) × TL1Cur, (fun x_ : (List TFind) × TL1Cur => okCu x_.2 ∧ (fun x : List TFind => x.length ≤ 7) x_.1) x_ ∧ PCo Tryd.prog 41 [.ptr (0, 0) 0] (Tab.of [((0, 0), .box (encTL1Cur c))]) ((fun x_ : (List TFind) × TL1Cur => (fun x : List TFind => (.own (0, 1) 8 0 x.length : D)) x_.1) x_) (Tab.of ((fun x_ : (List TFind) × TL1Cur => (((0, 0), .box (encTL1Cur x_.2)) :: (fun x : List TFind => ([((0, 1), .arr false 8 yTFind (ML encTFind x))] : List (Nm × OO))) x_.1)) x_)) := by
  refine pco_ex_of_run (fun x_ : (List TFind) × TL1Cur => okCu x_.2 ∧ (fun x : List TFind => x.length ≤ 7) x_.1) (fun x_ : (List TFind) × TL1Cur => (fun x : List TFind => (.own (0, 1) 8 0 x.length : D)) x_.1) (fun x_ : (List TFind) × TL1Cur => (((0, 0), .box (encTL1Cur x_.2)) :: (fun x : List TFind => ([((0, 1), .arr false 8 yTFind (ML encTFind x))] : List (Nm × OO))) x_.1)) [] (E := ⟨[c38, c52, c53, c55, c56], [], []⟩) (m := false) (base := 1000000) (Env.ok_cons c38_ok (Env.ok_cons c52_ok (Env.ok_cons c53_ok (Env.ok_cons c55_ok (Env.ok_cons c56_ok Env.ok_nil))))) G_ok mix 300 6 Tryd.func41 (by kernel_rfl) rfl (by kernel_rfl) (by kernel_rfl) (by kernel_rfl) rfl ?_
  simp [Tryd.f41, hc]
  have hl := v55_ok c hc trivial
  have hb := lt_ne (l := v55 c) (below_bd (n55 c) (v55 c).length)
  repeat' (with_reducible first | apply and_rev | apply Exists.intro | intro _)
  all_goals try dsimp only
  all_goals try with_reducible rfl
  all_goals try rfl
  all_goals (first | done | omega | assumption | exact List.length_pos_iff.2 (by assumption) | (simp [*]; done) | (simp [*]; omega) | (simp [*, below_eq]; done) | (simp [*, below_eq]; omega) | (simp only [below_eq, Int.reduceLT]; omega) | trace_state)
open Classical in
noncomputable def q41 (c : TL1Cur) : (List TFind) × TL1Cur := if h : okCu c ∧ True then Classical.choose (c41_ex c  h.1 h.2) else (default, ⟨[], 0, 0⟩)
theorem q41_sp (c : TL1Cur) (hc : okCu c) (hp : True) : (fun x_ : (List TFind) × TL1Cur => okCu x_.2 ∧ (fun x : List TFind => x.length ≤ 7) x_.1) (q41 c ) ∧ PCo Tryd.prog 41 [.ptr (0, 0) 0] (Tab.of [((0, 0), .box (encTL1Cur c))]) ((fun x_ : (List TFind) × TL1Cur => (fun x : List TFind => (.own (0, 1) 8 0 x.length : D)) x_.1) (q41 c )) (Tab.of ((fun x_ : (List TFind) × TL1Cur => (((0, 0), .box (encTL1Cur x_.2)) :: (fun x : List TFind => ([((0, 1), .arr false 8 yTFind (ML encTFind x))] : List (Nm × OO))) x_.1)) (q41 c ))) := by
  have e : q41 c  = Classical.choose (c41_ex c  hc hp) := by rw [q41, dif_pos ⟨hc, hp⟩]
  rw [e]
  exact Classical.choose_spec (c41_ex c  hc hp)
noncomputable def v41 (c : TL1Cur) : List TFind := (q41 c ).1
noncomputable def n41 (c : TL1Cur) : TL1Cur := (q41 c ).2
open Classical in
@[simp] theorem n41_ok (c : TL1Cur) : okCu (n41 c ) := by
  by_cases h : okCu c ∧ True
  · exact (q41_sp c  h.1 h.2).1.1
  · rw [n41, q41, dif_neg h]; exact ⟨by simp, by simp, by simp⟩
theorem v41_ok (c : TL1Cur) (hc : okCu c) (hp : True) : (fun x : List TFind => x.length ≤ 7) (v41 c ) := (q41_sp c  hc hp).1.2
noncomputable def c41 : Con := mkCon 41 true (α := TL1Cur) (fun x => (fun (c : TL1Cur) => ([.ptr (0, 0) 0] : List D)) x) (fun x => (fun (c : TL1Cur) => ([((0, 0), .box (encTL1Cur c))] : List (Nm × OO))) x) (fun x => (fun (c : TL1Cur) => okCu c ∧ True) x) (fun x => (fun (c : TL1Cur) => (fun x : List TFind => (.own (0, 1) 8 0 x.length : D)) (v41 c )) x) (fun x => (fun (c : TL1Cur) => (((0, 0), .box (encTL1Cur (n41 c ))) :: (fun x : List TFind => ([((0, 1), .arr false 8 yTFind (ML encTFind x))] : List (Nm × OO))) (v41 c ))) x)
@[simp] theorem c41_f : c41.f = 41 := rfl
@[simp] theorem c41_own : c41.own = true := rfl
theorem c41_inj : ∀ u_ v_ : TL1Cur, ((fun x => (fun (c : TL1Cur) => ([.ptr (0, 0) 0] : List D)) x) u_).map nz = ((fun x => (fun (c : TL1Cur) => ([.ptr (0, 0) 0] : List D)) x) v_).map nz → (fun x => (fun (c : TL1Cur) => ([((0, 0), .box (encTL1Cur c))] : List (Nm × OO))) x) u_ = (fun x => (fun (c : TL1Cur) => ([((0, 0), .box (encTL1Cur c))] : List (Nm × OO))) x) v_ → u_ = v_ := by
  intro u_ v_ h h2_
  obtain ⟨c_b_, c_i_, c_h_⟩ := u_
  obtain ⟨c_b_', c_i_', c_h_'⟩ := v_
  simp [nz_lit, nz1_lit, nz_agg, nz_sl, nz1_sl, nz_sx, nz_el, nz1_el, nz_own, nz1_own, nz_ptr, nz_fn, nz_iface] at h h2_
  first | (simp [h, h2_]; done) | (obtain ⟨h3_, h4_⟩ := List.append_inj h2_ h.1; simp_all; done) | simp_all | grind
@[simp] theorem c41_fn (c : TL1Cur) : c41.fn ([.ptr (0, 0) 0]) ([((0, 0), .box (.agg [.sl false 1 (.lit (.int .u8 0)) (ML dU c.b_), .lit (.int .i64 c.i_), .lit (.int .i64 c.h_)]))]) = some (okCu c ∧ True, (fun x : List TFind => (.own (0, 1) 8 0 x.length : D)) (v41 c ), (((0, 0), .box (encTL1Cur (n41 c ))) :: (fun x : List TFind => ([((0, 1), .arr false 8 yTFind (ML encTFind x))] : List (Nm × OO))) (v41 c ))) :=
  mkCon_fn c41_inj (c : TL1Cur) rfl rfl
theorem c41_ok : c41.ok Tryd.prog := mkCon_ok fun c hpre => (q41_sp c  hpre.1 hpre.2).2
/-- loop.example/g03007/spec.l6One -/
theorem c26_ex (c : TL1Cur) (hc : okCu c) (hp : True) : ∃ x_ : (TFind) × TL1Cur, (fun x_ : (TFind) × TL1Cur => okCu x_.2 ∧ (fun x : TFind => True) x_.1) x_ ∧ PCo Tryd.prog 26 [.ptr (0, 0) 0] (Tab.of [((0, 0), .box (encTL1Cur c))]) ((fun x_ : (TFind) × TL1Cur => (fun x : TFind => (encTFind x : D)) x_.1) x_) (Tab.of ((fun x_ : (TFind) × TL1Cur => (((0, 0), .box (encTL1Cur x_.2)) :: (fun x : TFind => ([] : List (Nm × OO))) x_.1)) x_)) := by
  refine pco_ex_of_run (fun x_ : (TFind) × TL1Cur => okCu x_.2 ∧ (fun x : TFind => True) x_.1) (fun x_ : (TFind) × TL1Cur => (fun x : TFind => (encTFind x : D)) x_.1) (fun x_ : (TFind) × TL1Cur => (((0, 0), .box (encTL1Cur x_.2)) :: (fun x : TFind => ([] : List (Nm × OO))) x_.1)) [] (E := ⟨[c41], [], []⟩) (m := false) (base := 1000000) (Env.ok_cons c41_ok Env.ok_nil) G_ok mix 300 6 Tryd.func26 (by kernel_rfl) rfl (by kernel_rfl) (by kernel_rfl) (by kernel_rfl) rfl ?_
  simp [Tryd.f26, hc]
  have hl := v41_ok c hc trivial
  repeat' (with_reducible first | apply and_rev | apply Exists.intro (⟨⟨?_, ?_, ?_, ?_, ?_⟩, ?_, ?_, ?_⟩ : TFind) | apply Exists.intro | intro _)
  all_goals try dsimp only
  all_goals try with_reducible rfl
  all_goals try rfl
  all_goals (first | done | omega | assumption | exact List.length_pos_iff.2 (by assumption) | (simp [*]; done) | (simp [*]; omega) | (simp [*, below_eq]; done) | (simp [*, below_eq]; omega) | (simp only [below_eq, Int.reduceLT]; omega) | trace_state)
open Classical in
noncomputable def q26 (c : TL1Cur) : (TFind) × TL1Cur := if h : okCu c ∧ True then Classical.choose (c26_ex c  h.1 h.2) else (default, ⟨[], 0, 0⟩)
theorem q26_sp (c : TL1Cur) (hc : okCu c) (hp : True) : (fun x_ : (TFind) × TL1Cur => okCu x_.2 ∧ (fun x : TFind => True) x_.1) (q26 c ) ∧ PCo Tryd.prog 26 [.ptr (0, 0) 0] (Tab.of [((0, 0), .box (encTL1Cur c))]) ((fun x_ : (TFind) × TL1Cur => (fun x : TFind => (encTFind x : D)) x_.1) (q26 c )) (Tab.of ((fun x_ : (TFind) × TL1Cur => (((0, 0), .box (encTL1Cur x_.2)) :: (fun x : TFind => ([] : List (Nm × OO))) x_.1)) (q26 c ))) := by
  have e : q26 c  = Classical.choose (c26_ex c  hc hp) := by rw [q26, dif_pos ⟨hc, hp⟩]
  rw [e]
  exact Classical.choose_spec (c26_ex c  hc hp)
noncomputable def v26 (c : TL1Cur) : TFind := (q26 c ).1
noncomputable def n26 (c : TL1Cur) : TL1Cur := (q26 c ).2
open Classical in
@[simp] theorem n26_ok (c : TL1Cur) : okCu (n26 c ) := by
  by_cases h : okCu c ∧ True
  · exact (q26_sp c  h.1 h.2).1.1
  · rw [n26, q26, dif_neg h]; exact ⟨by simp, by simp, by simp⟩
theorem v26_ok (c : TL1Cur) (hc : okCu c) (hp : True) : (fun x : TFind => True) (v26 c ) := (q26_sp c  hc hp).1.2
noncomputable def c26 : Con := mkCon 26 true (α := TL1Cur) (fun x => (fun (c : TL1Cur) => ([.ptr (0, 0) 0] : List D)) x) (fun x => (fun (c : TL1Cur) => ([((0, 0), .box (encTL1Cur c))] : List (Nm × OO))) x) (fun x => (fun (c : TL1Cur) => okCu c ∧ True) x) (fun x => (fun (c : TL1Cur) => (fun x : TFind => (encTFind x : D)) (v26 c )) x) (fun x => (fun (c : TL1Cur) => (((0, 0), .box (encTL1Cur (n26 c ))) :: (fun x : TFind => ([] : List (Nm × OO))) (v26 c ))) x)
@[simp] theorem c26_f : c26.f = 26 := rfl
@[simp] theorem c26_own : c26.own = true := rfl
theorem c26_inj : ∀ u_ v_ : TL1Cur, ((fun x => (fun (c : TL1Cur) => ([.ptr (0, 0) 0] : List D)) x) u_).map nz = ((fun x => (fun (c : TL1Cur) => ([.ptr (0, 0) 0] : List D)) x) v_).map nz → (fun x => (fun (c : TL1Cur) => ([((0, 0), .box (encTL1Cur c))] : List (Nm × OO))) x) u_ = (fun x => (fun (c : TL1Cur) => ([((0, 0), .box (encTL1Cur c))] : List (Nm × OO))) x) v_ → u_ = v_ := by
  intro u_ v_ h h2_
  obtain ⟨c_b_, c_i_, c_h_⟩ := u_
  obtain ⟨c_b_', c_i_', c_h_'⟩ := v_
  simp [nz_lit, nz1_lit, nz_agg, nz_sl, nz1_sl, nz_sx, nz_el, nz1_el, nz_own, nz1_own, nz_ptr, nz_fn, nz_iface] at h h2_
  first | (simp [h, h2_]; done) | (obtain ⟨h3_, h4_⟩ := List.append_inj h2_ h.1; simp_all; done) | simp_all | grind
@[simp] theorem c26_fn (c : TL1Cur) : c26.fn ([.ptr (0, 0) 0]) ([((0, 0), .box (.agg [.sl false 1 (.lit (.int .u8 0)) (ML dU c.b_), .lit (.int .i64 c.i_), .lit (.int .i64 c.h_)]))]) = some (okCu c ∧ True, (fun x : TFind => (encTFind x : D)) (v26 c ), (((0, 0), .box (encTL1Cur (n26 c ))) :: (fun x : TFind => ([] : List (Nm × OO))) (v26 c ))) :=
  mkCon_fn c26_inj (c : TL1Cur) rfl rfl
theorem c26_ok : c26.ok Tryd.prog := mkCon_ok fun c hpre => (q26_sp c  hpre.1 hpre.2).2
end Go.Proofs.YtpnfkjbnhholfaaDoor
