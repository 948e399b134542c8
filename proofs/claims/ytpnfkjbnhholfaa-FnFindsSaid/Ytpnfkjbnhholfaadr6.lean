/- Contracts of the functions that the laws run. -/
import Derived.Test.YtpnfkjbnhholfaaEngB
import Derived.Test.YtpnfkjbnhholfaaEngB
import Derived.Test.Ytpnfkjbnhholfaadr4
import Derived.Test.Ytpnfkjbnhholfaach06
import Derived.Test.YtpnfkjbnhholfaaEngB
namespace Go.Proofs.Ytpnfkjbnhholfaa
open Go Go.Eng
set_option linter.unusedSimpArgs false
set_option linter.unusedVariables false
set_option maxRecDepth 10000
set_option maxHeartbeats 1000000
/-- loop.example/g03007/spec.l6Draw -/
theorem c186_ex (c : TL1Cur) (id : Int) (hc : okCu c) (hp : True) : ∃ x_ : (TFind) × TL1Cur, (fun x_ : (TFind) × TL1Cur => okCu x_.2 ∧ (fun x : TFind => True) x_.1) x_ ∧ PCo Try.prog 186 [.ptr (0, 0) 0, dI id] (Tab.of [((0, 0), .box (encTL1Cur c))]) ((fun x_ : (TFind) × TL1Cur => (fun x : TFind => (encTFind x : D)) x_.1) x_) (Tab.of ((fun x_ : (TFind) × TL1Cur => (((0, 0), .box (encTL1Cur x_.2)) :: (fun x : TFind => ([] : List (Nm × OO))) x_.1)) x_)) := by
  refine pco_ex_of_run (fun x_ : (TFind) × TL1Cur => okCu x_.2 ∧ (fun x : TFind => True) x_.1) (fun x_ : (TFind) × TL1Cur => (fun x : TFind => (encTFind x : D)) x_.1) (fun x_ : (TFind) × TL1Cur => (((0, 0), .box (encTL1Cur x_.2)) :: (fun x : TFind => ([] : List (Nm × OO))) x_.1)) [] (E := ⟨[c72, c168], [], []⟩) (m := false) (base := 1000000) (Env.ok_cons c72_ok (Env.ok_cons c168_ok Env.ok_nil)) G_ok mix 300 6 Try.func186 (by kernel_rfl) rfl (by kernel_rfl) (by kernel_rfl) (by kernel_rfl) rfl ?_
  simp [Try.f186, hc]
  repeat' (with_reducible first | apply and_rev | apply Exists.intro (⟨⟨?_, ?_, ?_, ?_, ?_⟩, ?_, ?_, ?_⟩ : TFind) | apply Exists.intro | intro _)
  all_goals try dsimp only
  all_goals try with_reducible rfl
  all_goals try rfl
  all_goals (first | done | omega | assumption | exact List.length_pos_iff.2 (by assumption) | (simp [*]; done) | (simp [*]; omega) | (simp [*, below_eq]; done) | (simp [*, below_eq]; omega) | (simp only [below_eq, Int.reduceLT]; omega) | trace_state)
open Classical in
noncomputable def q186 (c : TL1Cur) (id : Int) : (TFind) × TL1Cur := if h : okCu c ∧ True then Classical.choose (c186_ex c id h.1 h.2) else (default, ⟨[], 0, 0⟩)
theorem q186_sp (c : TL1Cur) (id : Int) (hc : okCu c) (hp : True) : (fun x_ : (TFind) × TL1Cur => okCu x_.2 ∧ (fun x : TFind => True) x_.1) (q186 c id) ∧ PCo Try.prog 186 [.ptr (0, 0) 0, dI id] (Tab.of [((0, 0), .box (encTL1Cur c))]) ((fun x_ : (TFind) × TL1Cur => (fun x : TFind => (encTFind x : D)) x_.1) (q186 c id)) (Tab.of ((fun x_ : (TFind) × TL1Cur => (((0, 0), .box (encTL1Cur x_.2)) :: (fun x : TFind => ([] : List (Nm × OO))) x_.1)) (q186 c id))) := by
  have e : q186 c id = Classical.choose (c186_ex c id hc hp) := by rw [q186, dif_pos ⟨hc, hp⟩]
  rw [e]
  exact Classical.choose_spec (c186_ex c id hc hp)
noncomputable def v186 (c : TL1Cur) (id : Int) : TFind := (q186 c id).1
noncomputable def n186 (c : TL1Cur) (id : Int) : TL1Cur := (q186 c id).2
open Classical in
@[simp] theorem n186_ok (c : TL1Cur) (id : Int) : okCu (n186 c id) := by
  by_cases h : okCu c ∧ True
  · exact (q186_sp c id h.1 h.2).1.1
  · rw [n186, q186, dif_neg h]; exact ⟨by simp, by simp, by simp⟩
theorem v186_ok (c : TL1Cur) (id : Int) (hc : okCu c) (hp : True) : (fun x : TFind => True) (v186 c id) := (q186_sp c id hc hp).1.2
noncomputable def c186 : Con := mkCon 186 true (α := TL1Cur × Int) (fun x => (fun (c : TL1Cur) (id : Int) => ([.ptr (0, 0) 0, dI id] : List D)) x.1 x.2) (fun x => (fun (c : TL1Cur) (id : Int) => ([((0, 0), .box (encTL1Cur c))] : List (Nm × OO))) x.1 x.2) (fun x => (fun (c : TL1Cur) (id : Int) => okCu c ∧ True) x.1 x.2) (fun x => (fun (c : TL1Cur) (id : Int) => (fun x : TFind => (encTFind x : D)) (v186 c id)) x.1 x.2) (fun x => (fun (c : TL1Cur) (id : Int) => (((0, 0), .box (encTL1Cur (n186 c id))) :: (fun x : TFind => ([] : List (Nm × OO))) (v186 c id))) x.1 x.2)
@[simp] theorem c186_f : c186.f = 186 := rfl
@[simp] theorem c186_own : c186.own = true := rfl
theorem c186_inj : ∀ u_ v_ : TL1Cur × Int, ((fun x => (fun (c : TL1Cur) (id : Int) => ([.ptr (0, 0) 0, dI id] : List D)) x.1 x.2) u_).map nz = ((fun x => (fun (c : TL1Cur) (id : Int) => ([.ptr (0, 0) 0, dI id] : List D)) x.1 x.2) v_).map nz → (fun x => (fun (c : TL1Cur) (id : Int) => ([((0, 0), .box (encTL1Cur c))] : List (Nm × OO))) x.1 x.2) u_ = (fun x => (fun (c : TL1Cur) (id : Int) => ([((0, 0), .box (encTL1Cur c))] : List (Nm × OO))) x.1 x.2) v_ → u_ = v_ := by
  intro u_ v_ h h2_
  obtain ⟨⟨c_b_, c_i_, c_h_⟩, id⟩ := u_
  obtain ⟨⟨c_b_', c_i_', c_h_'⟩, id'⟩ := v_
  simp [nz_lit, nz1_lit, nz_agg, nz_sl, nz1_sl, nz_sx, nz_el, nz1_el, nz_own, nz1_own, nz_ptr, nz_fn, nz_iface] at h h2_
  first | (simp [h, h2_]; done) | (obtain ⟨h3_, h4_⟩ := List.append_inj h2_ h.1; simp_all; done) | simp_all | grind
@[simp] theorem c186_fn (c : TL1Cur) (id : Int) : c186.fn ([.ptr (0, 0) 0, .lit (.int .i64 id)]) ([((0, 0), .box (.agg [.sl false 1 (.lit (.int .u8 0)) (ML dU c.b_), .lit (.int .i64 c.i_), .lit (.int .i64 c.h_)]))]) = some (okCu c ∧ True, (fun x : TFind => (encTFind x : D)) (v186 c id), (((0, 0), .box (encTL1Cur (n186 c id))) :: (fun x : TFind => ([] : List (Nm × OO))) (v186 c id))) :=
  mkCon_fn c186_inj ((c, id) : TL1Cur × Int) rfl rfl
theorem c186_ok : c186.ok Try.prog := mkCon_ok fun ⟨c, id⟩ hpre => (q186_sp c id hpre.1 hpre.2).2
/-- loop.example/g03007/spec.l6List -/
theorem c141_ex (c : TL1Cur) (hc : okCu c) (hp : True) : ∃ x_ : (List TFind) × TL1Cur, (fun x_ : (List TFind) × TL1Cur => okCu x_.2 ∧ (fun x : List TFind => x.length ≤ 7) x_.1) x_ ∧ PCo Try.prog 141 [.ptr (0, 0) 0] (Tab.of [((0, 0), .box (encTL1Cur c))]) ((fun x_ : (List TFind) × TL1Cur => (fun x : List TFind => (.own (0, 1) 8 0 x.length : D)) x_.1) x_) (Tab.of ((fun x_ : (List TFind) × TL1Cur => (((0, 0), .box (encTL1Cur x_.2)) :: (fun x : List TFind => ([((0, 1), .arr false 8 yTFind (ML encTFind x))] : List (Nm × OO))) x_.1)) x_)) := by
  refine pco_ex_of_run (fun x_ : (List TFind) × TL1Cur => okCu x_.2 ∧ (fun x : List TFind => x.length ≤ 7) x_.1) (fun x_ : (List TFind) × TL1Cur => (fun x : List TFind => (.own (0, 1) 8 0 x.length : D)) x_.1) (fun x_ : (List TFind) × TL1Cur => (((0, 0), .box (encTL1Cur x_.2)) :: (fun x : List TFind => ([((0, 1), .arr false 8 yTFind (ML encTFind x))] : List (Nm × OO))) x_.1)) [] (E := ⟨[c72, c186], [], []⟩) (m := false) (base := 0) (Env.ok_cons c72_ok (Env.ok_cons c186_ok Env.ok_nil)) G_ok mix 300 6 Try.func141 (by kernel_rfl) rfl (by kernel_rfl) (by kernel_rfl) (by kernel_rfl) rfl ?_
  simp [Try.f141, hc]
  refine loop_inv (fun p : Nat × List TFind × TL1Cur => p.1 ≤ 7 ∧ p.2.1.length = p.1 ∧ okCu p.2.2) (fun p => [(0, .ptr (0, 0) 0), (3, .own (0, 1) 8 0 p.2.1.length), (4, dI ((p.1 : Int) + 1))]) (fun p => [((0, 0), .box (encTL1Cur p.2.2)), ((0, 1), .arr false 8 yTFind (ML encTFind p.2.1))]) 2 (fun p => 8 - p.1) (0, [], c) 400 (by simp) (by simp [hc]) (by simp) ?_
  rintro ⟨p, l, d⟩ ⟨hp, hl, hk⟩
  simp only at hp hl hk
  have hb := below_bd d 8 (by omega)
  simp [hk]
  refine ⟨fun h => ?_, fun h => ?_⟩
  · repeat' (first | omega | refine And.intro ?_ ?_ | intro _)
    all_goals first | exact Again.mk (p + 1, l ++ [v186 (n72 d 8) (2 * ((p : Int) + 1))], n186 (n72 d 8) (2 * ((p : Int) + 1))) (by simp; omega) (by simp) (by simp; omega) | trace_state
  · skip
    repeat' (with_reducible first | apply and_rev | apply Exists.intro | intro _)
    all_goals try dsimp only
    all_goals try with_reducible rfl
    all_goals try rfl
    all_goals (first | done | omega | assumption | exact List.length_pos_iff.2 (by assumption) | (simp [*]; done) | (simp [*]; omega) | (simp [*, below_eq]; done) | (simp [*, below_eq]; omega) | (simp only [below_eq, Int.reduceLT]; omega) | trace_state)
open Classical in
noncomputable def q141 (c : TL1Cur) : (List TFind) × TL1Cur := if h : okCu c ∧ True then Classical.choose (c141_ex c  h.1 h.2) else (default, ⟨[], 0, 0⟩)
theorem q141_sp (c : TL1Cur) (hc : okCu c) (hp : True) : (fun x_ : (List TFind) × TL1Cur => okCu x_.2 ∧ (fun x : List TFind => x.length ≤ 7) x_.1) (q141 c ) ∧ PCo Try.prog 141 [.ptr (0, 0) 0] (Tab.of [((0, 0), .box (encTL1Cur c))]) ((fun x_ : (List TFind) × TL1Cur => (fun x : List TFind => (.own (0, 1) 8 0 x.length : D)) x_.1) (q141 c )) (Tab.of ((fun x_ : (List TFind) × TL1Cur => (((0, 0), .box (encTL1Cur x_.2)) :: (fun x : List TFind => ([((0, 1), .arr false 8 yTFind (ML encTFind x))] : List (Nm × OO))) x_.1)) (q141 c ))) := by
  have e : q141 c  = Classical.choose (c141_ex c  hc hp) := by rw [q141, dif_pos ⟨hc, hp⟩]
  rw [e]
  exact Classical.choose_spec (c141_ex c  hc hp)
noncomputable def v141 (c : TL1Cur) : List TFind := (q141 c ).1
noncomputable def n141 (c : TL1Cur) : TL1Cur := (q141 c ).2
open Classical in
@[simp] theorem n141_ok (c : TL1Cur) : okCu (n141 c ) := by
  by_cases h : okCu c ∧ True
  · exact (q141_sp c  h.1 h.2).1.1
  · rw [n141, q141, dif_neg h]; exact ⟨by simp, by simp, by simp⟩
theorem v141_ok (c : TL1Cur) (hc : okCu c) (hp : True) : (fun x : List TFind => x.length ≤ 7) (v141 c ) := (q141_sp c  hc hp).1.2
noncomputable def c141 : Con := mkCon 141 true (α := TL1Cur) (fun x => (fun (c : TL1Cur) => ([.ptr (0, 0) 0] : List D)) x) (fun x => (fun (c : TL1Cur) => ([((0, 0), .box (encTL1Cur c))] : List (Nm × OO))) x) (fun x => (fun (c : TL1Cur) => okCu c ∧ True) x) (fun x => (fun (c : TL1Cur) => (fun x : List TFind => (.own (0, 1) 8 0 x.length : D)) (v141 c )) x) (fun x => (fun (c : TL1Cur) => (((0, 0), .box (encTL1Cur (n141 c ))) :: (fun x : List TFind => ([((0, 1), .arr false 8 yTFind (ML encTFind x))] : List (Nm × OO))) (v141 c ))) x)
@[simp] theorem c141_f : c141.f = 141 := rfl
@[simp] theorem c141_own : c141.own = true := rfl
theorem c141_inj : ∀ u_ v_ : TL1Cur, ((fun x => (fun (c : TL1Cur) => ([.ptr (0, 0) 0] : List D)) x) u_).map nz = ((fun x => (fun (c : TL1Cur) => ([.ptr (0, 0) 0] : List D)) x) v_).map nz → (fun x => (fun (c : TL1Cur) => ([((0, 0), .box (encTL1Cur c))] : List (Nm × OO))) x) u_ = (fun x => (fun (c : TL1Cur) => ([((0, 0), .box (encTL1Cur c))] : List (Nm × OO))) x) v_ → u_ = v_ := by
  intro u_ v_ h h2_
  obtain ⟨c_b_, c_i_, c_h_⟩ := u_
  obtain ⟨c_b_', c_i_', c_h_'⟩ := v_
  simp [nz_lit, nz1_lit, nz_agg, nz_sl, nz1_sl, nz_sx, nz_el, nz1_el, nz_own, nz1_own, nz_ptr, nz_fn, nz_iface] at h h2_
  first | (simp [h, h2_]; done) | (obtain ⟨h3_, h4_⟩ := List.append_inj h2_ h.1; simp_all; done) | simp_all | grind
@[simp] theorem c141_fn (c : TL1Cur) : c141.fn ([.ptr (0, 0) 0]) ([((0, 0), .box (.agg [.sl false 1 (.lit (.int .u8 0)) (ML dU c.b_), .lit (.int .i64 c.i_), .lit (.int .i64 c.h_)]))]) = some (okCu c ∧ True, (fun x : List TFind => (.own (0, 1) 8 0 x.length : D)) (v141 c ), (((0, 0), .box (encTL1Cur (n141 c ))) :: (fun x : List TFind => ([((0, 1), .arr false 8 yTFind (ML encTFind x))] : List (Nm × OO))) (v141 c ))) :=
  mkCon_fn c141_inj (c : TL1Cur) rfl rfl
theorem c141_ok : c141.ok Try.prog := mkCon_ok fun c hpre => (q141_sp c  hpre.1 hpre.2).2
/-- loop.example/g03007/spec.l6Any -/
theorem c69_ex (c : TL1Cur) (hc : okCu c) (hp : True) : ∃ x_ : (List TFind) × TL1Cur, (fun x_ : (List TFind) × TL1Cur => okCu x_.2 ∧ (fun x : List TFind => x.length ≤ 7) x_.1) x_ ∧ PCo Try.prog 69 [.ptr (0, 0) 0] (Tab.of [((0, 0), .box (encTL1Cur c))]) ((fun x_ : (List TFind) × TL1Cur => (fun x : List TFind => (.own (0, 1) 8 0 x.length : D)) x_.1) x_) (Tab.of ((fun x_ : (List TFind) × TL1Cur => (((0, 0), .box (encTL1Cur x_.2)) :: (fun x : List TFind => ([((0, 1), .arr false 8 yTFind (ML encTFind x))] : List (Nm × OO))) x_.1)) x_)) := by
  refine pco_ex_of_run (fun x_ : (List TFind) × TL1Cur => okCu x_.2 ∧ (fun x : List TFind => x.length ≤ 7) x_.1) (fun x_ : (List TFind) × TL1Cur => (fun x : List TFind => (.own (0, 1) 8 0 x.length : D)) x_.1) (fun x_ : (List TFind) × TL1Cur => (((0, 0), .box (encTL1Cur x_.2)) :: (fun x : List TFind => ([((0, 1), .arr false 8 yTFind (ML encTFind x))] : List (Nm × OO))) x_.1)) [] (E := ⟨[c72, c110, c140, c141, c142], [], []⟩) (m := false) (base := 1000000) (Env.ok_cons c72_ok (Env.ok_cons c110_ok (Env.ok_cons c140_ok (Env.ok_cons c141_ok (Env.ok_cons c142_ok Env.ok_nil))))) G_ok mix 300 6 Try.func69 (by kernel_rfl) rfl (by kernel_rfl) (by kernel_rfl) (by kernel_rfl) rfl ?_
  simp [Try.f69, hc]
  have hl := v141_ok c hc trivial
  have hb := lt_ne (l := v141 c) (below_bd (n141 c) (v141 c).length)
  repeat' (with_reducible first | apply and_rev | apply Exists.intro | intro _)
  all_goals try dsimp only
  all_goals try with_reducible rfl
  all_goals try rfl
  all_goals (first | done | omega | assumption | exact List.length_pos_iff.2 (by assumption) | (simp [*]; done) | (simp [*]; omega) | (simp [*, below_eq]; done) | (simp [*, below_eq]; omega) | (simp only [below_eq, Int.reduceLT]; omega) | trace_state)
open Classical in
noncomputable def q69 (c : TL1Cur) : (List TFind) × TL1Cur := if h : okCu c ∧ True then Classical.choose (c69_ex c  h.1 h.2) else (default, ⟨[], 0, 0⟩)
theorem q69_sp (c : TL1Cur) (hc : okCu c) (hp : True) : (fun x_ : (List TFind) × TL1Cur => okCu x_.2 ∧ (fun x : List TFind => x.length ≤ 7) x_.1) (q69 c ) ∧ PCo Try.prog 69 [.ptr (0, 0) 0] (Tab.of [((0, 0), .box (encTL1Cur c))]) ((fun x_ : (List TFind) × TL1Cur => (fun x : List TFind => (.own (0, 1) 8 0 x.length : D)) x_.1) (q69 c )) (Tab.of ((fun x_ : (List TFind) × TL1Cur => (((0, 0), .box (encTL1Cur x_.2)) :: (fun x : List TFind => ([((0, 1), .arr false 8 yTFind (ML encTFind x))] : List (Nm × OO))) x_.1)) (q69 c ))) := by
  have e : q69 c  = Classical.choose (c69_ex c  hc hp) := by rw [q69, dif_pos ⟨hc, hp⟩]
  rw [e]
  exact Classical.choose_spec (c69_ex c  hc hp)
noncomputable def v69 (c : TL1Cur) : List TFind := (q69 c ).1
noncomputable def n69 (c : TL1Cur) : TL1Cur := (q69 c ).2
open Classical in
@[simp] theorem n69_ok (c : TL1Cur) : okCu (n69 c ) := by
  by_cases h : okCu c ∧ True
  · exact (q69_sp c  h.1 h.2).1.1
  · rw [n69, q69, dif_neg h]; exact ⟨by simp, by simp, by simp⟩
theorem v69_ok (c : TL1Cur) (hc : okCu c) (hp : True) : (fun x : List TFind => x.length ≤ 7) (v69 c ) := (q69_sp c  hc hp).1.2
noncomputable def c69 : Con := mkCon 69 true (α := TL1Cur) (fun x => (fun (c : TL1Cur) => ([.ptr (0, 0) 0] : List D)) x) (fun x => (fun (c : TL1Cur) => ([((0, 0), .box (encTL1Cur c))] : List (Nm × OO))) x) (fun x => (fun (c : TL1Cur) => okCu c ∧ True) x) (fun x => (fun (c : TL1Cur) => (fun x : List TFind => (.own (0, 1) 8 0 x.length : D)) (v69 c )) x) (fun x => (fun (c : TL1Cur) => (((0, 0), .box (encTL1Cur (n69 c ))) :: (fun x : List TFind => ([((0, 1), .arr false 8 yTFind (ML encTFind x))] : List (Nm × OO))) (v69 c ))) x)
@[simp] theorem c69_f : c69.f = 69 := rfl
@[simp] theorem c69_own : c69.own = true := rfl
theorem c69_inj : ∀ u_ v_ : TL1Cur, ((fun x => (fun (c : TL1Cur) => ([.ptr (0, 0) 0] : List D)) x) u_).map nz = ((fun x => (fun (c : TL1Cur) => ([.ptr (0, 0) 0] : List D)) x) v_).map nz → (fun x => (fun (c : TL1Cur) => ([((0, 0), .box (encTL1Cur c))] : List (Nm × OO))) x) u_ = (fun x => (fun (c : TL1Cur) => ([((0, 0), .box (encTL1Cur c))] : List (Nm × OO))) x) v_ → u_ = v_ := by
  intro u_ v_ h h2_
  obtain ⟨c_b_, c_i_, c_h_⟩ := u_
  obtain ⟨c_b_', c_i_', c_h_'⟩ := v_
  simp [nz_lit, nz1_lit, nz_agg, nz_sl, nz1_sl, nz_sx, nz_el, nz1_el, nz_own, nz1_own, nz_ptr, nz_fn, nz_iface] at h h2_
  first | (simp [h, h2_]; done) | (obtain ⟨h3_, h4_⟩ := List.append_inj h2_ h.1; simp_all; done) | simp_all | grind
@[simp] theorem c69_fn (c : TL1Cur) : c69.fn ([.ptr (0, 0) 0]) ([((0, 0), .box (.agg [.sl false 1 (.lit (.int .u8 0)) (ML dU c.b_), .lit (.int .i64 c.i_), .lit (.int .i64 c.h_)]))]) = some (okCu c ∧ True, (fun x : List TFind => (.own (0, 1) 8 0 x.length : D)) (v69 c ), (((0, 0), .box (encTL1Cur (n69 c ))) :: (fun x : List TFind => ([((0, 1), .arr false 8 yTFind (ML encTFind x))] : List (Nm × OO))) (v69 c ))) :=
  mkCon_fn c69_inj (c : TL1Cur) rfl rfl
theorem c69_ok : c69.ok Try.prog := mkCon_ok fun c hpre => (q69_sp c  hpre.1 hpre.2).2
/-- loop.example/g03007/spec.l6One -/
theorem c70_ex (c : TL1Cur) (hc : okCu c) (hp : True) : ∃ x_ : (TFind) × TL1Cur, (fun x_ : (TFind) × TL1Cur => okCu x_.2 ∧ (fun x : TFind => True) x_.1) x_ ∧ PCo Try.prog 70 [.ptr (0, 0) 0] (Tab.of [((0, 0), .box (encTL1Cur c))]) ((fun x_ : (TFind) × TL1Cur => (fun x : TFind => (encTFind x : D)) x_.1) x_) (Tab.of ((fun x_ : (TFind) × TL1Cur => (((0, 0), .box (encTL1Cur x_.2)) :: (fun x : TFind => ([] : List (Nm × OO))) x_.1)) x_)) := by
  refine pco_ex_of_run (fun x_ : (TFind) × TL1Cur => okCu x_.2 ∧ (fun x : TFind => True) x_.1) (fun x_ : (TFind) × TL1Cur => (fun x : TFind => (encTFind x : D)) x_.1) (fun x_ : (TFind) × TL1Cur => (((0, 0), .box (encTL1Cur x_.2)) :: (fun x : TFind => ([] : List (Nm × OO))) x_.1)) [] (E := ⟨[c69], [], []⟩) (m := false) (base := 1000000) (Env.ok_cons c69_ok Env.ok_nil) G_ok mix 300 6 Try.func70 (by kernel_rfl) rfl (by kernel_rfl) (by kernel_rfl) (by kernel_rfl) rfl ?_
  simp [Try.f70, hc]
  have hl := v69_ok c hc trivial
  repeat' (with_reducible first | apply and_rev | apply Exists.intro (⟨⟨?_, ?_, ?_, ?_, ?_⟩, ?_, ?_, ?_⟩ : TFind) | apply Exists.intro | intro _)
  all_goals try dsimp only
  all_goals try with_reducible rfl
  all_goals try rfl
  all_goals (first | done | omega | assumption | exact List.length_pos_iff.2 (by assumption) | (simp [*]; done) | (simp [*]; omega) | (simp [*, below_eq]; done) | (simp [*, below_eq]; omega) | (simp only [below_eq, Int.reduceLT]; omega) | trace_state)
open Classical in
noncomputable def q70 (c : TL1Cur) : (TFind) × TL1Cur := if h : okCu c ∧ True then Classical.choose (c70_ex c  h.1 h.2) else (default, ⟨[], 0, 0⟩)
theorem q70_sp (c : TL1Cur) (hc : okCu c) (hp : True) : (fun x_ : (TFind) × TL1Cur => okCu x_.2 ∧ (fun x : TFind => True) x_.1) (q70 c ) ∧ PCo Try.prog 70 [.ptr (0, 0) 0] (Tab.of [((0, 0), .box (encTL1Cur c))]) ((fun x_ : (TFind) × TL1Cur => (fun x : TFind => (encTFind x : D)) x_.1) (q70 c )) (Tab.of ((fun x_ : (TFind) × TL1Cur => (((0, 0), .box (encTL1Cur x_.2)) :: (fun x : TFind => ([] : List (Nm × OO))) x_.1)) (q70 c ))) := by
  have e : q70 c  = Classical.choose (c70_ex c  hc hp) := by rw [q70, dif_pos ⟨hc, hp⟩]
  rw [e]
  exact Classical.choose_spec (c70_ex c  hc hp)
noncomputable def v70 (c : TL1Cur) : TFind := (q70 c ).1
noncomputable def n70 (c : TL1Cur) : TL1Cur := (q70 c ).2
open Classical in
@[simp] theorem n70_ok (c : TL1Cur) : okCu (n70 c ) := by
  by_cases h : okCu c ∧ True
  · exact (q70_sp c  h.1 h.2).1.1
  · rw [n70, q70, dif_neg h]; exact ⟨by simp, by simp, by simp⟩
theorem v70_ok (c : TL1Cur) (hc : okCu c) (hp : True) : (fun x : TFind => True) (v70 c ) := (q70_sp c  hc hp).1.2
noncomputable def c70 : Con := mkCon 70 true (α := TL1Cur) (fun x => (fun (c : TL1Cur) => ([.ptr (0, 0) 0] : List D)) x) (fun x => (fun (c : TL1Cur) => ([((0, 0), .box (encTL1Cur c))] : List (Nm × OO))) x) (fun x => (fun (c : TL1Cur) => okCu c ∧ True) x) (fun x => (fun (c : TL1Cur) => (fun x : TFind => (encTFind x : D)) (v70 c )) x) (fun x => (fun (c : TL1Cur) => (((0, 0), .box (encTL1Cur (n70 c ))) :: (fun x : TFind => ([] : List (Nm × OO))) (v70 c ))) x)
@[simp] theorem c70_f : c70.f = 70 := rfl
@[simp] theorem c70_own : c70.own = true := rfl
theorem c70_inj : ∀ u_ v_ : TL1Cur, ((fun x => (fun (c : TL1Cur) => ([.ptr (0, 0) 0] : List D)) x) u_).map nz = ((fun x => (fun (c : TL1Cur) => ([.ptr (0, 0) 0] : List D)) x) v_).map nz → (fun x => (fun (c : TL1Cur) => ([((0, 0), .box (encTL1Cur c))] : List (Nm × OO))) x) u_ = (fun x => (fun (c : TL1Cur) => ([((0, 0), .box (encTL1Cur c))] : List (Nm × OO))) x) v_ → u_ = v_ := by
  intro u_ v_ h h2_
  obtain ⟨c_b_, c_i_, c_h_⟩ := u_
  obtain ⟨c_b_', c_i_', c_h_'⟩ := v_
  simp [nz_lit, nz1_lit, nz_agg, nz_sl, nz1_sl, nz_sx, nz_el, nz1_el, nz_own, nz1_own, nz_ptr, nz_fn, nz_iface] at h h2_
  first | (simp [h, h2_]; done) | (obtain ⟨h3_, h4_⟩ := List.append_inj h2_ h.1; simp_all; done) | simp_all | grind
@[simp] theorem c70_fn (c : TL1Cur) : c70.fn ([.ptr (0, 0) 0]) ([((0, 0), .box (.agg [.sl false 1 (.lit (.int .u8 0)) (ML dU c.b_), .lit (.int .i64 c.i_), .lit (.int .i64 c.h_)]))]) = some (okCu c ∧ True, (fun x : TFind => (encTFind x : D)) (v70 c ), (((0, 0), .box (encTL1Cur (n70 c ))) :: (fun x : TFind => ([] : List (Nm × OO))) (v70 c ))) :=
  mkCon_fn c70_inj (c : TL1Cur) rfl rfl
theorem c70_ok : c70.ok Try.prog := mkCon_ok fun c hpre => (q70_sp c  hpre.1 hpre.2).2
/-- loop.example/g03007/spec.DrawPutFind -/
theorem c10_ex (l : List Int) (hp : l.length ≤ 2097152) : ∃ x_ : List TFind × TFind, (fun x : List TFind × TFind => x.1.length ≤ 7) x_ ∧ PCo Try.prog 10 [encLU l] (Tab.of []) ((fun x : List TFind × TFind => (.tup [.sl false 8 yTFind (ML encTFind x.1), encTFind x.2] : D)) x_) (Tab.of ((fun x : List TFind × TFind => ([] : List (Nm × OO))) x_)) := by
  refine pco_ex_of_run (fun x : List TFind × TFind => x.1.length ≤ 7) (fun x : List TFind × TFind => (.tup [.sl false 8 yTFind (ML encTFind x.1), encTFind x.2] : D)) (fun x : List TFind × TFind => ([] : List (Nm × OO))) [] (E := ⟨[c68, c69, c70, c71, c72], [], []⟩) (m := false) (base := 0) (Env.ok_cons c68_ok (Env.ok_cons c69_ok (Env.ok_cons c70_ok (Env.ok_cons c71_ok (Env.ok_cons c72_ok Env.ok_nil))))) G_ok mix 300 6 Try.func10 (by kernel_rfl) rfl (by kernel_rfl) (by kernel_rfl) (by kernel_rfl) rfl ?_
  simp [Try.f10, hp]
  have hk := v68_ok l hp
  have hl := v69_ok _ hk trivial
  simp [hk]
  repeat' (with_reducible first | apply and_rev | apply Exists.intro (⟨⟨?_, ?_, ?_, ?_, ?_⟩, ?_, ?_, ?_⟩ : TFind) | apply Exists.intro | intro _)
  all_goals try dsimp only
  all_goals try with_reducible rfl
  all_goals try rfl
  all_goals (first | done | omega | assumption | exact List.length_pos_iff.2 (by assumption) | (simp [*]; done) | (simp [*]; omega) | (simp [*, below_eq]; done) | (simp [*, below_eq]; omega) | (simp only [below_eq, Int.reduceLT]; omega) | trace_state)
open Classical in
noncomputable def q10 (l : List Int) : List TFind × TFind := if h : l.length ≤ 2097152 then Classical.choose (c10_ex l h) else default
theorem q10_sp (l : List Int) (hp : l.length ≤ 2097152) : (fun x : List TFind × TFind => x.1.length ≤ 7) (q10 l) ∧ PCo Try.prog 10 [encLU l] (Tab.of []) ((fun x : List TFind × TFind => (.tup [.sl false 8 yTFind (ML encTFind x.1), encTFind x.2] : D)) (q10 l)) (Tab.of ((fun x : List TFind × TFind => ([] : List (Nm × OO))) (q10 l))) := by
  have e : q10 l = Classical.choose (c10_ex l hp) := by rw [q10, dif_pos hp]
  rw [e]
  exact Classical.choose_spec (c10_ex l hp)
noncomputable def v10 (l : List Int) : List TFind × TFind := q10 l
theorem v10_ok (l : List Int) (hp : l.length ≤ 2097152) : (fun x : List TFind × TFind => x.1.length ≤ 7) (v10 l) := (q10_sp l hp).1
noncomputable def c10 : Con := mkCon 10 false (α := (List Int)) (fun x => (fun (l : List Int) => ([encLU l] : List D)) x) (fun x => (fun (l : List Int) => ([] : List (Nm × OO))) x) (fun x => (fun (l : List Int) => l.length ≤ 2097152) x) (fun x => (fun (l : List Int) => (fun x : List TFind × TFind => (.tup [.sl false 8 yTFind (ML encTFind x.1), encTFind x.2] : D)) (v10 l)) x) (fun x => (fun (l : List Int) => (fun x : List TFind × TFind => ([] : List (Nm × OO))) (v10 l)) x)
@[simp] theorem c10_f : c10.f = 10 := rfl
@[simp] theorem c10_own : c10.own = false := rfl
theorem c10_inj : ∀ u_ v_ : (List Int), ((fun x => (fun (l : List Int) => ([encLU l] : List D)) x) u_).map nz = ((fun x => (fun (l : List Int) => ([encLU l] : List D)) x) v_).map nz → (fun x => (fun (l : List Int) => ([] : List (Nm × OO))) x) u_ = (fun x => (fun (l : List Int) => ([] : List (Nm × OO))) x) v_ → u_ = v_ := by
  intro u_ v_ h h2_
  obtain l := u_
  obtain l' := v_
  simp [nz_lit, nz1_lit, nz_agg, nz_sl, nz1_sl, nz_sx, nz_el, nz1_el, nz_own, nz1_own, nz_ptr, nz_fn, nz_iface] at h h2_
  first | (simp [h, h2_]; done) | (obtain ⟨h3_, h4_⟩ := List.append_inj h2_ h.1; simp_all; done) | simp_all | grind
@[simp] theorem c10_fn (l : List Int) : c10.fn ([(.sl false 1 (.lit (.int .u8 0)) (ML dU l))]) ([]) = some (l.length ≤ 2097152, (fun x : List TFind × TFind => (.tup [.sl false 8 yTFind (ML encTFind x.1), encTFind x.2] : D)) (v10 l), (fun x : List TFind × TFind => ([] : List (Nm × OO))) (v10 l)) :=
  mkCon_fn c10_inj (l : (List Int)) rfl rfl
theorem c10_ok : c10.ok Try.prog := mkCon_ok fun l hpre => (q10_sp l hpre).2
/-- loop.example/g03007/spec.DrawFoundIn -/
theorem c16_ex (l : List Int) (hp : l.length ≤ 2097152) : ∃ x_ : List TFind × TSpan, (fun x : List TFind × TSpan => x.1.length ≤ 7) x_ ∧ PCo Try.prog 16 [encLU l] (Tab.of []) ((fun x : List TFind × TSpan => (.tup [.sl false 8 yTFind (ML encTFind x.1), encTSpan x.2] : D)) x_) (Tab.of ((fun x : List TFind × TSpan => ([] : List (Nm × OO))) x_)) := by
  refine pco_ex_of_run (fun x : List TFind × TSpan => x.1.length ≤ 7) (fun x : List TFind × TSpan => (.tup [.sl false 8 yTFind (ML encTFind x.1), encTSpan x.2] : D)) (fun x : List TFind × TSpan => ([] : List (Nm × OO))) [] (E := ⟨[c68, c69, c81], [], []⟩) (m := false) (base := 0) (Env.ok_cons c68_ok (Env.ok_cons c69_ok (Env.ok_cons c81_ok Env.ok_nil))) G_ok mix 300 6 Try.func16 (by kernel_rfl) rfl (by kernel_rfl) (by kernel_rfl) (by kernel_rfl) rfl ?_
  simp [Try.f16, hp]
  have hk := v68_ok l hp
  have hl := v69_ok _ hk trivial
  simp [hk]
  repeat' (with_reducible first | apply and_rev | apply Exists.intro (⟨?_, ?_⟩ : TSpan) | apply Exists.intro | intro _)
  all_goals try dsimp only
  all_goals try with_reducible rfl
  all_goals try rfl
  all_goals (first | done | omega | assumption | exact List.length_pos_iff.2 (by assumption) | (simp [*]; done) | (simp [*]; omega) | (simp [*, below_eq]; done) | (simp [*, below_eq]; omega) | (simp only [below_eq, Int.reduceLT]; omega) | trace_state)
open Classical in
noncomputable def q16 (l : List Int) : List TFind × TSpan := if h : l.length ≤ 2097152 then Classical.choose (c16_ex l h) else default
theorem q16_sp (l : List Int) (hp : l.length ≤ 2097152) : (fun x : List TFind × TSpan => x.1.length ≤ 7) (q16 l) ∧ PCo Try.prog 16 [encLU l] (Tab.of []) ((fun x : List TFind × TSpan => (.tup [.sl false 8 yTFind (ML encTFind x.1), encTSpan x.2] : D)) (q16 l)) (Tab.of ((fun x : List TFind × TSpan => ([] : List (Nm × OO))) (q16 l))) := by
  have e : q16 l = Classical.choose (c16_ex l hp) := by rw [q16, dif_pos hp]
  rw [e]
  exact Classical.choose_spec (c16_ex l hp)
noncomputable def v16 (l : List Int) : List TFind × TSpan := q16 l
theorem v16_ok (l : List Int) (hp : l.length ≤ 2097152) : (fun x : List TFind × TSpan => x.1.length ≤ 7) (v16 l) := (q16_sp l hp).1
noncomputable def c16 : Con := mkCon 16 false (α := (List Int)) (fun x => (fun (l : List Int) => ([encLU l] : List D)) x) (fun x => (fun (l : List Int) => ([] : List (Nm × OO))) x) (fun x => (fun (l : List Int) => l.length ≤ 2097152) x) (fun x => (fun (l : List Int) => (fun x : List TFind × TSpan => (.tup [.sl false 8 yTFind (ML encTFind x.1), encTSpan x.2] : D)) (v16 l)) x) (fun x => (fun (l : List Int) => (fun x : List TFind × TSpan => ([] : List (Nm × OO))) (v16 l)) x)
@[simp] theorem c16_f : c16.f = 16 := rfl
@[simp] theorem c16_own : c16.own = false := rfl
theorem c16_inj : ∀ u_ v_ : (List Int), ((fun x => (fun (l : List Int) => ([encLU l] : List D)) x) u_).map nz = ((fun x => (fun (l : List Int) => ([encLU l] : List D)) x) v_).map nz → (fun x => (fun (l : List Int) => ([] : List (Nm × OO))) x) u_ = (fun x => (fun (l : List Int) => ([] : List (Nm × OO))) x) v_ → u_ = v_ := by
  intro u_ v_ h h2_
  obtain l := u_
  obtain l' := v_
  simp [nz_lit, nz1_lit, nz_agg, nz_sl, nz1_sl, nz_sx, nz_el, nz1_el, nz_own, nz1_own, nz_ptr, nz_fn, nz_iface] at h h2_
  first | (simp [h, h2_]; done) | (obtain ⟨h3_, h4_⟩ := List.append_inj h2_ h.1; simp_all; done) | simp_all | grind
@[simp] theorem c16_fn (l : List Int) : c16.fn ([(.sl false 1 (.lit (.int .u8 0)) (ML dU l))]) ([]) = some (l.length ≤ 2097152, (fun x : List TFind × TSpan => (.tup [.sl false 8 yTFind (ML encTFind x.1), encTSpan x.2] : D)) (v16 l), (fun x : List TFind × TSpan => ([] : List (Nm × OO))) (v16 l)) :=
  mkCon_fn c16_inj (l : (List Int)) rfl rfl
theorem c16_ok : c16.ok Try.prog := mkCon_ok fun l hpre => (q16_sp l hpre).2
/-- loop.example/g03007/spec.DrawFoundAt -/
theorem c19_ex (l : List Int) (hp : l.length ≤ 2097152) : ∃ x_ : List TFind × Int, (fun x : List TFind × Int => x.1.length ≤ 7) x_ ∧ PCo Try.prog 19 [encLU l] (Tab.of []) ((fun x : List TFind × Int => (.tup [.sl false 8 yTFind (ML encTFind x.1), dI x.2] : D)) x_) (Tab.of ((fun x : List TFind × Int => ([] : List (Nm × OO))) x_)) := by
  refine pco_ex_of_run (fun x : List TFind × Int => x.1.length ≤ 7) (fun x : List TFind × Int => (.tup [.sl false 8 yTFind (ML encTFind x.1), dI x.2] : D)) (fun x : List TFind × Int => ([] : List (Nm × OO))) [] (E := ⟨[c68, c69, c72], [], []⟩) (m := false) (base := 0) (Env.ok_cons c68_ok (Env.ok_cons c69_ok (Env.ok_cons c72_ok Env.ok_nil))) G_ok mix 300 6 Try.func19 (by kernel_rfl) rfl (by kernel_rfl) (by kernel_rfl) (by kernel_rfl) rfl ?_
  simp [Try.f19, hp]
  have hk := v68_ok l hp
  have hl := v69_ok _ hk trivial
  simp [hk]
  repeat' (with_reducible first | apply and_rev | apply Exists.intro | intro _)
  all_goals try dsimp only
  all_goals try with_reducible rfl
  all_goals try rfl
  all_goals (first | done | omega | assumption | exact List.length_pos_iff.2 (by assumption) | (simp [*]; done) | (simp [*]; omega) | (simp [*, below_eq]; done) | (simp [*, below_eq]; omega) | (simp only [below_eq, Int.reduceLT]; omega) | trace_state)
open Classical in
noncomputable def q19 (l : List Int) : List TFind × Int := if h : l.length ≤ 2097152 then Classical.choose (c19_ex l h) else default
theorem q19_sp (l : List Int) (hp : l.length ≤ 2097152) : (fun x : List TFind × Int => x.1.length ≤ 7) (q19 l) ∧ PCo Try.prog 19 [encLU l] (Tab.of []) ((fun x : List TFind × Int => (.tup [.sl false 8 yTFind (ML encTFind x.1), dI x.2] : D)) (q19 l)) (Tab.of ((fun x : List TFind × Int => ([] : List (Nm × OO))) (q19 l))) := by
  have e : q19 l = Classical.choose (c19_ex l hp) := by rw [q19, dif_pos hp]
  rw [e]
  exact Classical.choose_spec (c19_ex l hp)
noncomputable def v19 (l : List Int) : List TFind × Int := q19 l
theorem v19_ok (l : List Int) (hp : l.length ≤ 2097152) : (fun x : List TFind × Int => x.1.length ≤ 7) (v19 l) := (q19_sp l hp).1
noncomputable def c19 : Con := mkCon 19 false (α := (List Int)) (fun x => (fun (l : List Int) => ([encLU l] : List D)) x) (fun x => (fun (l : List Int) => ([] : List (Nm × OO))) x) (fun x => (fun (l : List Int) => l.length ≤ 2097152) x) (fun x => (fun (l : List Int) => (fun x : List TFind × Int => (.tup [.sl false 8 yTFind (ML encTFind x.1), dI x.2] : D)) (v19 l)) x) (fun x => (fun (l : List Int) => (fun x : List TFind × Int => ([] : List (Nm × OO))) (v19 l)) x)
@[simp] theorem c19_f : c19.f = 19 := rfl
@[simp] theorem c19_own : c19.own = false := rfl
theorem c19_inj : ∀ u_ v_ : (List Int), ((fun x => (fun (l : List Int) => ([encLU l] : List D)) x) u_).map nz = ((fun x => (fun (l : List Int) => ([encLU l] : List D)) x) v_).map nz → (fun x => (fun (l : List Int) => ([] : List (Nm × OO))) x) u_ = (fun x => (fun (l : List Int) => ([] : List (Nm × OO))) x) v_ → u_ = v_ := by
  intro u_ v_ h h2_
  obtain l := u_
  obtain l' := v_
  simp [nz_lit, nz1_lit, nz_agg, nz_sl, nz1_sl, nz_sx, nz_el, nz1_el, nz_own, nz1_own, nz_ptr, nz_fn, nz_iface] at h h2_
  first | (simp [h, h2_]; done) | (obtain ⟨h3_, h4_⟩ := List.append_inj h2_ h.1; simp_all; done) | simp_all | grind
@[simp] theorem c19_fn (l : List Int) : c19.fn ([(.sl false 1 (.lit (.int .u8 0)) (ML dU l))]) ([]) = some (l.length ≤ 2097152, (fun x : List TFind × Int => (.tup [.sl false 8 yTFind (ML encTFind x.1), dI x.2] : D)) (v19 l), (fun x : List TFind × Int => ([] : List (Nm × OO))) (v19 l)) :=
  mkCon_fn c19_inj (l : (List Int)) rfl rfl
theorem c19_ok : c19.ok Try.prog := mkCon_ok fun l hpre => (q19_sp l hpre).2

end Go.Proofs.Ytpnfkjbnhholfaa
