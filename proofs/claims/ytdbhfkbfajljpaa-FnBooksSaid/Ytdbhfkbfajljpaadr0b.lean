/- Contracts of the functions that the laws run. -/
import Derived.Test.YtdbhfkbfajljpaaEngB
import Derived.Test.YtdbhfkbfajljpaaEngB
import Derived.Test.Ytdbhfkbfajljpaadr0
import Derived.Test.YtdbhfkbfajljpaaEngB
namespace Go.Proofs.Ytdbhfkbfajljpaa
open Go Go.Eng
set_option linter.unusedSimpArgs false
set_option linter.unusedVariables false
set_option maxRecDepth 10000
set_option maxHeartbeats 1000000
/-- loop.example/g03007/spec.l1Int -/
theorem c41f_ex (c : TL1Cur) (l : List Int) (hc : okCu c) (hp : 0 < l.length ∧ l.length ≤ 1099511627776) : ∃ x_ : (Int) × TL1Cur, (fun x_ : (Int) × TL1Cur => okCu x_.2 ∧ (fun x : Int => x ∈ l) x_.1) x_ ∧ PCo Try.prog 41 [.ptr (0, 0) 0, .own (1, 0) 1 0 l.length] (Tab.of [((0, 0), .box (encTL1Cur c)), ((1, 0), .arr false 1 (dI 0) (ML dI l))]) ((fun x_ : (Int) × TL1Cur => (fun x : Int => (dI x : D)) x_.1) x_) (Tab.of ((fun x_ : (Int) × TL1Cur => (((0, 0), .box (encTL1Cur x_.2)) :: (fun x : Int => ([((1, 0), .arr false 1 (dI 0) (ML dI l))] : List (Nm × OO))) x_.1)) x_)) := by
  refine pco_ex_of_run (fun x_ : (Int) × TL1Cur => okCu x_.2 ∧ (fun x : Int => x ∈ l) x_.1) (fun x_ : (Int) × TL1Cur => (fun x : Int => (dI x : D)) x_.1) (fun x_ : (Int) × TL1Cur => (((0, 0), .box (encTL1Cur x_.2)) :: (fun x : Int => ([((1, 0), .arr false 1 (dI 0) (ML dI l))] : List (Nm × OO))) x_.1)) [] (E := ⟨[c32], [], []⟩) (m := false) (base := 0) (Env.ok_cons c32_ok Env.ok_nil) G_ok mix 300 6 Try.func41 (by kernel_rfl) rfl (by kernel_rfl) (by kernel_rfl) (by kernel_rfl) rfl ?_
  simp [Try.f41, hc, hp]
  have hb := v32_ok c l.length hc trivial (by omega)
  have hm : l[(v32 c l.length).toNat]?.getD 0 ∈ l := getD_mem (by omega)
  repeat' (with_reducible first | apply and_rev | apply Exists.intro | intro _)
  all_goals try dsimp only
  all_goals try with_reducible rfl
  all_goals try rfl
  all_goals (first | done | omega | assumption | exact List.length_pos_iff.2 (by assumption) | (simp [*]; done) | (simp [*]; omega) | (simp [*, below_eq]; done) | (simp [*, below_eq]; omega) | (simp only [below_eq, Int.reduceLT]; omega) | trace_state)
open Classical in
noncomputable def q41f (c : TL1Cur) (l : List Int) : (Int) × TL1Cur := if h : okCu c ∧ 0 < l.length ∧ l.length ≤ 1099511627776 then Classical.choose (c41f_ex c l h.1 h.2) else (default, ⟨[], 0, 0⟩)
theorem q41f_sp (c : TL1Cur) (l : List Int) (hc : okCu c) (hp : 0 < l.length ∧ l.length ≤ 1099511627776) : (fun x_ : (Int) × TL1Cur => okCu x_.2 ∧ (fun x : Int => x ∈ l) x_.1) (q41f c l) ∧ PCo Try.prog 41 [.ptr (0, 0) 0, .own (1, 0) 1 0 l.length] (Tab.of [((0, 0), .box (encTL1Cur c)), ((1, 0), .arr false 1 (dI 0) (ML dI l))]) ((fun x_ : (Int) × TL1Cur => (fun x : Int => (dI x : D)) x_.1) (q41f c l)) (Tab.of ((fun x_ : (Int) × TL1Cur => (((0, 0), .box (encTL1Cur x_.2)) :: (fun x : Int => ([((1, 0), .arr false 1 (dI 0) (ML dI l))] : List (Nm × OO))) x_.1)) (q41f c l))) := by
  have e : q41f c l = Classical.choose (c41f_ex c l hc hp) := by rw [q41f, dif_pos ⟨hc, hp⟩]
  rw [e]
  exact Classical.choose_spec (c41f_ex c l hc hp)
noncomputable def v41f (c : TL1Cur) (l : List Int) : Int := (q41f c l).1
noncomputable def n41f (c : TL1Cur) (l : List Int) : TL1Cur := (q41f c l).2
open Classical in
@[simp] theorem n41f_ok (c : TL1Cur) (l : List Int) : okCu (n41f c l) := by
  by_cases h : okCu c ∧ 0 < l.length ∧ l.length ≤ 1099511627776
  · exact (q41f_sp c l h.1 h.2).1.1
  · rw [n41f, q41f, dif_neg h]; exact ⟨by simp, by simp, by simp⟩
theorem v41f_ok (c : TL1Cur) (l : List Int) (hc : okCu c) (hp : 0 < l.length ∧ l.length ≤ 1099511627776) : (fun x : Int => x ∈ l) (v41f c l) := (q41f_sp c l hc hp).1.2
noncomputable def c41f : Con := mkCon 41 true (α := TL1Cur × (List Int)) (fun x => (fun (c : TL1Cur) (l : List Int) => ([.ptr (0, 0) 0, .own (1, 0) 1 0 l.length] : List D)) x.1 x.2) (fun x => (fun (c : TL1Cur) (l : List Int) => ([((0, 0), .box (encTL1Cur c)), ((1, 0), .arr false 1 (dI 0) (ML dI l))] : List (Nm × OO))) x.1 x.2) (fun x => (fun (c : TL1Cur) (l : List Int) => okCu c ∧ 0 < l.length ∧ l.length ≤ 1099511627776) x.1 x.2) (fun x => (fun (c : TL1Cur) (l : List Int) => (fun x : Int => (dI x : D)) (v41f c l)) x.1 x.2) (fun x => (fun (c : TL1Cur) (l : List Int) => (((0, 0), .box (encTL1Cur (n41f c l))) :: (fun x : Int => ([((1, 0), .arr false 1 (dI 0) (ML dI l))] : List (Nm × OO))) (v41f c l))) x.1 x.2)
@[simp] theorem c41f_f : c41f.f = 41 := rfl
@[simp] theorem c41f_own : c41f.own = true := rfl
theorem c41f_inj : ∀ u_ v_ : TL1Cur × (List Int), ((fun x => (fun (c : TL1Cur) (l : List Int) => ([.ptr (0, 0) 0, .own (1, 0) 1 0 l.length] : List D)) x.1 x.2) u_).map nz = ((fun x => (fun (c : TL1Cur) (l : List Int) => ([.ptr (0, 0) 0, .own (1, 0) 1 0 l.length] : List D)) x.1 x.2) v_).map nz → (fun x => (fun (c : TL1Cur) (l : List Int) => ([((0, 0), .box (encTL1Cur c)), ((1, 0), .arr false 1 (dI 0) (ML dI l))] : List (Nm × OO))) x.1 x.2) u_ = (fun x => (fun (c : TL1Cur) (l : List Int) => ([((0, 0), .box (encTL1Cur c)), ((1, 0), .arr false 1 (dI 0) (ML dI l))] : List (Nm × OO))) x.1 x.2) v_ → u_ = v_ := by
  intro u_ v_ h h2_
  obtain ⟨⟨c_b_, c_i_, c_h_⟩, l⟩ := u_
  obtain ⟨⟨c_b_', c_i_', c_h_'⟩, l'⟩ := v_
  simp [nz_lit, nz1_lit, nz_agg, nz_sl, nz1_sl, nz_sx, nz_el, nz1_el, nz_own, nz1_own, nz_ptr, nz_fn, nz_iface] at h h2_
  first | (simp [h, h2_]; done) | (obtain ⟨h3_, h4_⟩ := List.append_inj h2_ h.1; simp_all; done) | simp_all | grind
@[simp] theorem c41f_fn (c : TL1Cur) (l : List Int) : c41f.fn ([.ptr (0, 0) 0, .own (1, 0) 1 0 l.length]) ([((0, 0), .box (.agg [.sl false 1 (.lit (.int .u8 0)) (ML dU c.b_), .lit (.int .i64 c.i_), .lit (.int .i64 c.h_)])), ((1, 0), .arr false 1 (.lit (.int .i64 0)) (ML dI l))]) = some (okCu c ∧ 0 < l.length ∧ l.length ≤ 1099511627776, (fun x : Int => (dI x : D)) (v41f c l), (((0, 0), .box (encTL1Cur (n41f c l))) :: (fun x : Int => ([((1, 0), .arr false 1 (dI 0) (ML dI l))] : List (Nm × OO))) (v41f c l))) :=
  mkCon_fn c41f_inj ((c, l) : TL1Cur × (List Int)) rfl rfl
theorem c41f_ok : c41f.ok Try.prog := mkCon_ok fun ⟨c, l⟩ hpre => (q41f_sp c l hpre.1 hpre.2).2
@[simp] theorem l1Int_fb2 (c : TL1Cur) (a0 a1 : Int) : c41f.fn [.ptr (0, 0) 0, .own (1, 0) 1 0 2] [((0, 0), .box (.agg [.sl false 1 (.lit (.int .u8 0)) (ML dU c.b_), .lit (.int .i64 c.i_), .lit (.int .i64 c.h_)])), ((1, 0), .arr false 1 (.lit (.int .i64 0)) [.lit (.int .i64 a0), .lit (.int .i64 a1)])] = some (okCu c ∧ 0 < ([a0, a1] : List Int).length ∧ ([a0, a1] : List Int).length ≤ 1099511627776, dI (v41f c [a0, a1]), [((0, 0), .box (encTL1Cur (n41f c [a0, a1]))), ((1, 0), .arr false 1 (dI 0) (ML dI [a0, a1]))]) := c41f_fn c [a0, a1]
@[simp] theorem l1Int_fb3 (c : TL1Cur) (a0 a1 a2 : Int) : c41f.fn [.ptr (0, 0) 0, .own (1, 0) 1 0 3] [((0, 0), .box (.agg [.sl false 1 (.lit (.int .u8 0)) (ML dU c.b_), .lit (.int .i64 c.i_), .lit (.int .i64 c.h_)])), ((1, 0), .arr false 1 (.lit (.int .i64 0)) [.lit (.int .i64 a0), .lit (.int .i64 a1), .lit (.int .i64 a2)])] = some (okCu c ∧ 0 < ([a0, a1, a2] : List Int).length ∧ ([a0, a1, a2] : List Int).length ≤ 1099511627776, dI (v41f c [a0, a1, a2]), [((0, 0), .box (encTL1Cur (n41f c [a0, a1, a2]))), ((1, 0), .arr false 1 (dI 0) (ML dI [a0, a1, a2]))]) := c41f_fn c [a0, a1, a2]
@[simp] theorem l1Int_fb4 (c : TL1Cur) (a0 a1 a2 a3 : Int) : c41f.fn [.ptr (0, 0) 0, .own (1, 0) 1 0 4] [((0, 0), .box (.agg [.sl false 1 (.lit (.int .u8 0)) (ML dU c.b_), .lit (.int .i64 c.i_), .lit (.int .i64 c.h_)])), ((1, 0), .arr false 1 (.lit (.int .i64 0)) [.lit (.int .i64 a0), .lit (.int .i64 a1), .lit (.int .i64 a2), .lit (.int .i64 a3)])] = some (okCu c ∧ 0 < ([a0, a1, a2, a3] : List Int).length ∧ ([a0, a1, a2, a3] : List Int).length ≤ 1099511627776, dI (v41f c [a0, a1, a2, a3]), [((0, 0), .box (encTL1Cur (n41f c [a0, a1, a2, a3]))), ((1, 0), .arr false 1 (dI 0) (ML dI [a0, a1, a2, a3]))]) := c41f_fn c [a0, a1, a2, a3]
@[simp] theorem l1Int_fb5 (c : TL1Cur) (a0 a1 a2 a3 a4 : Int) : c41f.fn [.ptr (0, 0) 0, .own (1, 0) 1 0 5] [((0, 0), .box (.agg [.sl false 1 (.lit (.int .u8 0)) (ML dU c.b_), .lit (.int .i64 c.i_), .lit (.int .i64 c.h_)])), ((1, 0), .arr false 1 (.lit (.int .i64 0)) [.lit (.int .i64 a0), .lit (.int .i64 a1), .lit (.int .i64 a2), .lit (.int .i64 a3), .lit (.int .i64 a4)])] = some (okCu c ∧ 0 < ([a0, a1, a2, a3, a4] : List Int).length ∧ ([a0, a1, a2, a3, a4] : List Int).length ≤ 1099511627776, dI (v41f c [a0, a1, a2, a3, a4]), [((0, 0), .box (encTL1Cur (n41f c [a0, a1, a2, a3, a4]))), ((1, 0), .arr false 1 (dI 0) (ML dI [a0, a1, a2, a3, a4]))]) := c41f_fn c [a0, a1, a2, a3, a4]
@[simp] theorem l1Int_fb6 (c : TL1Cur) (a0 a1 a2 a3 a4 a5 : Int) : c41f.fn [.ptr (0, 0) 0, .own (1, 0) 1 0 6] [((0, 0), .box (.agg [.sl false 1 (.lit (.int .u8 0)) (ML dU c.b_), .lit (.int .i64 c.i_), .lit (.int .i64 c.h_)])), ((1, 0), .arr false 1 (.lit (.int .i64 0)) [.lit (.int .i64 a0), .lit (.int .i64 a1), .lit (.int .i64 a2), .lit (.int .i64 a3), .lit (.int .i64 a4), .lit (.int .i64 a5)])] = some (okCu c ∧ 0 < ([a0, a1, a2, a3, a4, a5] : List Int).length ∧ ([a0, a1, a2, a3, a4, a5] : List Int).length ≤ 1099511627776, dI (v41f c [a0, a1, a2, a3, a4, a5]), [((0, 0), .box (encTL1Cur (n41f c [a0, a1, a2, a3, a4, a5]))), ((1, 0), .arr false 1 (dI 0) (ML dI [a0, a1, a2, a3, a4, a5]))]) := c41f_fn c [a0, a1, a2, a3, a4, a5]
@[simp] theorem l1Int_fb7 (c : TL1Cur) (a0 a1 a2 a3 a4 a5 a6 : Int) : c41f.fn [.ptr (0, 0) 0, .own (1, 0) 1 0 7] [((0, 0), .box (.agg [.sl false 1 (.lit (.int .u8 0)) (ML dU c.b_), .lit (.int .i64 c.i_), .lit (.int .i64 c.h_)])), ((1, 0), .arr false 1 (.lit (.int .i64 0)) [.lit (.int .i64 a0), .lit (.int .i64 a1), .lit (.int .i64 a2), .lit (.int .i64 a3), .lit (.int .i64 a4), .lit (.int .i64 a5), .lit (.int .i64 a6)])] = some (okCu c ∧ 0 < ([a0, a1, a2, a3, a4, a5, a6] : List Int).length ∧ ([a0, a1, a2, a3, a4, a5, a6] : List Int).length ≤ 1099511627776, dI (v41f c [a0, a1, a2, a3, a4, a5, a6]), [((0, 0), .box (encTL1Cur (n41f c [a0, a1, a2, a3, a4, a5, a6]))), ((1, 0), .arr false 1 (dI 0) (ML dI [a0, a1, a2, a3, a4, a5, a6]))]) := c41f_fn c [a0, a1, a2, a3, a4, a5, a6]
@[simp] theorem l1Int_fb8 (c : TL1Cur) (a0 a1 a2 a3 a4 a5 a6 a7 : Int) : c41f.fn [.ptr (0, 0) 0, .own (1, 0) 1 0 8] [((0, 0), .box (.agg [.sl false 1 (.lit (.int .u8 0)) (ML dU c.b_), .lit (.int .i64 c.i_), .lit (.int .i64 c.h_)])), ((1, 0), .arr false 1 (.lit (.int .i64 0)) [.lit (.int .i64 a0), .lit (.int .i64 a1), .lit (.int .i64 a2), .lit (.int .i64 a3), .lit (.int .i64 a4), .lit (.int .i64 a5), .lit (.int .i64 a6), .lit (.int .i64 a7)])] = some (okCu c ∧ 0 < ([a0, a1, a2, a3, a4, a5, a6, a7] : List Int).length ∧ ([a0, a1, a2, a3, a4, a5, a6, a7] : List Int).length ≤ 1099511627776, dI (v41f c [a0, a1, a2, a3, a4, a5, a6, a7]), [((0, 0), .box (encTL1Cur (n41f c [a0, a1, a2, a3, a4, a5, a6, a7]))), ((1, 0), .arr false 1 (dI 0) (ML dI [a0, a1, a2, a3, a4, a5, a6, a7]))]) := c41f_fn c [a0, a1, a2, a3, a4, a5, a6, a7]
/-- loop.example/g03007/spec.l1Byte -/
theorem c52f_ex (c : TL1Cur) (hc : okCu c) (hp : True) : ∃ x_ : (Int) × TL1Cur, (fun x_ : (Int) × TL1Cur => okCu x_.2 ∧ (fun x : Int => 0 ≤ x ∧ x ≤ 255) x_.1) x_ ∧ PCo Try.prog 52 [.ptr (0, 0) 0] (Tab.of [((0, 0), .box (encTL1Cur c))]) ((fun x_ : (Int) × TL1Cur => (fun x : Int => (dI x : D)) x_.1) x_) (Tab.of ((fun x_ : (Int) × TL1Cur => (((0, 0), .box (encTL1Cur x_.2)) :: (fun x : Int => ([] : List (Nm × OO))) x_.1)) x_)) := by
  exact ⟨(val c, stp c), ⟨okCu_stp hc, val_bd c⟩, c52_pc c hc⟩
open Classical in
noncomputable def q52f (c : TL1Cur) : (Int) × TL1Cur := if h : okCu c ∧ True then Classical.choose (c52f_ex c  h.1 h.2) else (default, ⟨[], 0, 0⟩)
theorem q52f_sp (c : TL1Cur) (hc : okCu c) (hp : True) : (fun x_ : (Int) × TL1Cur => okCu x_.2 ∧ (fun x : Int => 0 ≤ x ∧ x ≤ 255) x_.1) (q52f c ) ∧ PCo Try.prog 52 [.ptr (0, 0) 0] (Tab.of [((0, 0), .box (encTL1Cur c))]) ((fun x_ : (Int) × TL1Cur => (fun x : Int => (dI x : D)) x_.1) (q52f c )) (Tab.of ((fun x_ : (Int) × TL1Cur => (((0, 0), .box (encTL1Cur x_.2)) :: (fun x : Int => ([] : List (Nm × OO))) x_.1)) (q52f c ))) := by
  have e : q52f c  = Classical.choose (c52f_ex c  hc hp) := by rw [q52f, dif_pos ⟨hc, hp⟩]
  rw [e]
  exact Classical.choose_spec (c52f_ex c  hc hp)
noncomputable def v52f (c : TL1Cur) : Int := (q52f c ).1
noncomputable def n52f (c : TL1Cur) : TL1Cur := (q52f c ).2
open Classical in
@[simp] theorem n52f_ok (c : TL1Cur) : okCu (n52f c ) := by
  by_cases h : okCu c ∧ True
  · exact (q52f_sp c  h.1 h.2).1.1
  · rw [n52f, q52f, dif_neg h]; exact ⟨by simp, by simp, by simp⟩
theorem v52f_ok (c : TL1Cur) (hc : okCu c) (hp : True) : (fun x : Int => 0 ≤ x ∧ x ≤ 255) (v52f c ) := (q52f_sp c  hc hp).1.2
noncomputable def c52f : Con := mkCon 52 true (α := TL1Cur) (fun x => (fun (c : TL1Cur) => ([.ptr (0, 0) 0] : List D)) x) (fun x => (fun (c : TL1Cur) => ([((0, 0), .box (encTL1Cur c))] : List (Nm × OO))) x) (fun x => (fun (c : TL1Cur) => okCu c ∧ True) x) (fun x => (fun (c : TL1Cur) => (fun x : Int => (dI x : D)) (v52f c )) x) (fun x => (fun (c : TL1Cur) => (((0, 0), .box (encTL1Cur (n52f c ))) :: (fun x : Int => ([] : List (Nm × OO))) (v52f c ))) x)
@[simp] theorem c52f_f : c52f.f = 52 := rfl
@[simp] theorem c52f_own : c52f.own = true := rfl
theorem c52f_inj : ∀ u_ v_ : TL1Cur, ((fun x => (fun (c : TL1Cur) => ([.ptr (0, 0) 0] : List D)) x) u_).map nz = ((fun x => (fun (c : TL1Cur) => ([.ptr (0, 0) 0] : List D)) x) v_).map nz → (fun x => (fun (c : TL1Cur) => ([((0, 0), .box (encTL1Cur c))] : List (Nm × OO))) x) u_ = (fun x => (fun (c : TL1Cur) => ([((0, 0), .box (encTL1Cur c))] : List (Nm × OO))) x) v_ → u_ = v_ := by
  intro u_ v_ h h2_
  obtain ⟨c_b_, c_i_, c_h_⟩ := u_
  obtain ⟨c_b_', c_i_', c_h_'⟩ := v_
  simp [nz_lit, nz1_lit, nz_agg, nz_sl, nz1_sl, nz_sx, nz_el, nz1_el, nz_own, nz1_own, nz_ptr, nz_fn, nz_iface] at h h2_
  first | (simp [h, h2_]; done) | (obtain ⟨h3_, h4_⟩ := List.append_inj h2_ h.1; simp_all; done) | simp_all | grind
@[simp] theorem c52f_fn (c : TL1Cur) : c52f.fn ([.ptr (0, 0) 0]) ([((0, 0), .box (.agg [.sl false 1 (.lit (.int .u8 0)) (ML dU c.b_), .lit (.int .i64 c.i_), .lit (.int .i64 c.h_)]))]) = some (okCu c ∧ True, (fun x : Int => (dI x : D)) (v52f c ), (((0, 0), .box (encTL1Cur (n52f c ))) :: (fun x : Int => ([] : List (Nm × OO))) (v52f c ))) :=
  mkCon_fn c52f_inj (c : TL1Cur) rfl rfl
theorem c52f_ok : c52f.ok Try.prog := mkCon_ok fun c hpre => (q52f_sp c  hpre.1 hpre.2).2
def okBy (l : List Int) : Prop := ∀ y ∈ l, 0 ≤ y ∧ y ≤ 255
theorem okBy_nil : okBy [] := by simp [okBy]
theorem u8_bd (x : Int) : 0 ≤ IntKind.wrap .u8 x ∧ IntKind.wrap .u8 x ≤ 255 := by
  simp [IntKind.wrap, IntKind.signed, IntKind.bits]; omega
theorem okBy_snoc {l : List Int} {x : Int} (h : okBy l) (hx : 0 ≤ x ∧ x ≤ 255) : okBy (l ++ [x]) := by
  intro y hy
  rcases List.mem_append.1 hy with hy | hy
  · exact h y hy
  · simp at hy; rw [hy]; exact hx
/-- loop.example/g03007/spec.l1Bytes -/
theorem c31_ex (c : TL1Cur) (n : Int) (hc : okCu c) (hp : n ≤ 1000) : ∃ x_ : (List Int) × TL1Cur, (fun x_ : (List Int) × TL1Cur => okCu x_.2 ∧ (fun x : List Int => x.length ≤ n.toNat ∧ okBy x) x_.1) x_ ∧ PCo Try.prog 31 [.ptr (0, 0) 0, dI n] (Tab.of [((0, 0), .box (encTL1Cur c))]) ((fun x_ : (List Int) × TL1Cur => (fun x : List Int => (encLU x : D)) x_.1) x_) (Tab.of ((fun x_ : (List Int) × TL1Cur => (((0, 0), .box (encTL1Cur x_.2)) :: (fun x : List Int => ([] : List (Nm × OO))) x_.1)) x_)) := by
  refine pco_ex_of_run (fun x_ : (List Int) × TL1Cur => okCu x_.2 ∧ (fun x : List Int => x.length ≤ n.toNat ∧ okBy x) x_.1) (fun x_ : (List Int) × TL1Cur => (fun x : List Int => (encLU x : D)) x_.1) (fun x_ : (List Int) × TL1Cur => (((0, 0), .box (encTL1Cur x_.2)) :: (fun x : List Int => ([] : List (Nm × OO))) x_.1)) [] (E := ⟨[c52f], [], []⟩) (m := false) (base := 0) (Env.ok_cons c52f_ok Env.ok_nil) G_ok mix 300 6 Try.func31 (by kernel_rfl) rfl (by kernel_rfl) (by kernel_rfl) (by kernel_rfl) rfl ?_
  simp [Try.f31, hc, hp]
  refine loop_inv (fun p : Nat × List Int × TL1Cur => p.1 ≤ n.toNat ∧ p.2.1.length = p.1 ∧ okCu p.2.2 ∧ okBy p.2.1) (fun p => [(0, .ptr (0, 0) 0), (1, dI n), (5, .own (0, 1) 1 0 p.2.1.length), (6, dI p.1)]) (fun p => [((0, 0), .box (encTL1Cur p.2.2)), ((0, 1), .arr false 1 (dU 0) (ML dU p.2.1))]) 2 (fun p => n.toNat - p.1) (0, [], c) 400 (by simp) (by simp [hc, okBy_nil]) (by simp) ?_
  rintro ⟨p, l, d⟩ ⟨hpn, hl, hk, hall⟩
  simp only at hpn hl hk hall
  have happ : okBy (l ++ [IntKind.wrap .u8 (v52f d)]) := okBy_snoc hall (u8_bd _)
  simp [hk]
  refine ⟨fun h => ?_, fun h => ?_⟩
  · skip
    repeat' (with_reducible first | apply And.intro | intro _)
    all_goals try (first | omega | assumption | (simp; done) | (simp only [below_eq, Int.reduceLT]; omega))
    refine Again.mk (p + 1, l ++ [IntKind.wrap .u8 (v52f d)], ?_) ?hinv ?hle ?hmu
    case hle =>
      simp
      repeat' (with_reducible first | apply and_rev | intro _)
      all_goals try dsimp only
      all_goals try with_reducible rfl
      all_goals try rfl
      all_goals (first | done | omega | (simp [*]; done) | (simp; omega) | trace_state)
    case hinv => (simp [*]; try (first | done | omega | (repeat' (with_reducible apply And.intro)) <;> (first | omega | assumption | trace_state)))
    case hmu => (simp; try omega)
  · skip
    repeat' (with_reducible first | apply and_rev | apply Exists.intro | intro _)
    all_goals try dsimp only
    all_goals try with_reducible rfl
    all_goals try rfl
    all_goals (first | done | omega | assumption | exact List.length_pos_iff.2 (by assumption) | (simp [*]; done) | (simp [*]; omega) | (simp [*, below_eq]; done) | (simp [*, below_eq]; omega) | (simp only [below_eq, Int.reduceLT]; omega) | trace_state)
open Classical in
noncomputable def q31 (c : TL1Cur) (n : Int) : (List Int) × TL1Cur := if h : okCu c ∧ n ≤ 1000 then Classical.choose (c31_ex c n h.1 h.2) else (default, ⟨[], 0, 0⟩)
theorem q31_sp (c : TL1Cur) (n : Int) (hc : okCu c) (hp : n ≤ 1000) : (fun x_ : (List Int) × TL1Cur => okCu x_.2 ∧ (fun x : List Int => x.length ≤ n.toNat ∧ okBy x) x_.1) (q31 c n) ∧ PCo Try.prog 31 [.ptr (0, 0) 0, dI n] (Tab.of [((0, 0), .box (encTL1Cur c))]) ((fun x_ : (List Int) × TL1Cur => (fun x : List Int => (encLU x : D)) x_.1) (q31 c n)) (Tab.of ((fun x_ : (List Int) × TL1Cur => (((0, 0), .box (encTL1Cur x_.2)) :: (fun x : List Int => ([] : List (Nm × OO))) x_.1)) (q31 c n))) := by
  have e : q31 c n = Classical.choose (c31_ex c n hc hp) := by rw [q31, dif_pos ⟨hc, hp⟩]
  rw [e]
  exact Classical.choose_spec (c31_ex c n hc hp)
noncomputable def v31 (c : TL1Cur) (n : Int) : List Int := (q31 c n).1
noncomputable def n31 (c : TL1Cur) (n : Int) : TL1Cur := (q31 c n).2
open Classical in
@[simp] theorem n31_ok (c : TL1Cur) (n : Int) : okCu (n31 c n) := by
  by_cases h : okCu c ∧ n ≤ 1000
  · exact (q31_sp c n h.1 h.2).1.1
  · rw [n31, q31, dif_neg h]; exact ⟨by simp, by simp, by simp⟩
theorem v31_ok (c : TL1Cur) (n : Int) (hc : okCu c) (hp : n ≤ 1000) : (fun x : List Int => x.length ≤ n.toNat ∧ okBy x) (v31 c n) := (q31_sp c n hc hp).1.2
noncomputable def c31 : Con := mkCon 31 true (α := TL1Cur × Int) (fun x => (fun (c : TL1Cur) (n : Int) => ([.ptr (0, 0) 0, dI n] : List D)) x.1 x.2) (fun x => (fun (c : TL1Cur) (n : Int) => ([((0, 0), .box (encTL1Cur c))] : List (Nm × OO))) x.1 x.2) (fun x => (fun (c : TL1Cur) (n : Int) => okCu c ∧ n ≤ 1000) x.1 x.2) (fun x => (fun (c : TL1Cur) (n : Int) => (fun x : List Int => (encLU x : D)) (v31 c n)) x.1 x.2) (fun x => (fun (c : TL1Cur) (n : Int) => (((0, 0), .box (encTL1Cur (n31 c n))) :: (fun x : List Int => ([] : List (Nm × OO))) (v31 c n))) x.1 x.2)
@[simp] theorem c31_f : c31.f = 31 := rfl
@[simp] theorem c31_own : c31.own = true := rfl
theorem c31_inj : ∀ u_ v_ : TL1Cur × Int, ((fun x => (fun (c : TL1Cur) (n : Int) => ([.ptr (0, 0) 0, dI n] : List D)) x.1 x.2) u_).map nz = ((fun x => (fun (c : TL1Cur) (n : Int) => ([.ptr (0, 0) 0, dI n] : List D)) x.1 x.2) v_).map nz → (fun x => (fun (c : TL1Cur) (n : Int) => ([((0, 0), .box (encTL1Cur c))] : List (Nm × OO))) x.1 x.2) u_ = (fun x => (fun (c : TL1Cur) (n : Int) => ([((0, 0), .box (encTL1Cur c))] : List (Nm × OO))) x.1 x.2) v_ → u_ = v_ := by
  intro u_ v_ h h2_
  obtain ⟨⟨c_b_, c_i_, c_h_⟩, n⟩ := u_
  obtain ⟨⟨c_b_', c_i_', c_h_'⟩, n'⟩ := v_
  simp [nz_lit, nz1_lit, nz_agg, nz_sl, nz1_sl, nz_sx, nz_el, nz1_el, nz_own, nz1_own, nz_ptr, nz_fn, nz_iface] at h h2_
  first | (simp [h, h2_]; done) | (obtain ⟨h3_, h4_⟩ := List.append_inj h2_ h.1; simp_all; done) | simp_all | grind
@[simp] theorem c31_fn (c : TL1Cur) (n : Int) : c31.fn ([.ptr (0, 0) 0, .lit (.int .i64 n)]) ([((0, 0), .box (.agg [.sl false 1 (.lit (.int .u8 0)) (ML dU c.b_), .lit (.int .i64 c.i_), .lit (.int .i64 c.h_)]))]) = some (okCu c ∧ n ≤ 1000, (fun x : List Int => (encLU x : D)) (v31 c n), (((0, 0), .box (encTL1Cur (n31 c n))) :: (fun x : List Int => ([] : List (Nm × OO))) (v31 c n))) :=
  mkCon_fn c31_inj ((c, n) : TL1Cur × Int) rfl rfl
theorem c31_ok : c31.ok Try.prog := mkCon_ok fun ⟨c, n⟩ hpre => (q31_sp c n hpre.1 hpre.2).2
/-- loop.example/g03007/spec.l1Odd -/
theorem c64_ex (c : TL1Cur) (hc : okCu c) (hp : True) : ∃ x_ : (Int) × TL1Cur, (fun x_ : (Int) × TL1Cur => okCu x_.2 ∧ (fun x : Int => True) x_.1) x_ ∧ PCo Try.prog 64 [.ptr (0, 0) 0] (Tab.of [((0, 0), .box (encTL1Cur c))]) ((fun x_ : (Int) × TL1Cur => (fun x : Int => (dI x : D)) x_.1) x_) (Tab.of ((fun x_ : (Int) × TL1Cur => (((0, 0), .box (encTL1Cur x_.2)) :: (fun x : Int => ([] : List (Nm × OO))) x_.1)) x_)) := by
  refine pco_ex_of_run (fun x_ : (Int) × TL1Cur => okCu x_.2 ∧ (fun x : Int => True) x_.1) (fun x_ : (Int) × TL1Cur => (fun x : Int => (dI x : D)) x_.1) (fun x_ : (Int) × TL1Cur => (((0, 0), .box (encTL1Cur x_.2)) :: (fun x : Int => ([] : List (Nm × OO))) x_.1)) [] (E := ⟨[c41], [], []⟩) (m := false) (base := 1000000) (Env.ok_cons c41_ok Env.ok_nil) G_ok mix 300 6 Try.func64 (by kernel_rfl) rfl (by kernel_rfl) (by kernel_rfl) (by kernel_rfl) rfl ?_
  simp [Try.f64, hc]
  repeat' (with_reducible first | apply and_rev | apply Exists.intro | intro _)
  all_goals try dsimp only
  all_goals try with_reducible rfl
  all_goals try rfl
  all_goals (first | done | omega | assumption | exact List.length_pos_iff.2 (by assumption) | (simp [*]; done) | (simp [*]; omega) | (simp [*, below_eq]; done) | (simp [*, below_eq]; omega) | (simp only [below_eq, Int.reduceLT]; omega) | trace_state)
open Classical in
noncomputable def q64 (c : TL1Cur) : (Int) × TL1Cur := if h : okCu c ∧ True then Classical.choose (c64_ex c  h.1 h.2) else (default, ⟨[], 0, 0⟩)
theorem q64_sp (c : TL1Cur) (hc : okCu c) (hp : True) : (fun x_ : (Int) × TL1Cur => okCu x_.2 ∧ (fun x : Int => True) x_.1) (q64 c ) ∧ PCo Try.prog 64 [.ptr (0, 0) 0] (Tab.of [((0, 0), .box (encTL1Cur c))]) ((fun x_ : (Int) × TL1Cur => (fun x : Int => (dI x : D)) x_.1) (q64 c )) (Tab.of ((fun x_ : (Int) × TL1Cur => (((0, 0), .box (encTL1Cur x_.2)) :: (fun x : Int => ([] : List (Nm × OO))) x_.1)) (q64 c ))) := by
  have e : q64 c  = Classical.choose (c64_ex c  hc hp) := by rw [q64, dif_pos ⟨hc, hp⟩]
  rw [e]
  exact Classical.choose_spec (c64_ex c  hc hp)
noncomputable def v64 (c : TL1Cur) : Int := (q64 c ).1
noncomputable def n64 (c : TL1Cur) : TL1Cur := (q64 c ).2
open Classical in
@[simp] theorem n64_ok (c : TL1Cur) : okCu (n64 c ) := by
  by_cases h : okCu c ∧ True
  · exact (q64_sp c  h.1 h.2).1.1
  · rw [n64, q64, dif_neg h]; exact ⟨by simp, by simp, by simp⟩
theorem v64_ok (c : TL1Cur) (hc : okCu c) (hp : True) : (fun x : Int => True) (v64 c ) := (q64_sp c  hc hp).1.2
noncomputable def c64 : Con := mkCon 64 true (α := TL1Cur) (fun x => (fun (c : TL1Cur) => ([.ptr (0, 0) 0] : List D)) x) (fun x => (fun (c : TL1Cur) => ([((0, 0), .box (encTL1Cur c))] : List (Nm × OO))) x) (fun x => (fun (c : TL1Cur) => okCu c ∧ True) x) (fun x => (fun (c : TL1Cur) => (fun x : Int => (dI x : D)) (v64 c )) x) (fun x => (fun (c : TL1Cur) => (((0, 0), .box (encTL1Cur (n64 c ))) :: (fun x : Int => ([] : List (Nm × OO))) (v64 c ))) x)
@[simp] theorem c64_f : c64.f = 64 := rfl
@[simp] theorem c64_own : c64.own = true := rfl
theorem c64_inj : ∀ u_ v_ : TL1Cur, ((fun x => (fun (c : TL1Cur) => ([.ptr (0, 0) 0] : List D)) x) u_).map nz = ((fun x => (fun (c : TL1Cur) => ([.ptr (0, 0) 0] : List D)) x) v_).map nz → (fun x => (fun (c : TL1Cur) => ([((0, 0), .box (encTL1Cur c))] : List (Nm × OO))) x) u_ = (fun x => (fun (c : TL1Cur) => ([((0, 0), .box (encTL1Cur c))] : List (Nm × OO))) x) v_ → u_ = v_ := by
  intro u_ v_ h h2_
  obtain ⟨c_b_, c_i_, c_h_⟩ := u_
  obtain ⟨c_b_', c_i_', c_h_'⟩ := v_
  simp [nz_lit, nz1_lit, nz_agg, nz_sl, nz1_sl, nz_sx, nz_el, nz1_el, nz_own, nz1_own, nz_ptr, nz_fn, nz_iface] at h h2_
  first | (simp [h, h2_]; done) | (obtain ⟨h3_, h4_⟩ := List.append_inj h2_ h.1; simp_all; done) | simp_all | grind
@[simp] theorem c64_fn (c : TL1Cur) : c64.fn ([.ptr (0, 0) 0]) ([((0, 0), .box (.agg [.sl false 1 (.lit (.int .u8 0)) (ML dU c.b_), .lit (.int .i64 c.i_), .lit (.int .i64 c.h_)]))]) = some (okCu c ∧ True, (fun x : Int => (dI x : D)) (v64 c ), (((0, 0), .box (encTL1Cur (n64 c ))) :: (fun x : Int => ([] : List (Nm × OO))) (v64 c ))) :=
  mkCon_fn c64_inj (c : TL1Cur) rfl rfl
theorem c64_ok : c64.ok Try.prog := mkCon_ok fun c hpre => (q64_sp c  hpre.1 hpre.2).2
/-- loop.example/g03007/spec.l1Num -/
theorem c40_ex (c : TL1Cur) (hc : okCu c) (hp : True) : ∃ x_ : (Int) × TL1Cur, (fun x_ : (Int) × TL1Cur => okCu x_.2 ∧ (fun x : Int => True) x_.1) x_ ∧ PCo Try.prog 40 [.ptr (0, 0) 0] (Tab.of [((0, 0), .box (encTL1Cur c))]) ((fun x_ : (Int) × TL1Cur => (fun x : Int => (dI x : D)) x_.1) x_) (Tab.of ((fun x_ : (Int) × TL1Cur => (((0, 0), .box (encTL1Cur x_.2)) :: (fun x : Int => ([] : List (Nm × OO))) x_.1)) x_)) := by
  refine pco_ex_of_run (fun x_ : (Int) × TL1Cur => okCu x_.2 ∧ (fun x : Int => True) x_.1) (fun x_ : (Int) × TL1Cur => (fun x : Int => (dI x : D)) x_.1) (fun x_ : (Int) × TL1Cur => (((0, 0), .box (encTL1Cur x_.2)) :: (fun x : Int => ([] : List (Nm × OO))) x_.1)) [] (E := ⟨[c32, c41], [], []⟩) (m := false) (base := 1000000) (Env.ok_cons c32_ok (Env.ok_cons c41_ok Env.ok_nil)) G_ok mix 300 6 Try.func40 (by kernel_rfl) rfl (by kernel_rfl) (by kernel_rfl) (by kernel_rfl) rfl ?_
  simp [Try.f40, hc]
  have hm : ∀ c d, -9223372036854775808 ≤ v32 c 1000000 * v32 d 1000000 ∧ v32 c 1000000 * v32 d 1000000 ≤ 9223372036854775807 := fun c d => by
    have h1 := below_bd c 1000000 (by omega)
    have h2 := below_bd d 1000000 (by omega)
    have h3 := Int.mul_nonneg h1.1 h2.1
    have h4 := Int.mul_le_mul (show v32 c 1000000 ≤ 1000000 by omega) (show v32 d 1000000 ≤ 1000000 by omega) h2.1 (by omega)
    omega
  repeat' (with_reducible first | apply and_rev | apply Exists.intro | intro _)
  all_goals try dsimp only
  all_goals try with_reducible rfl
  all_goals try rfl
  all_goals (first | done | omega | assumption | exact List.length_pos_iff.2 (by assumption) | (simp [*]; done) | (simp [*]; omega) | (simp [*, below_eq]; done) | (simp [*, below_eq]; omega) | (simp only [below_eq, Int.reduceLT]; omega) | trace_state)
open Classical in
noncomputable def q40 (c : TL1Cur) : (Int) × TL1Cur := if h : okCu c ∧ True then Classical.choose (c40_ex c  h.1 h.2) else (default, ⟨[], 0, 0⟩)
theorem q40_sp (c : TL1Cur) (hc : okCu c) (hp : True) : (fun x_ : (Int) × TL1Cur => okCu x_.2 ∧ (fun x : Int => True) x_.1) (q40 c ) ∧ PCo Try.prog 40 [.ptr (0, 0) 0] (Tab.of [((0, 0), .box (encTL1Cur c))]) ((fun x_ : (Int) × TL1Cur => (fun x : Int => (dI x : D)) x_.1) (q40 c )) (Tab.of ((fun x_ : (Int) × TL1Cur => (((0, 0), .box (encTL1Cur x_.2)) :: (fun x : Int => ([] : List (Nm × OO))) x_.1)) (q40 c ))) := by
  have e : q40 c  = Classical.choose (c40_ex c  hc hp) := by rw [q40, dif_pos ⟨hc, hp⟩]
  rw [e]
  exact Classical.choose_spec (c40_ex c  hc hp)
noncomputable def v40 (c : TL1Cur) : Int := (q40 c ).1
noncomputable def n40 (c : TL1Cur) : TL1Cur := (q40 c ).2
open Classical in
@[simp] theorem n40_ok (c : TL1Cur) : okCu (n40 c ) := by
  by_cases h : okCu c ∧ True
  · exact (q40_sp c  h.1 h.2).1.1
  · rw [n40, q40, dif_neg h]; exact ⟨by simp, by simp, by simp⟩
theorem v40_ok (c : TL1Cur) (hc : okCu c) (hp : True) : (fun x : Int => True) (v40 c ) := (q40_sp c  hc hp).1.2
noncomputable def c40 : Con := mkCon 40 true (α := TL1Cur) (fun x => (fun (c : TL1Cur) => ([.ptr (0, 0) 0] : List D)) x) (fun x => (fun (c : TL1Cur) => ([((0, 0), .box (encTL1Cur c))] : List (Nm × OO))) x) (fun x => (fun (c : TL1Cur) => okCu c ∧ True) x) (fun x => (fun (c : TL1Cur) => (fun x : Int => (dI x : D)) (v40 c )) x) (fun x => (fun (c : TL1Cur) => (((0, 0), .box (encTL1Cur (n40 c ))) :: (fun x : Int => ([] : List (Nm × OO))) (v40 c ))) x)
@[simp] theorem c40_f : c40.f = 40 := rfl
@[simp] theorem c40_own : c40.own = true := rfl
theorem c40_inj : ∀ u_ v_ : TL1Cur, ((fun x => (fun (c : TL1Cur) => ([.ptr (0, 0) 0] : List D)) x) u_).map nz = ((fun x => (fun (c : TL1Cur) => ([.ptr (0, 0) 0] : List D)) x) v_).map nz → (fun x => (fun (c : TL1Cur) => ([((0, 0), .box (encTL1Cur c))] : List (Nm × OO))) x) u_ = (fun x => (fun (c : TL1Cur) => ([((0, 0), .box (encTL1Cur c))] : List (Nm × OO))) x) v_ → u_ = v_ := by
  intro u_ v_ h h2_
  obtain ⟨c_b_, c_i_, c_h_⟩ := u_
  obtain ⟨c_b_', c_i_', c_h_'⟩ := v_
  simp [nz_lit, nz1_lit, nz_agg, nz_sl, nz1_sl, nz_sx, nz_el, nz1_el, nz_own, nz1_own, nz_ptr, nz_fn, nz_iface] at h h2_
  first | (simp [h, h2_]; done) | (obtain ⟨h3_, h4_⟩ := List.append_inj h2_ h.1; simp_all; done) | simp_all | grind
@[simp] theorem c40_fn (c : TL1Cur) : c40.fn ([.ptr (0, 0) 0]) ([((0, 0), .box (.agg [.sl false 1 (.lit (.int .u8 0)) (ML dU c.b_), .lit (.int .i64 c.i_), .lit (.int .i64 c.h_)]))]) = some (okCu c ∧ True, (fun x : Int => (dI x : D)) (v40 c ), (((0, 0), .box (encTL1Cur (n40 c ))) :: (fun x : Int => ([] : List (Nm × OO))) (v40 c ))) :=
  mkCon_fn c40_inj (c : TL1Cur) rfl rfl
theorem c40_ok : c40.ok Try.prog := mkCon_ok fun c hpre => (q40_sp c  hpre.1 hpre.2).2
/-- loop.example/g03007/spec.l1Raw -/
theorem c53_ex (c : TL1Cur) (hc : okCu c) (hp : True) : ∃ x_ : (Int) × TL1Cur, (fun x_ : (Int) × TL1Cur => okCu x_.2 ∧ (fun x : Int => True) x_.1) x_ ∧ PCo Try.prog 53 [.ptr (0, 0) 0] (Tab.of [((0, 0), .box (encTL1Cur c))]) ((fun x_ : (Int) × TL1Cur => (fun x : Int => (dI x : D)) x_.1) x_) (Tab.of ((fun x_ : (Int) × TL1Cur => (((0, 0), .box (encTL1Cur x_.2)) :: (fun x : Int => ([] : List (Nm × OO))) x_.1)) x_)) := by
  refine pco_ex_of_run (fun x_ : (Int) × TL1Cur => okCu x_.2 ∧ (fun x : Int => True) x_.1) (fun x_ : (Int) × TL1Cur => (fun x : Int => (dI x : D)) x_.1) (fun x_ : (Int) × TL1Cur => (((0, 0), .box (encTL1Cur x_.2)) :: (fun x : Int => ([] : List (Nm × OO))) x_.1)) [] (E := ⟨[c38, c41, c64], [], []⟩) (m := false) (base := 1000000) (Env.ok_cons c38_ok (Env.ok_cons c41_ok (Env.ok_cons c64_ok Env.ok_nil))) G_ok mix 300 6 Try.func53 (by kernel_rfl) rfl (by kernel_rfl) (by kernel_rfl) (by kernel_rfl) rfl ?_
  simp [Try.f53, hc]
  repeat' (with_reducible first | apply and_rev | apply Exists.intro | intro _)
  all_goals try dsimp only
  all_goals try with_reducible rfl
  all_goals try rfl
  all_goals (first | done | omega | assumption | exact List.length_pos_iff.2 (by assumption) | (simp [*]; done) | (simp [*]; omega) | (simp [*, below_eq]; done) | (simp [*, below_eq]; omega) | (simp only [below_eq, Int.reduceLT]; omega) | trace_state)
open Classical in
noncomputable def q53 (c : TL1Cur) : (Int) × TL1Cur := if h : okCu c ∧ True then Classical.choose (c53_ex c  h.1 h.2) else (default, ⟨[], 0, 0⟩)
theorem q53_sp (c : TL1Cur) (hc : okCu c) (hp : True) : (fun x_ : (Int) × TL1Cur => okCu x_.2 ∧ (fun x : Int => True) x_.1) (q53 c ) ∧ PCo Try.prog 53 [.ptr (0, 0) 0] (Tab.of [((0, 0), .box (encTL1Cur c))]) ((fun x_ : (Int) × TL1Cur => (fun x : Int => (dI x : D)) x_.1) (q53 c )) (Tab.of ((fun x_ : (Int) × TL1Cur => (((0, 0), .box (encTL1Cur x_.2)) :: (fun x : Int => ([] : List (Nm × OO))) x_.1)) (q53 c ))) := by
  have e : q53 c  = Classical.choose (c53_ex c  hc hp) := by rw [q53, dif_pos ⟨hc, hp⟩]
  rw [e]
  exact Classical.choose_spec (c53_ex c  hc hp)
noncomputable def v53 (c : TL1Cur) : Int := (q53 c ).1
noncomputable def n53 (c : TL1Cur) : TL1Cur := (q53 c ).2
open Classical in
@[simp] theorem n53_ok (c : TL1Cur) : okCu (n53 c ) := by
  by_cases h : okCu c ∧ True
  · exact (q53_sp c  h.1 h.2).1.1
  · rw [n53, q53, dif_neg h]; exact ⟨by simp, by simp, by simp⟩
theorem v53_ok (c : TL1Cur) (hc : okCu c) (hp : True) : (fun x : Int => True) (v53 c ) := (q53_sp c  hc hp).1.2
noncomputable def c53 : Con := mkCon 53 true (α := TL1Cur) (fun x => (fun (c : TL1Cur) => ([.ptr (0, 0) 0] : List D)) x) (fun x => (fun (c : TL1Cur) => ([((0, 0), .box (encTL1Cur c))] : List (Nm × OO))) x) (fun x => (fun (c : TL1Cur) => okCu c ∧ True) x) (fun x => (fun (c : TL1Cur) => (fun x : Int => (dI x : D)) (v53 c )) x) (fun x => (fun (c : TL1Cur) => (((0, 0), .box (encTL1Cur (n53 c ))) :: (fun x : Int => ([] : List (Nm × OO))) (v53 c ))) x)
@[simp] theorem c53_f : c53.f = 53 := rfl
@[simp] theorem c53_own : c53.own = true := rfl
theorem c53_inj : ∀ u_ v_ : TL1Cur, ((fun x => (fun (c : TL1Cur) => ([.ptr (0, 0) 0] : List D)) x) u_).map nz = ((fun x => (fun (c : TL1Cur) => ([.ptr (0, 0) 0] : List D)) x) v_).map nz → (fun x => (fun (c : TL1Cur) => ([((0, 0), .box (encTL1Cur c))] : List (Nm × OO))) x) u_ = (fun x => (fun (c : TL1Cur) => ([((0, 0), .box (encTL1Cur c))] : List (Nm × OO))) x) v_ → u_ = v_ := by
  intro u_ v_ h h2_
  obtain ⟨c_b_, c_i_, c_h_⟩ := u_
  obtain ⟨c_b_', c_i_', c_h_'⟩ := v_
  simp [nz_lit, nz1_lit, nz_agg, nz_sl, nz1_sl, nz_sx, nz_el, nz1_el, nz_own, nz1_own, nz_ptr, nz_fn, nz_iface] at h h2_
  first | (simp [h, h2_]; done) | (obtain ⟨h3_, h4_⟩ := List.append_inj h2_ h.1; simp_all; done) | simp_all | grind
@[simp] theorem c53_fn (c : TL1Cur) : c53.fn ([.ptr (0, 0) 0]) ([((0, 0), .box (.agg [.sl false 1 (.lit (.int .u8 0)) (ML dU c.b_), .lit (.int .i64 c.i_), .lit (.int .i64 c.h_)]))]) = some (okCu c ∧ True, (fun x : Int => (dI x : D)) (v53 c ), (((0, 0), .box (encTL1Cur (n53 c ))) :: (fun x : Int => ([] : List (Nm × OO))) (v53 c ))) :=
  mkCon_fn c53_inj (c : TL1Cur) rfl rfl
theorem c53_ok : c53.ok Try.prog := mkCon_ok fun c hpre => (q53_sp c  hpre.1 hpre.2).2
/-- loop.example/g03007/spec.l1One -/
theorem c33_ex (c : TL1Cur) (hc : okCu c) (hp : True) : ∃ x_ : (Int) × TL1Cur, (fun x_ : (Int) × TL1Cur => okCu x_.2 ∧ (fun x : Int => True) x_.1) x_ ∧ PCo Try.prog 33 [.ptr (0, 0) 0] (Tab.of [((0, 0), .box (encTL1Cur c))]) ((fun x_ : (Int) × TL1Cur => (fun x : Int => (dI x : D)) x_.1) x_) (Tab.of ((fun x_ : (Int) × TL1Cur => (((0, 0), .box (encTL1Cur x_.2)) :: (fun x : Int => ([] : List (Nm × OO))) x_.1)) x_)) := by
  refine pco_ex_of_run (fun x_ : (Int) × TL1Cur => okCu x_.2 ∧ (fun x : Int => True) x_.1) (fun x_ : (Int) × TL1Cur => (fun x : Int => (dI x : D)) x_.1) (fun x_ : (Int) × TL1Cur => (((0, 0), .box (encTL1Cur x_.2)) :: (fun x : Int => ([] : List (Nm × OO))) x_.1)) [] (E := ⟨[c38, c40, c53], [], []⟩) (m := false) (base := 1000000) (Env.ok_cons c38_ok (Env.ok_cons c40_ok (Env.ok_cons c53_ok Env.ok_nil))) G_ok mix 300 6 Try.func33 (by kernel_rfl) rfl (by kernel_rfl) (by kernel_rfl) (by kernel_rfl) rfl ?_
  simp [Try.f33, hc]
  repeat' (with_reducible first | apply and_rev | apply Exists.intro | intro _)
  all_goals try dsimp only
  all_goals try with_reducible rfl
  all_goals try rfl
  all_goals (first | done | omega | assumption | exact List.length_pos_iff.2 (by assumption) | (simp [*]; done) | (simp [*]; omega) | (simp [*, below_eq]; done) | (simp [*, below_eq]; omega) | (simp only [below_eq, Int.reduceLT]; omega) | trace_state)
open Classical in
noncomputable def q33 (c : TL1Cur) : (Int) × TL1Cur := if h : okCu c ∧ True then Classical.choose (c33_ex c  h.1 h.2) else (default, ⟨[], 0, 0⟩)
theorem q33_sp (c : TL1Cur) (hc : okCu c) (hp : True) : (fun x_ : (Int) × TL1Cur => okCu x_.2 ∧ (fun x : Int => True) x_.1) (q33 c ) ∧ PCo Try.prog 33 [.ptr (0, 0) 0] (Tab.of [((0, 0), .box (encTL1Cur c))]) ((fun x_ : (Int) × TL1Cur => (fun x : Int => (dI x : D)) x_.1) (q33 c )) (Tab.of ((fun x_ : (Int) × TL1Cur => (((0, 0), .box (encTL1Cur x_.2)) :: (fun x : Int => ([] : List (Nm × OO))) x_.1)) (q33 c ))) := by
  have e : q33 c  = Classical.choose (c33_ex c  hc hp) := by rw [q33, dif_pos ⟨hc, hp⟩]
  rw [e]
  exact Classical.choose_spec (c33_ex c  hc hp)
noncomputable def v33 (c : TL1Cur) : Int := (q33 c ).1
noncomputable def n33 (c : TL1Cur) : TL1Cur := (q33 c ).2
open Classical in
@[simp] theorem n33_ok (c : TL1Cur) : okCu (n33 c ) := by
  by_cases h : okCu c ∧ True
  · exact (q33_sp c  h.1 h.2).1.1
  · rw [n33, q33, dif_neg h]; exact ⟨by simp, by simp, by simp⟩
theorem v33_ok (c : TL1Cur) (hc : okCu c) (hp : True) : (fun x : Int => True) (v33 c ) := (q33_sp c  hc hp).1.2
noncomputable def c33 : Con := mkCon 33 true (α := TL1Cur) (fun x => (fun (c : TL1Cur) => ([.ptr (0, 0) 0] : List D)) x) (fun x => (fun (c : TL1Cur) => ([((0, 0), .box (encTL1Cur c))] : List (Nm × OO))) x) (fun x => (fun (c : TL1Cur) => okCu c ∧ True) x) (fun x => (fun (c : TL1Cur) => (fun x : Int => (dI x : D)) (v33 c )) x) (fun x => (fun (c : TL1Cur) => (((0, 0), .box (encTL1Cur (n33 c ))) :: (fun x : Int => ([] : List (Nm × OO))) (v33 c ))) x)
@[simp] theorem c33_f : c33.f = 33 := rfl
@[simp] theorem c33_own : c33.own = true := rfl
theorem c33_inj : ∀ u_ v_ : TL1Cur, ((fun x => (fun (c : TL1Cur) => ([.ptr (0, 0) 0] : List D)) x) u_).map nz = ((fun x => (fun (c : TL1Cur) => ([.ptr (0, 0) 0] : List D)) x) v_).map nz → (fun x => (fun (c : TL1Cur) => ([((0, 0), .box (encTL1Cur c))] : List (Nm × OO))) x) u_ = (fun x => (fun (c : TL1Cur) => ([((0, 0), .box (encTL1Cur c))] : List (Nm × OO))) x) v_ → u_ = v_ := by
  intro u_ v_ h h2_
  obtain ⟨c_b_, c_i_, c_h_⟩ := u_
  obtain ⟨c_b_', c_i_', c_h_'⟩ := v_
  simp [nz_lit, nz1_lit, nz_agg, nz_sl, nz1_sl, nz_sx, nz_el, nz1_el, nz_own, nz1_own, nz_ptr, nz_fn, nz_iface] at h h2_
  first | (simp [h, h2_]; done) | (obtain ⟨h3_, h4_⟩ := List.append_inj h2_ h.1; simp_all; done) | simp_all | grind
@[simp] theorem c33_fn (c : TL1Cur) : c33.fn ([.ptr (0, 0) 0]) ([((0, 0), .box (.agg [.sl false 1 (.lit (.int .u8 0)) (ML dU c.b_), .lit (.int .i64 c.i_), .lit (.int .i64 c.h_)]))]) = some (okCu c ∧ True, (fun x : Int => (dI x : D)) (v33 c ), (((0, 0), .box (encTL1Cur (n33 c ))) :: (fun x : Int => ([] : List (Nm × OO))) (v33 c ))) :=
  mkCon_fn c33_inj (c : TL1Cur) rfl rfl
theorem c33_ok : c33.ok Try.prog := mkCon_ok fun c hpre => (q33_sp c  hpre.1 hpre.2).2

end Go.Proofs.Ytdbhfkbfajljpaa
