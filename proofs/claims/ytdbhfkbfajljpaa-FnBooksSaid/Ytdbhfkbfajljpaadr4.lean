/- Contracts of the functions that the laws run. -/
import Derived.Test.YtdbhfkbfajljpaaEngB
import Derived.Test.YtdbhfkbfajljpaaEngB
import Derived.Test.Ytdbhfkbfajljpaadr0
import Derived.Test.Ytdbhfkbfajljpaach04
import Derived.Test.YtdbhfkbfajljpaaEngB
namespace Go.Proofs.Ytdbhfkbfajljpaa
open Go Go.Eng
set_option linter.unusedSimpArgs false
set_option linter.unusedVariables false
set_option maxRecDepth 10000
set_option maxHeartbeats 1000000
/-- loop.example/g03007/spec.l4Raw -/
theorem c58_ex (c : TL1Cur) (hc : okCu c) (hp : True) : ∃ x_ : (Int) × TL1Cur, (fun x_ : (Int) × TL1Cur => okCu x_.2 ∧ (fun x : Int => -9223372036854775808 ≤ x ∧ x ≤ 9223372036854775807) x_.1) x_ ∧ PCo Try.prog 58 [.ptr (0, 0) 0] (Tab.of [((0, 0), .box (encTL1Cur c))]) ((fun x_ : (Int) × TL1Cur => (fun x : Int => (dI x : D)) x_.1) x_) (Tab.of ((fun x_ : (Int) × TL1Cur => (((0, 0), .box (encTL1Cur x_.2)) :: (fun x : Int => ([] : List (Nm × OO))) x_.1)) x_)) := by
  refine pco_ex_of_run (fun x_ : (Int) × TL1Cur => okCu x_.2 ∧ (fun x : Int => -9223372036854775808 ≤ x ∧ x ≤ 9223372036854775807) x_.1) (fun x_ : (Int) × TL1Cur => (fun x : Int => (dI x : D)) x_.1) (fun x_ : (Int) × TL1Cur => (((0, 0), .box (encTL1Cur x_.2)) :: (fun x : Int => ([] : List (Nm × OO))) x_.1)) [] (E := ⟨[c41], [], []⟩) (m := false) (base := 1000000) (Env.ok_cons c41_ok Env.ok_nil) G_ok mix 300 6 Try.func58 (by kernel_rfl) rfl (by kernel_rfl) (by kernel_rfl) (by kernel_rfl) rfl ?_
  simp [Try.f58, hc]
  have hm := v41_ok c [-1, 0, 8, 50, 51, 1000, 9223372036854775807, -9223372036854775808] hc (by simp)
  simp at hm
  repeat' (with_reducible first | apply and_rev | apply Exists.intro | intro _)
  all_goals try dsimp only
  all_goals try with_reducible rfl
  all_goals try rfl
  all_goals (first | done | omega | assumption | exact List.length_pos_iff.2 (by assumption) | (simp [*]; done) | (simp [*]; omega) | (simp [*, below_eq]; done) | (simp [*, below_eq]; omega) | (simp only [below_eq, Int.reduceLT]; omega) | trace_state)
open Classical in
noncomputable def q58 (c : TL1Cur) : (Int) × TL1Cur := if h : okCu c ∧ True then Classical.choose (c58_ex c  h.1 h.2) else (default, ⟨[], 0, 0⟩)
theorem q58_sp (c : TL1Cur) (hc : okCu c) (hp : True) : (fun x_ : (Int) × TL1Cur => okCu x_.2 ∧ (fun x : Int => -9223372036854775808 ≤ x ∧ x ≤ 9223372036854775807) x_.1) (q58 c ) ∧ PCo Try.prog 58 [.ptr (0, 0) 0] (Tab.of [((0, 0), .box (encTL1Cur c))]) ((fun x_ : (Int) × TL1Cur => (fun x : Int => (dI x : D)) x_.1) (q58 c )) (Tab.of ((fun x_ : (Int) × TL1Cur => (((0, 0), .box (encTL1Cur x_.2)) :: (fun x : Int => ([] : List (Nm × OO))) x_.1)) (q58 c ))) := by
  have e : q58 c  = Classical.choose (c58_ex c  hc hp) := by rw [q58, dif_pos ⟨hc, hp⟩]
  rw [e]
  exact Classical.choose_spec (c58_ex c  hc hp)
noncomputable def v58 (c : TL1Cur) : Int := (q58 c ).1
noncomputable def n58 (c : TL1Cur) : TL1Cur := (q58 c ).2
open Classical in
@[simp] theorem n58_ok (c : TL1Cur) : okCu (n58 c ) := by
  by_cases h : okCu c ∧ True
  · exact (q58_sp c  h.1 h.2).1.1
  · rw [n58, q58, dif_neg h]; exact ⟨by simp, by simp, by simp⟩
theorem v58_ok (c : TL1Cur) (hc : okCu c) (hp : True) : (fun x : Int => -9223372036854775808 ≤ x ∧ x ≤ 9223372036854775807) (v58 c ) := (q58_sp c  hc hp).1.2
noncomputable def c58 : Con := mkCon 58 true (α := TL1Cur) (fun x => (fun (c : TL1Cur) => ([.ptr (0, 0) 0] : List D)) x) (fun x => (fun (c : TL1Cur) => ([((0, 0), .box (encTL1Cur c))] : List (Nm × OO))) x) (fun x => (fun (c : TL1Cur) => okCu c ∧ True) x) (fun x => (fun (c : TL1Cur) => (fun x : Int => (dI x : D)) (v58 c )) x) (fun x => (fun (c : TL1Cur) => (((0, 0), .box (encTL1Cur (n58 c ))) :: (fun x : Int => ([] : List (Nm × OO))) (v58 c ))) x)
@[simp] theorem c58_f : c58.f = 58 := rfl
@[simp] theorem c58_own : c58.own = true := rfl
theorem c58_inj : ∀ u_ v_ : TL1Cur, ((fun x => (fun (c : TL1Cur) => ([.ptr (0, 0) 0] : List D)) x) u_).map nz = ((fun x => (fun (c : TL1Cur) => ([.ptr (0, 0) 0] : List D)) x) v_).map nz → (fun x => (fun (c : TL1Cur) => ([((0, 0), .box (encTL1Cur c))] : List (Nm × OO))) x) u_ = (fun x => (fun (c : TL1Cur) => ([((0, 0), .box (encTL1Cur c))] : List (Nm × OO))) x) v_ → u_ = v_ := by
  intro u_ v_ h h2_
  obtain ⟨c_b_, c_i_, c_h_⟩ := u_
  obtain ⟨c_b_', c_i_', c_h_'⟩ := v_
  simp [nz_lit, nz1_lit, nz_agg, nz_sl, nz1_sl, nz_sx, nz_el, nz1_el, nz_own, nz1_own, nz_ptr, nz_fn, nz_iface] at h h2_
  first | (simp [h, h2_]; done) | (obtain ⟨h3_, h4_⟩ := List.append_inj h2_ h.1; simp_all; done) | simp_all | grind
@[simp] theorem c58_fn (c : TL1Cur) : c58.fn ([.ptr (0, 0) 0]) ([((0, 0), .box (.agg [.sl false 1 (.lit (.int .u8 0)) (ML dU c.b_), .lit (.int .i64 c.i_), .lit (.int .i64 c.h_)]))]) = some (okCu c ∧ True, (fun x : Int => (dI x : D)) (v58 c ), (((0, 0), .box (encTL1Cur (n58 c ))) :: (fun x : Int => ([] : List (Nm × OO))) (v58 c ))) :=
  mkCon_fn c58_inj (c : TL1Cur) rfl rfl
theorem c58_ok : c58.ok Try.prog := mkCon_ok fun c hpre => (q58_sp c  hpre.1 hpre.2).2
end Go.Proofs.Ytdbhfkbfajljpaa
