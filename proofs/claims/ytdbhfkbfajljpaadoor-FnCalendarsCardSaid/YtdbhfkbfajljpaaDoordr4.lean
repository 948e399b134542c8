/- Contracts of the functions that the laws run. -/
import Derived.Test.YtdbhfkbfajljpaaDoorEngB
import Derived.Test.YtdbhfkbfajljpaaDoorEngB
import Derived.Test.YtdbhfkbfajljpaaDoordr0
import Derived.Test.YtdbhfkbfajljpaaDoorch04
import Derived.Test.YtdbhfkbfajljpaaDoorEngB
namespace Go.Proofs.YtdbhfkbfajljpaaDoor
open Go Go.Eng
set_option linter.unusedSimpArgs false
set_option linter.unusedVariables false
set_option maxRecDepth 10000
set_option maxHeartbeats 1000000
/-- loop.example/g03007/spec.l4Raw -/
theorem c35_ex (c : TL1Cur) (hc : okCu c) (hp : True) : ∃ x_ : (Int) × TL1Cur, (fun x_ : (Int) × TL1Cur => okCu x_.2 ∧ (fun x : Int => -9223372036854775808 ≤ x ∧ x ≤ 9223372036854775807) x_.1) x_ ∧ PCo Tryd.prog 35 [.ptr (0, 0) 0] (Tab.of [((0, 0), .box (encTL1Cur c))]) ((fun x_ : (Int) × TL1Cur => (fun x : Int => (dI x : D)) x_.1) x_) (Tab.of ((fun x_ : (Int) × TL1Cur => (((0, 0), .box (encTL1Cur x_.2)) :: (fun x : Int => ([] : List (Nm × OO))) x_.1)) x_)) := by
  refine pco_ex_of_run (fun x_ : (Int) × TL1Cur => okCu x_.2 ∧ (fun x : Int => -9223372036854775808 ≤ x ∧ x ≤ 9223372036854775807) x_.1) (fun x_ : (Int) × TL1Cur => (fun x : Int => (dI x : D)) x_.1) (fun x_ : (Int) × TL1Cur => (((0, 0), .box (encTL1Cur x_.2)) :: (fun x : Int => ([] : List (Nm × OO))) x_.1)) [] (E := ⟨[c17], [], []⟩) (m := false) (base := 1000000) (Env.ok_cons c17_ok Env.ok_nil) G_ok mix 300 6 Tryd.func35 (by kernel_rfl) rfl (by kernel_rfl) (by kernel_rfl) (by kernel_rfl) rfl ?_
  simp [Tryd.f35, hc]
  have hm := v17_ok c [-1, 0, 8, 50, 51, 1000, 9223372036854775807, -9223372036854775808] hc (by simp)
  simp at hm
  repeat' (with_reducible first | apply and_rev | apply Exists.intro | intro _)
  all_goals try dsimp only
  all_goals try with_reducible rfl
  all_goals try rfl
  all_goals (first | done | omega | assumption | exact List.length_pos_iff.2 (by assumption) | (simp [*]; done) | (simp [*]; omega) | (simp [*, below_eq]; done) | (simp [*, below_eq]; omega) | (simp only [below_eq, Int.reduceLT]; omega) | trace_state)
open Classical in
noncomputable def q35 (c : TL1Cur) : (Int) × TL1Cur := if h : okCu c ∧ True then Classical.choose (c35_ex c  h.1 h.2) else (default, ⟨[], 0, 0⟩)
theorem q35_sp (c : TL1Cur) (hc : okCu c) (hp : True) : (fun x_ : (Int) × TL1Cur => okCu x_.2 ∧ (fun x : Int => -9223372036854775808 ≤ x ∧ x ≤ 9223372036854775807) x_.1) (q35 c ) ∧ PCo Tryd.prog 35 [.ptr (0, 0) 0] (Tab.of [((0, 0), .box (encTL1Cur c))]) ((fun x_ : (Int) × TL1Cur => (fun x : Int => (dI x : D)) x_.1) (q35 c )) (Tab.of ((fun x_ : (Int) × TL1Cur => (((0, 0), .box (encTL1Cur x_.2)) :: (fun x : Int => ([] : List (Nm × OO))) x_.1)) (q35 c ))) := by
  have e : q35 c  = Classical.choose (c35_ex c  hc hp) := by rw [q35, dif_pos ⟨hc, hp⟩]
  rw [e]
  exact Classical.choose_spec (c35_ex c  hc hp)
noncomputable def v35 (c : TL1Cur) : Int := (q35 c ).1
noncomputable def n35 (c : TL1Cur) : TL1Cur := (q35 c ).2
open Classical in
@[simp] theorem n35_ok (c : TL1Cur) : okCu (n35 c ) := by
  by_cases h : okCu c ∧ True
  · exact (q35_sp c  h.1 h.2).1.1
  · rw [n35, q35, dif_neg h]; exact ⟨by simp, by simp, by simp⟩
theorem v35_ok (c : TL1Cur) (hc : okCu c) (hp : True) : (fun x : Int => -9223372036854775808 ≤ x ∧ x ≤ 9223372036854775807) (v35 c ) := (q35_sp c  hc hp).1.2
noncomputable def c35 : Con := mkCon 35 true (α := TL1Cur) (fun x => (fun (c : TL1Cur) => ([.ptr (0, 0) 0] : List D)) x) (fun x => (fun (c : TL1Cur) => ([((0, 0), .box (encTL1Cur c))] : List (Nm × OO))) x) (fun x => (fun (c : TL1Cur) => okCu c ∧ True) x) (fun x => (fun (c : TL1Cur) => (fun x : Int => (dI x : D)) (v35 c )) x) (fun x => (fun (c : TL1Cur) => (((0, 0), .box (encTL1Cur (n35 c ))) :: (fun x : Int => ([] : List (Nm × OO))) (v35 c ))) x)
@[simp] theorem c35_f : c35.f = 35 := rfl
@[simp] theorem c35_own : c35.own = true := rfl
theorem c35_inj : ∀ u_ v_ : TL1Cur, ((fun x => (fun (c : TL1Cur) => ([.ptr (0, 0) 0] : List D)) x) u_).map nz = ((fun x => (fun (c : TL1Cur) => ([.ptr (0, 0) 0] : List D)) x) v_).map nz → (fun x => (fun (c : TL1Cur) => ([((0, 0), .box (encTL1Cur c))] : List (Nm × OO))) x) u_ = (fun x => (fun (c : TL1Cur) => ([((0, 0), .box (encTL1Cur c))] : List (Nm × OO))) x) v_ → u_ = v_ := by
  intro u_ v_ h h2_
  obtain ⟨c_b_, c_i_, c_h_⟩ := u_
  obtain ⟨c_b_', c_i_', c_h_'⟩ := v_
  simp [nz_lit, nz1_lit, nz_agg, nz_sl, nz1_sl, nz_sx, nz_el, nz1_el, nz_own, nz1_own, nz_ptr, nz_fn, nz_iface] at h h2_
  first | (simp [h, h2_]; done) | (obtain ⟨h3_, h4_⟩ := List.append_inj h2_ h.1; simp_all; done) | simp_all | grind
@[simp] theorem c35_fn (c : TL1Cur) : c35.fn ([.ptr (0, 0) 0]) ([((0, 0), .box (.agg [.sl false 1 (.lit (.int .u8 0)) (ML dU c.b_), .lit (.int .i64 c.i_), .lit (.int .i64 c.h_)]))]) = some (okCu c ∧ True, (fun x : Int => (dI x : D)) (v35 c ), (((0, 0), .box (encTL1Cur (n35 c ))) :: (fun x : Int => ([] : List (Nm × OO))) (v35 c ))) :=
  mkCon_fn c35_inj (c : TL1Cur) rfl rfl
theorem c35_ok : c35.ok Tryd.prog := mkCon_ok fun c hpre => (q35_sp c  hpre.1 hpre.2).2
/-- loop.example/g03007/spec.l4Draw -/
theorem c42_ex (c : TL1Cur) (id : Int) (hc : okCu c) (hp : True) : ∃ x_ : (TThing) × TL1Cur, (fun x_ : (TThing) × TL1Cur => okCu x_.2 ∧ (fun x : TThing => True) x_.1) x_ ∧ PCo Tryd.prog 42 [.ptr (0, 0) 0, dI id] (Tab.of [((0, 0), .box (encTL1Cur c))]) ((fun x_ : (TThing) × TL1Cur => (fun x : TThing => (encTThing x : D)) x_.1) x_) (Tab.of ((fun x_ : (TThing) × TL1Cur => (((0, 0), .box (encTL1Cur x_.2)) :: (fun x : TThing => ([] : List (Nm × OO))) x_.1)) x_)) := by
  refine pco_ex_of_run (fun x_ : (TThing) × TL1Cur => okCu x_.2 ∧ (fun x : TThing => True) x_.1) (fun x_ : (TThing) × TL1Cur => (fun x : TThing => (encTThing x : D)) x_.1) (fun x_ : (TThing) × TL1Cur => (((0, 0), .box (encTL1Cur x_.2)) :: (fun x : TThing => ([] : List (Nm × OO))) x_.1)) [] (E := ⟨[c27], [], []⟩) (m := false) (base := 1000000) (Env.ok_cons c27_ok Env.ok_nil) G_ok mix 300 6 Tryd.func42 (by kernel_rfl) rfl (by kernel_rfl) (by kernel_rfl) (by kernel_rfl) rfl ?_
  simp [Tryd.f42, hc]
  repeat' (with_reducible first | apply and_rev | apply Exists.intro (⟨?_, ?_, ?_, ?_, ?_⟩ : TThing) | apply Exists.intro | intro _)
  all_goals try dsimp only
  all_goals try with_reducible rfl
  all_goals try rfl
  all_goals (first | done | omega | assumption | exact List.length_pos_iff.2 (by assumption) | (simp [*]; done) | (simp [*]; omega) | (simp [*, below_eq]; done) | (simp [*, below_eq]; omega) | (simp only [below_eq, Int.reduceLT]; omega) | trace_state)
open Classical in
noncomputable def q42 (c : TL1Cur) (id : Int) : (TThing) × TL1Cur := if h : okCu c ∧ True then Classical.choose (c42_ex c id h.1 h.2) else (default, ⟨[], 0, 0⟩)
theorem q42_sp (c : TL1Cur) (id : Int) (hc : okCu c) (hp : True) : (fun x_ : (TThing) × TL1Cur => okCu x_.2 ∧ (fun x : TThing => True) x_.1) (q42 c id) ∧ PCo Tryd.prog 42 [.ptr (0, 0) 0, dI id] (Tab.of [((0, 0), .box (encTL1Cur c))]) ((fun x_ : (TThing) × TL1Cur => (fun x : TThing => (encTThing x : D)) x_.1) (q42 c id)) (Tab.of ((fun x_ : (TThing) × TL1Cur => (((0, 0), .box (encTL1Cur x_.2)) :: (fun x : TThing => ([] : List (Nm × OO))) x_.1)) (q42 c id))) := by
  have e : q42 c id = Classical.choose (c42_ex c id hc hp) := by rw [q42, dif_pos ⟨hc, hp⟩]
  rw [e]
  exact Classical.choose_spec (c42_ex c id hc hp)
noncomputable def v42 (c : TL1Cur) (id : Int) : TThing := (q42 c id).1
noncomputable def n42 (c : TL1Cur) (id : Int) : TL1Cur := (q42 c id).2
open Classical in
@[simp] theorem n42_ok (c : TL1Cur) (id : Int) : okCu (n42 c id) := by
  by_cases h : okCu c ∧ True
  · exact (q42_sp c id h.1 h.2).1.1
  · rw [n42, q42, dif_neg h]; exact ⟨by simp, by simp, by simp⟩
theorem v42_ok (c : TL1Cur) (id : Int) (hc : okCu c) (hp : True) : (fun x : TThing => True) (v42 c id) := (q42_sp c id hc hp).1.2
noncomputable def c42 : Con := mkCon 42 true (α := TL1Cur × Int) (fun x => (fun (c : TL1Cur) (id : Int) => ([.ptr (0, 0) 0, dI id] : List D)) x.1 x.2) (fun x => (fun (c : TL1Cur) (id : Int) => ([((0, 0), .box (encTL1Cur c))] : List (Nm × OO))) x.1 x.2) (fun x => (fun (c : TL1Cur) (id : Int) => okCu c ∧ True) x.1 x.2) (fun x => (fun (c : TL1Cur) (id : Int) => (fun x : TThing => (encTThing x : D)) (v42 c id)) x.1 x.2) (fun x => (fun (c : TL1Cur) (id : Int) => (((0, 0), .box (encTL1Cur (n42 c id))) :: (fun x : TThing => ([] : List (Nm × OO))) (v42 c id))) x.1 x.2)
@[simp] theorem c42_f : c42.f = 42 := rfl
@[simp] theorem c42_own : c42.own = true := rfl
theorem c42_inj : ∀ u_ v_ : TL1Cur × Int, ((fun x => (fun (c : TL1Cur) (id : Int) => ([.ptr (0, 0) 0, dI id] : List D)) x.1 x.2) u_).map nz = ((fun x => (fun (c : TL1Cur) (id : Int) => ([.ptr (0, 0) 0, dI id] : List D)) x.1 x.2) v_).map nz → (fun x => (fun (c : TL1Cur) (id : Int) => ([((0, 0), .box (encTL1Cur c))] : List (Nm × OO))) x.1 x.2) u_ = (fun x => (fun (c : TL1Cur) (id : Int) => ([((0, 0), .box (encTL1Cur c))] : List (Nm × OO))) x.1 x.2) v_ → u_ = v_ := by
  intro u_ v_ h h2_
  obtain ⟨⟨c_b_, c_i_, c_h_⟩, id⟩ := u_
  obtain ⟨⟨c_b_', c_i_', c_h_'⟩, id'⟩ := v_
  simp [nz_lit, nz1_lit, nz_agg, nz_sl, nz1_sl, nz_sx, nz_el, nz1_el, nz_own, nz1_own, nz_ptr, nz_fn, nz_iface] at h h2_
  first | (simp [h, h2_]; done) | (obtain ⟨h3_, h4_⟩ := List.append_inj h2_ h.1; simp_all; done) | simp_all | grind
@[simp] theorem c42_fn (c : TL1Cur) (id : Int) : c42.fn ([.ptr (0, 0) 0, .lit (.int .i64 id)]) ([((0, 0), .box (.agg [.sl false 1 (.lit (.int .u8 0)) (ML dU c.b_), .lit (.int .i64 c.i_), .lit (.int .i64 c.h_)]))]) = some (okCu c ∧ True, (fun x : TThing => (encTThing x : D)) (v42 c id), (((0, 0), .box (encTL1Cur (n42 c id))) :: (fun x : TThing => ([] : List (Nm × OO))) (v42 c id))) :=
  mkCon_fn c42_inj ((c, id) : TL1Cur × Int) rfl rfl
theorem c42_ok : c42.ok Tryd.prog := mkCon_ok fun ⟨c, id⟩ hpre => (q42_sp c id hpre.1 hpre.2).2
/-- loop.example/g03007/spec.l4Any -/
theorem c34_ex (c : TL1Cur) (hc : okCu c) (hp : True) : ∃ x_ : (TThing) × TL1Cur, (fun x_ : (TThing) × TL1Cur => okCu x_.2 ∧ (fun x : TThing => True) x_.1) x_ ∧ PCo Tryd.prog 34 [.ptr (0, 0) 0] (Tab.of [((0, 0), .box (encTL1Cur c))]) ((fun x_ : (TThing) × TL1Cur => (fun x : TThing => (encTThing x : D)) x_.1) x_) (Tab.of ((fun x_ : (TThing) × TL1Cur => (((0, 0), .box (encTL1Cur x_.2)) :: (fun x : TThing => ([] : List (Nm × OO))) x_.1)) x_)) := by
  refine pco_ex_of_run (fun x_ : (TThing) × TL1Cur => okCu x_.2 ∧ (fun x : TThing => True) x_.1) (fun x_ : (TThing) × TL1Cur => (fun x : TThing => (encTThing x : D)) x_.1) (fun x_ : (TThing) × TL1Cur => (((0, 0), .box (encTL1Cur x_.2)) :: (fun x : TThing => ([] : List (Nm × OO))) x_.1)) [] (E := ⟨[c17, c27, c35, c42], [], []⟩) (m := false) (base := 1000000) (Env.ok_cons c17_ok (Env.ok_cons c27_ok (Env.ok_cons c35_ok (Env.ok_cons c42_ok Env.ok_nil)))) G_ok mix 300 6 Tryd.func34 (by kernel_rfl) rfl (by kernel_rfl) (by kernel_rfl) (by kernel_rfl) rfl ?_
  simp [Tryd.f34, hc]
  repeat' (with_reducible first | apply and_rev | apply Exists.intro (⟨?_, ?_, ?_, ?_, ?_⟩ : TThing) | apply Exists.intro | intro _)
  all_goals try dsimp only
  all_goals try with_reducible rfl
  all_goals try rfl
  all_goals (first | done | omega | assumption | exact List.length_pos_iff.2 (by assumption) | (simp [*]; done) | (simp [*]; omega) | (simp [*, below_eq]; done) | (simp [*, below_eq]; omega) | (simp only [below_eq, Int.reduceLT]; omega) | trace_state)
open Classical in
noncomputable def q34 (c : TL1Cur) : (TThing) × TL1Cur := if h : okCu c ∧ True then Classical.choose (c34_ex c  h.1 h.2) else (default, ⟨[], 0, 0⟩)
theorem q34_sp (c : TL1Cur) (hc : okCu c) (hp : True) : (fun x_ : (TThing) × TL1Cur => okCu x_.2 ∧ (fun x : TThing => True) x_.1) (q34 c ) ∧ PCo Tryd.prog 34 [.ptr (0, 0) 0] (Tab.of [((0, 0), .box (encTL1Cur c))]) ((fun x_ : (TThing) × TL1Cur => (fun x : TThing => (encTThing x : D)) x_.1) (q34 c )) (Tab.of ((fun x_ : (TThing) × TL1Cur => (((0, 0), .box (encTL1Cur x_.2)) :: (fun x : TThing => ([] : List (Nm × OO))) x_.1)) (q34 c ))) := by
  have e : q34 c  = Classical.choose (c34_ex c  hc hp) := by rw [q34, dif_pos ⟨hc, hp⟩]
  rw [e]
  exact Classical.choose_spec (c34_ex c  hc hp)
noncomputable def v34 (c : TL1Cur) : TThing := (q34 c ).1
noncomputable def n34 (c : TL1Cur) : TL1Cur := (q34 c ).2
open Classical in
@[simp] theorem n34_ok (c : TL1Cur) : okCu (n34 c ) := by
  by_cases h : okCu c ∧ True
  · exact (q34_sp c  h.1 h.2).1.1
  · rw [n34, q34, dif_neg h]; exact ⟨by simp, by simp, by simp⟩
theorem v34_ok (c : TL1Cur) (hc : okCu c) (hp : True) : (fun x : TThing => True) (v34 c ) := (q34_sp c  hc hp).1.2
noncomputable def c34 : Con := mkCon 34 true (α := TL1Cur) (fun x => (fun (c : TL1Cur) => ([.ptr (0, 0) 0] : List D)) x) (fun x => (fun (c : TL1Cur) => ([((0, 0), .box (encTL1Cur c))] : List (Nm × OO))) x) (fun x => (fun (c : TL1Cur) => okCu c ∧ True) x) (fun x => (fun (c : TL1Cur) => (fun x : TThing => (encTThing x : D)) (v34 c )) x) (fun x => (fun (c : TL1Cur) => (((0, 0), .box (encTL1Cur (n34 c ))) :: (fun x : TThing => ([] : List (Nm × OO))) (v34 c ))) x)
@[simp] theorem c34_f : c34.f = 34 := rfl
@[simp] theorem c34_own : c34.own = true := rfl
theorem c34_inj : ∀ u_ v_ : TL1Cur, ((fun x => (fun (c : TL1Cur) => ([.ptr (0, 0) 0] : List D)) x) u_).map nz = ((fun x => (fun (c : TL1Cur) => ([.ptr (0, 0) 0] : List D)) x) v_).map nz → (fun x => (fun (c : TL1Cur) => ([((0, 0), .box (encTL1Cur c))] : List (Nm × OO))) x) u_ = (fun x => (fun (c : TL1Cur) => ([((0, 0), .box (encTL1Cur c))] : List (Nm × OO))) x) v_ → u_ = v_ := by
  intro u_ v_ h h2_
  obtain ⟨c_b_, c_i_, c_h_⟩ := u_
  obtain ⟨c_b_', c_i_', c_h_'⟩ := v_
  simp [nz_lit, nz1_lit, nz_agg, nz_sl, nz1_sl, nz_sx, nz_el, nz1_el, nz_own, nz1_own, nz_ptr, nz_fn, nz_iface] at h h2_
  first | (simp [h, h2_]; done) | (obtain ⟨h3_, h4_⟩ := List.append_inj h2_ h.1; simp_all; done) | simp_all | grind
@[simp] theorem c34_fn (c : TL1Cur) : c34.fn ([.ptr (0, 0) 0]) ([((0, 0), .box (.agg [.sl false 1 (.lit (.int .u8 0)) (ML dU c.b_), .lit (.int .i64 c.i_), .lit (.int .i64 c.h_)]))]) = some (okCu c ∧ True, (fun x : TThing => (encTThing x : D)) (v34 c ), (((0, 0), .box (encTL1Cur (n34 c ))) :: (fun x : TThing => ([] : List (Nm × OO))) (v34 c ))) :=
  mkCon_fn c34_inj (c : TL1Cur) rfl rfl
theorem c34_ok : c34.ok Tryd.prog := mkCon_ok fun c hpre => (q34_sp c  hpre.1 hpre.2).2
end Go.Proofs.YtdbhfkbfajljpaaDoor
