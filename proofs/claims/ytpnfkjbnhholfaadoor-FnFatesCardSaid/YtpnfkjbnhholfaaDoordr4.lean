/- Contracts of the functions that the laws run. -/
import Derived.Test.YtpnfkjbnhholfaaDoorEngB
import Derived.Test.YtpnfkjbnhholfaaDoorEngB
import Derived.Test.YtpnfkjbnhholfaaDoordr0
import Derived.Test.YtpnfkjbnhholfaaDoorch04
import Derived.Test.YtpnfkjbnhholfaaDoorEngB
namespace Go.Proofs.YtpnfkjbnhholfaaDoor
open Go Go.Eng
set_option linter.unusedSimpArgs false
set_option linter.unusedVariables false
set_option maxRecDepth 10000
set_option maxHeartbeats 1000000
/-- loop.example/g03007/spec.l4Raw -/
theorem c53_ex (c : TL1Cur) (hc : okCu c) (hp : True) : ∃ x_ : (Int) × TL1Cur, (fun x_ : (Int) × TL1Cur => okCu x_.2 ∧ (fun x : Int => -9223372036854775808 ≤ x ∧ x ≤ 9223372036854775807) x_.1) x_ ∧ PCo Tryd.prog 53 [.ptr (0, 0) 0] (Tab.of [((0, 0), .box (encTL1Cur c))]) ((fun x_ : (Int) × TL1Cur => (fun x : Int => (dI x : D)) x_.1) x_) (Tab.of ((fun x_ : (Int) × TL1Cur => (((0, 0), .box (encTL1Cur x_.2)) :: (fun x : Int => ([] : List (Nm × OO))) x_.1)) x_)) := by
  refine pco_ex_of_run (fun x_ : (Int) × TL1Cur => okCu x_.2 ∧ (fun x : Int => -9223372036854775808 ≤ x ∧ x ≤ 9223372036854775807) x_.1) (fun x_ : (Int) × TL1Cur => (fun x : Int => (dI x : D)) x_.1) (fun x_ : (Int) × TL1Cur => (((0, 0), .box (encTL1Cur x_.2)) :: (fun x : Int => ([] : List (Nm × OO))) x_.1)) [] (E := ⟨[c38], [], []⟩) (m := false) (base := 1000000) (Env.ok_cons c38_ok Env.ok_nil) G_ok mix 300 6 Tryd.func53 (by kernel_rfl) rfl (by kernel_rfl) (by kernel_rfl) (by kernel_rfl) rfl ?_
  simp [Tryd.f53, hc]
  have hm := v38_ok c [-1, 0, 8, 50, 51, 1000, 9223372036854775807, -9223372036854775808] hc (by simp)
  simp at hm
  repeat' (with_reducible first | apply and_rev | apply Exists.intro | intro _)
  all_goals try dsimp only
  all_goals try with_reducible rfl
  all_goals try rfl
  all_goals (first | done | omega | assumption | exact List.length_pos_iff.2 (by assumption) | (simp [*]; done) | (simp [*]; omega) | (simp [*, below_eq]; done) | (simp [*, below_eq]; omega) | (simp only [below_eq, Int.reduceLT]; omega) | trace_state)
open Classical in
noncomputable def q53 (c : TL1Cur) : (Int) × TL1Cur := if h : okCu c ∧ True then Classical.choose (c53_ex c  h.1 h.2) else (default, ⟨[], 0, 0⟩)
theorem q53_sp (c : TL1Cur) (hc : okCu c) (hp : True) : (fun x_ : (Int) × TL1Cur => okCu x_.2 ∧ (fun x : Int => -9223372036854775808 ≤ x ∧ x ≤ 9223372036854775807) x_.1) (q53 c ) ∧ PCo Tryd.prog 53 [.ptr (0, 0) 0] (Tab.of [((0, 0), .box (encTL1Cur c))]) ((fun x_ : (Int) × TL1Cur => (fun x : Int => (dI x : D)) x_.1) (q53 c )) (Tab.of ((fun x_ : (Int) × TL1Cur => (((0, 0), .box (encTL1Cur x_.2)) :: (fun x : Int => ([] : List (Nm × OO))) x_.1)) (q53 c ))) := by
  have e : q53 c  = Classical.choose (c53_ex c  hc hp) := by rw [q53, dif_pos ⟨hc, hp⟩]
  rw [e]
  exact Classical.choose_spec (c53_ex c  hc hp)
noncomputable def v53 (c : TL1Cur) : Int := (q53 c ).1
noncomputable def n53 (c : TL1Cur) : TL1Cur := (q53 c ).2
open Classical in
@[simp] theorem n53_ok (c : TL1Cur) : okCu (n53 c ) := by
  by_cases h : okCu c ∧ True
  · exact (q53_sp c  h.1 h.2).1.1
  · rw [n53, q53, dif_neg h]; exact ⟨by simp, by simp, by simp⟩
theorem v53_ok (c : TL1Cur) (hc : okCu c) (hp : True) : (fun x : Int => -9223372036854775808 ≤ x ∧ x ≤ 9223372036854775807) (v53 c ) := (q53_sp c  hc hp).1.2
noncomputable def c53 : Con := mkCon 53 true (α := TL1Cur) (fun x => (fun (c : TL1Cur) => ([.ptr (0, 0) 0] : List D)) x) (fun x => (fun (c : TL1Cur) => ([((0, 0), .box (encTL1Cur c))] : List (Nm × OO))) x) (fun x => (fun (c : TL1Cur) => okCu c ∧ True) x) (fun x => (fun (c : TL1Cur) => (fun x : Int => (dI x : D)) (v53 c )) x) (fun x => (fun (c : TL1Cur) => (((0, 0), .box (encTL1Cur (n53 c ))) :: (fun x : Int => ([] : List (Nm × OO))) (v53 c ))) x)
@[simp] theorem c53_f : c53.f = 53 := rfl
@[simp] theorem c53_own : c53.own = true := rfl
theorem c53_inj : ∀ u_ v_ : TL1Cur, ((fun x => (fun (c : TL1Cur) => ([.ptr (0, 0) 0] : List D)) x) u_).map nz = ((fun x => (fun (c : TL1Cur) => ([.ptr (0, 0) 0] : List D)) x) v_).map nz → (fun x => (fun (c : TL1Cur) => ([((0, 0), .box (encTL1Cur c))] : List (Nm × OO))) x) u_ = (fun x => (fun (c : TL1Cur) => ([((0, 0), .box (encTL1Cur c))] : List (Nm × OO))) x) v_ → u_ = v_ := by
  intro u_ v_ h h2_
  obtain ⟨c_b_, c_i_, c_h_⟩ := u_
  obtain ⟨c_b_', c_i_', c_h_'⟩ := v_
  simp [nz_lit, nz1_lit, nz_agg, nz_sl, nz1_sl, nz_sx, nz_el, nz1_el, nz_own, nz1_own, nz_ptr, nz_fn, nz_iface] at h h2_
  first | (simp [h, h2_]; done) | (obtain ⟨h3_, h4_⟩ := List.append_inj h2_ h.1; simp_all; done) | simp_all | grind
@[simp] theorem c53_fn (c : TL1Cur) : c53.fn ([.ptr (0, 0) 0]) ([((0, 0), .box (.agg [.sl false 1 (.lit (.int .u8 0)) (ML dU c.b_), .lit (.int .i64 c.i_), .lit (.int .i64 c.h_)]))]) = some (okCu c ∧ True, (fun x : Int => (dI x : D)) (v53 c ), (((0, 0), .box (encTL1Cur (n53 c ))) :: (fun x : Int => ([] : List (Nm × OO))) (v53 c ))) :=
  mkCon_fn c53_inj (c : TL1Cur) rfl rfl
theorem c53_ok : c53.ok Tryd.prog := mkCon_ok fun c hpre => (q53_sp c  hpre.1 hpre.2).2
/-- loop.example/g03007/spec.l4Draw -/
theorem c67_ex (c : TL1Cur) (id : Int) (hc : okCu c) (hp : True) : ∃ x_ : (TThing) × TL1Cur, (fun x_ : (TThing) × TL1Cur => okCu x_.2 ∧ (fun x : TThing => True) x_.1) x_ ∧ PCo Tryd.prog 67 [.ptr (0, 0) 0, dI id] (Tab.of [((0, 0), .box (encTL1Cur c))]) ((fun x_ : (TThing) × TL1Cur => (fun x : TThing => (encTThing x : D)) x_.1) x_) (Tab.of ((fun x_ : (TThing) × TL1Cur => (((0, 0), .box (encTL1Cur x_.2)) :: (fun x : TThing => ([] : List (Nm × OO))) x_.1)) x_)) := by
  refine pco_ex_of_run (fun x_ : (TThing) × TL1Cur => okCu x_.2 ∧ (fun x : TThing => True) x_.1) (fun x_ : (TThing) × TL1Cur => (fun x : TThing => (encTThing x : D)) x_.1) (fun x_ : (TThing) × TL1Cur => (((0, 0), .box (encTL1Cur x_.2)) :: (fun x : TThing => ([] : List (Nm × OO))) x_.1)) [] (E := ⟨[c52], [], []⟩) (m := false) (base := 1000000) (Env.ok_cons c52_ok Env.ok_nil) G_ok mix 300 6 Tryd.func67 (by kernel_rfl) rfl (by kernel_rfl) (by kernel_rfl) (by kernel_rfl) rfl ?_
  simp [Tryd.f67, hc]
  repeat' (with_reducible first | apply and_rev | apply Exists.intro (⟨?_, ?_, ?_, ?_, ?_⟩ : TThing) | apply Exists.intro | intro _)
  all_goals try dsimp only
  all_goals try with_reducible rfl
  all_goals try rfl
  all_goals (first | done | omega | assumption | exact List.length_pos_iff.2 (by assumption) | (simp [*]; done) | (simp [*]; omega) | (simp [*, below_eq]; done) | (simp [*, below_eq]; omega) | (simp only [below_eq, Int.reduceLT]; omega) | trace_state)
open Classical in
noncomputable def q67 (c : TL1Cur) (id : Int) : (TThing) × TL1Cur := if h : okCu c ∧ True then Classical.choose (c67_ex c id h.1 h.2) else (default, ⟨[], 0, 0⟩)
theorem q67_sp (c : TL1Cur) (id : Int) (hc : okCu c) (hp : True) : (fun x_ : (TThing) × TL1Cur => okCu x_.2 ∧ (fun x : TThing => True) x_.1) (q67 c id) ∧ PCo Tryd.prog 67 [.ptr (0, 0) 0, dI id] (Tab.of [((0, 0), .box (encTL1Cur c))]) ((fun x_ : (TThing) × TL1Cur => (fun x : TThing => (encTThing x : D)) x_.1) (q67 c id)) (Tab.of ((fun x_ : (TThing) × TL1Cur => (((0, 0), .box (encTL1Cur x_.2)) :: (fun x : TThing => ([] : List (Nm × OO))) x_.1)) (q67 c id))) := by
  have e : q67 c id = Classical.choose (c67_ex c id hc hp) := by rw [q67, dif_pos ⟨hc, hp⟩]
  rw [e]
  exact Classical.choose_spec (c67_ex c id hc hp)
noncomputable def v67 (c : TL1Cur) (id : Int) : TThing := (q67 c id).1
noncomputable def n67 (c : TL1Cur) (id : Int) : TL1Cur := (q67 c id).2
open Classical in
@[simp] theorem n67_ok (c : TL1Cur) (id : Int) : okCu (n67 c id) := by
  by_cases h : okCu c ∧ True
  · exact (q67_sp c id h.1 h.2).1.1
  · rw [n67, q67, dif_neg h]; exact ⟨by simp, by simp, by simp⟩
theorem v67_ok (c : TL1Cur) (id : Int) (hc : okCu c) (hp : True) : (fun x : TThing => True) (v67 c id) := (q67_sp c id hc hp).1.2
noncomputable def c67 : Con := mkCon 67 true (α := TL1Cur × Int) (fun x => (fun (c : TL1Cur) (id : Int) => ([.ptr (0, 0) 0, dI id] : List D)) x.1 x.2) (fun x => (fun (c : TL1Cur) (id : Int) => ([((0, 0), .box (encTL1Cur c))] : List (Nm × OO))) x.1 x.2) (fun x => (fun (c : TL1Cur) (id : Int) => okCu c ∧ True) x.1 x.2) (fun x => (fun (c : TL1Cur) (id : Int) => (fun x : TThing => (encTThing x : D)) (v67 c id)) x.1 x.2) (fun x => (fun (c : TL1Cur) (id : Int) => (((0, 0), .box (encTL1Cur (n67 c id))) :: (fun x : TThing => ([] : List (Nm × OO))) (v67 c id))) x.1 x.2)
@[simp] theorem c67_f : c67.f = 67 := rfl
@[simp] theorem c67_own : c67.own = true := rfl
theorem c67_inj : ∀ u_ v_ : TL1Cur × Int, ((fun x => (fun (c : TL1Cur) (id : Int) => ([.ptr (0, 0) 0, dI id] : List D)) x.1 x.2) u_).map nz = ((fun x => (fun (c : TL1Cur) (id : Int) => ([.ptr (0, 0) 0, dI id] : List D)) x.1 x.2) v_).map nz → (fun x => (fun (c : TL1Cur) (id : Int) => ([((0, 0), .box (encTL1Cur c))] : List (Nm × OO))) x.1 x.2) u_ = (fun x => (fun (c : TL1Cur) (id : Int) => ([((0, 0), .box (encTL1Cur c))] : List (Nm × OO))) x.1 x.2) v_ → u_ = v_ := by
  intro u_ v_ h h2_
  obtain ⟨⟨c_b_, c_i_, c_h_⟩, id⟩ := u_
  obtain ⟨⟨c_b_', c_i_', c_h_'⟩, id'⟩ := v_
  simp [nz_lit, nz1_lit, nz_agg, nz_sl, nz1_sl, nz_sx, nz_el, nz1_el, nz_own, nz1_own, nz_ptr, nz_fn, nz_iface] at h h2_
  first | (simp [h, h2_]; done) | (obtain ⟨h3_, h4_⟩ := List.append_inj h2_ h.1; simp_all; done) | simp_all | grind
@[simp] theorem c67_fn (c : TL1Cur) (id : Int) : c67.fn ([.ptr (0, 0) 0, .lit (.int .i64 id)]) ([((0, 0), .box (.agg [.sl false 1 (.lit (.int .u8 0)) (ML dU c.b_), .lit (.int .i64 c.i_), .lit (.int .i64 c.h_)]))]) = some (okCu c ∧ True, (fun x : TThing => (encTThing x : D)) (v67 c id), (((0, 0), .box (encTL1Cur (n67 c id))) :: (fun x : TThing => ([] : List (Nm × OO))) (v67 c id))) :=
  mkCon_fn c67_inj ((c, id) : TL1Cur × Int) rfl rfl
theorem c67_ok : c67.ok Tryd.prog := mkCon_ok fun ⟨c, id⟩ hpre => (q67_sp c id hpre.1 hpre.2).2
/-- loop.example/g03007/spec.l4Any -/
theorem c56_ex (c : TL1Cur) (hc : okCu c) (hp : True) : ∃ x_ : (TThing) × TL1Cur, (fun x_ : (TThing) × TL1Cur => okCu x_.2 ∧ (fun x : TThing => True) x_.1) x_ ∧ PCo Tryd.prog 56 [.ptr (0, 0) 0] (Tab.of [((0, 0), .box (encTL1Cur c))]) ((fun x_ : (TThing) × TL1Cur => (fun x : TThing => (encTThing x : D)) x_.1) x_) (Tab.of ((fun x_ : (TThing) × TL1Cur => (((0, 0), .box (encTL1Cur x_.2)) :: (fun x : TThing => ([] : List (Nm × OO))) x_.1)) x_)) := by
  refine pco_ex_of_run (fun x_ : (TThing) × TL1Cur => okCu x_.2 ∧ (fun x : TThing => True) x_.1) (fun x_ : (TThing) × TL1Cur => (fun x : TThing => (encTThing x : D)) x_.1) (fun x_ : (TThing) × TL1Cur => (((0, 0), .box (encTL1Cur x_.2)) :: (fun x : TThing => ([] : List (Nm × OO))) x_.1)) [] (E := ⟨[c38, c52, c53, c67], [], []⟩) (m := false) (base := 1000000) (Env.ok_cons c38_ok (Env.ok_cons c52_ok (Env.ok_cons c53_ok (Env.ok_cons c67_ok Env.ok_nil)))) G_ok mix 300 6 Tryd.func56 (by kernel_rfl) rfl (by kernel_rfl) (by kernel_rfl) (by kernel_rfl) rfl ?_
  simp [Tryd.f56, hc]
  repeat' (with_reducible first | apply and_rev | apply Exists.intro (⟨?_, ?_, ?_, ?_, ?_⟩ : TThing) | apply Exists.intro | intro _)
  all_goals try dsimp only
  all_goals try with_reducible rfl
  all_goals try rfl
  all_goals (first | done | omega | assumption | exact List.length_pos_iff.2 (by assumption) | (simp [*]; done) | (simp [*]; omega) | (simp [*, below_eq]; done) | (simp [*, below_eq]; omega) | (simp only [below_eq, Int.reduceLT]; omega) | trace_state)
open Classical in
noncomputable def q56 (c : TL1Cur) : (TThing) × TL1Cur := if h : okCu c ∧ True then Classical.choose (c56_ex c  h.1 h.2) else (default, ⟨[], 0, 0⟩)
theorem q56_sp (c : TL1Cur) (hc : okCu c) (hp : True) : (fun x_ : (TThing) × TL1Cur => okCu x_.2 ∧ (fun x : TThing => True) x_.1) (q56 c ) ∧ PCo Tryd.prog 56 [.ptr (0, 0) 0] (Tab.of [((0, 0), .box (encTL1Cur c))]) ((fun x_ : (TThing) × TL1Cur => (fun x : TThing => (encTThing x : D)) x_.1) (q56 c )) (Tab.of ((fun x_ : (TThing) × TL1Cur => (((0, 0), .box (encTL1Cur x_.2)) :: (fun x : TThing => ([] : List (Nm × OO))) x_.1)) (q56 c ))) := by
  have e : q56 c  = Classical.choose (c56_ex c  hc hp) := by rw [q56, dif_pos ⟨hc, hp⟩]
  rw [e]
  exact Classical.choose_spec (c56_ex c  hc hp)
noncomputable def v56 (c : TL1Cur) : TThing := (q56 c ).1
noncomputable def n56 (c : TL1Cur) : TL1Cur := (q56 c ).2
open Classical in
@[simp] theorem n56_ok (c : TL1Cur) : okCu (n56 c ) := by
  by_cases h : okCu c ∧ True
  · exact (q56_sp c  h.1 h.2).1.1
  · rw [n56, q56, dif_neg h]; exact ⟨by simp, by simp, by simp⟩
theorem v56_ok (c : TL1Cur) (hc : okCu c) (hp : True) : (fun x : TThing => True) (v56 c ) := (q56_sp c  hc hp).1.2
noncomputable def c56 : Con := mkCon 56 true (α := TL1Cur) (fun x => (fun (c : TL1Cur) => ([.ptr (0, 0) 0] : List D)) x) (fun x => (fun (c : TL1Cur) => ([((0, 0), .box (encTL1Cur c))] : List (Nm × OO))) x) (fun x => (fun (c : TL1Cur) => okCu c ∧ True) x) (fun x => (fun (c : TL1Cur) => (fun x : TThing => (encTThing x : D)) (v56 c )) x) (fun x => (fun (c : TL1Cur) => (((0, 0), .box (encTL1Cur (n56 c ))) :: (fun x : TThing => ([] : List (Nm × OO))) (v56 c ))) x)
@[simp] theorem c56_f : c56.f = 56 := rfl
@[simp] theorem c56_own : c56.own = true := rfl
theorem c56_inj : ∀ u_ v_ : TL1Cur, ((fun x => (fun (c : TL1Cur) => ([.ptr (0, 0) 0] : List D)) x) u_).map nz = ((fun x => (fun (c : TL1Cur) => ([.ptr (0, 0) 0] : List D)) x) v_).map nz → (fun x => (fun (c : TL1Cur) => ([((0, 0), .box (encTL1Cur c))] : List (Nm × OO))) x) u_ = (fun x => (fun (c : TL1Cur) => ([((0, 0), .box (encTL1Cur c))] : List (Nm × OO))) x) v_ → u_ = v_ := by
  intro u_ v_ h h2_
  obtain ⟨c_b_, c_i_, c_h_⟩ := u_
  obtain ⟨c_b_', c_i_', c_h_'⟩ := v_
  simp [nz_lit, nz1_lit, nz_agg, nz_sl, nz1_sl, nz_sx, nz_el, nz1_el, nz_own, nz1_own, nz_ptr, nz_fn, nz_iface] at h h2_
  first | (simp [h, h2_]; done) | (obtain ⟨h3_, h4_⟩ := List.append_inj h2_ h.1; simp_all; done) | simp_all | grind
@[simp] theorem c56_fn (c : TL1Cur) : c56.fn ([.ptr (0, 0) 0]) ([((0, 0), .box (.agg [.sl false 1 (.lit (.int .u8 0)) (ML dU c.b_), .lit (.int .i64 c.i_), .lit (.int .i64 c.h_)]))]) = some (okCu c ∧ True, (fun x : TThing => (encTThing x : D)) (v56 c ), (((0, 0), .box (encTL1Cur (n56 c ))) :: (fun x : TThing => ([] : List (Nm × OO))) (v56 c ))) :=
  mkCon_fn c56_inj (c : TL1Cur) rfl rfl
theorem c56_ok : c56.ok Tryd.prog := mkCon_ok fun c hpre => (q56_sp c  hpre.1 hpre.2).2
end Go.Proofs.YtpnfkjbnhholfaaDoor
