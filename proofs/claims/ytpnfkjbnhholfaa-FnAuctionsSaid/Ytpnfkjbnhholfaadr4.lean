/- Contracts of the functions that the laws run. -/
import Derived.Test.YtpnfkjbnhholfaaEngB
import Derived.Test.YtpnfkjbnhholfaaEngB
import Derived.Test.Ytpnfkjbnhholfaadr0
import Derived.Test.Ytpnfkjbnhholfaach04
import Derived.Test.YtpnfkjbnhholfaaEngB
namespace Go.Proofs.Ytpnfkjbnhholfaa
open Go Go.Eng
set_option linter.unusedSimpArgs false
set_option linter.unusedVariables false
set_option maxRecDepth 10000
set_option maxHeartbeats 1000000
/-- loop.example/g03007/spec.l4Raw -/
theorem c142_ex (c : TL1Cur) (hc : okCu c) (hp : True) : ∃ x_ : (Int) × TL1Cur, (fun x_ : (Int) × TL1Cur => okCu x_.2 ∧ (fun x : Int => -9223372036854775808 ≤ x ∧ x ≤ 9223372036854775807) x_.1) x_ ∧ PCo Try.prog 142 [.ptr (0, 0) 0] (Tab.of [((0, 0), .box (encTL1Cur c))]) ((fun x_ : (Int) × TL1Cur => (fun x : Int => (dI x : D)) x_.1) x_) (Tab.of ((fun x_ : (Int) × TL1Cur => (((0, 0), .box (encTL1Cur x_.2)) :: (fun x : Int => ([] : List (Nm × OO))) x_.1)) x_)) := by
  refine pco_ex_of_run (fun x_ : (Int) × TL1Cur => okCu x_.2 ∧ (fun x : Int => -9223372036854775808 ≤ x ∧ x ≤ 9223372036854775807) x_.1) (fun x_ : (Int) × TL1Cur => (fun x : Int => (dI x : D)) x_.1) (fun x_ : (Int) × TL1Cur => (((0, 0), .box (encTL1Cur x_.2)) :: (fun x : Int => ([] : List (Nm × OO))) x_.1)) [] (E := ⟨[c140], [], []⟩) (m := false) (base := 1000000) (Env.ok_cons c140_ok Env.ok_nil) G_ok mix 300 6 Try.func142 (by kernel_rfl) rfl (by kernel_rfl) (by kernel_rfl) (by kernel_rfl) rfl ?_
  simp [Try.f142, hc]
  have hm := v140_ok c [-1, 0, 8, 50, 51, 1000, 9223372036854775807, -9223372036854775808] hc (by simp)
  simp at hm
  repeat' (with_reducible first | apply and_rev | apply Exists.intro | intro _)
  all_goals try dsimp only
  all_goals try with_reducible rfl
  all_goals try rfl
  all_goals (first | done | omega | assumption | (simp [*]; done) | (simp [*]; omega) | (simp [*, below_eq]; done) | (simp [*, below_eq]; omega) | (simp only [below_eq, Int.reduceLT]; omega) | trace_state)
open Classical in
noncomputable def q142 (c : TL1Cur) : (Int) × TL1Cur := if h : okCu c ∧ True then Classical.choose (c142_ex c  h.1 h.2) else (default, ⟨[], 0, 0⟩)
theorem q142_sp (c : TL1Cur) (hc : okCu c) (hp : True) : (fun x_ : (Int) × TL1Cur => okCu x_.2 ∧ (fun x : Int => -9223372036854775808 ≤ x ∧ x ≤ 9223372036854775807) x_.1) (q142 c ) ∧ PCo Try.prog 142 [.ptr (0, 0) 0] (Tab.of [((0, 0), .box (encTL1Cur c))]) ((fun x_ : (Int) × TL1Cur => (fun x : Int => (dI x : D)) x_.1) (q142 c )) (Tab.of ((fun x_ : (Int) × TL1Cur => (((0, 0), .box (encTL1Cur x_.2)) :: (fun x : Int => ([] : List (Nm × OO))) x_.1)) (q142 c ))) := by
  have e : q142 c  = Classical.choose (c142_ex c  hc hp) := by rw [q142, dif_pos ⟨hc, hp⟩]
  rw [e]
  exact Classical.choose_spec (c142_ex c  hc hp)
noncomputable def v142 (c : TL1Cur) : Int := (q142 c ).1
noncomputable def n142 (c : TL1Cur) : TL1Cur := (q142 c ).2
open Classical in
@[simp] theorem n142_ok (c : TL1Cur) : okCu (n142 c ) := by
  by_cases h : okCu c ∧ True
  · exact (q142_sp c  h.1 h.2).1.1
  · rw [n142, q142, dif_neg h]; exact ⟨by simp, by simp, by simp⟩
theorem v142_ok (c : TL1Cur) (hc : okCu c) (hp : True) : (fun x : Int => -9223372036854775808 ≤ x ∧ x ≤ 9223372036854775807) (v142 c ) := (q142_sp c  hc hp).1.2
noncomputable def c142 : Con := mkCon 142 true (α := TL1Cur) (fun x => (fun (c : TL1Cur) => ([.ptr (0, 0) 0] : List D)) x) (fun x => (fun (c : TL1Cur) => ([((0, 0), .box (encTL1Cur c))] : List (Nm × OO))) x) (fun x => (fun (c : TL1Cur) => okCu c ∧ True) x) (fun x => (fun (c : TL1Cur) => (fun x : Int => (dI x : D)) (v142 c )) x) (fun x => (fun (c : TL1Cur) => (((0, 0), .box (encTL1Cur (n142 c ))) :: (fun x : Int => ([] : List (Nm × OO))) (v142 c ))) x)
@[simp] theorem c142_f : c142.f = 142 := rfl
@[simp] theorem c142_own : c142.own = true := rfl
theorem c142_inj : ∀ u_ v_ : TL1Cur, ((fun x => (fun (c : TL1Cur) => ([.ptr (0, 0) 0] : List D)) x) u_).map nz = ((fun x => (fun (c : TL1Cur) => ([.ptr (0, 0) 0] : List D)) x) v_).map nz → (fun x => (fun (c : TL1Cur) => ([((0, 0), .box (encTL1Cur c))] : List (Nm × OO))) x) u_ = (fun x => (fun (c : TL1Cur) => ([((0, 0), .box (encTL1Cur c))] : List (Nm × OO))) x) v_ → u_ = v_ := by
  intro u_ v_ h h2_
  obtain ⟨c_b_, c_i_, c_h_⟩ := u_
  obtain ⟨c_b_', c_i_', c_h_'⟩ := v_
  simp [nz_lit, nz1_lit, nz_agg, nz_sl, nz1_sl, nz_sx, nz_el, nz1_el, nz_own, nz1_own, nz_ptr, nz_fn, nz_iface] at h h2_
  first | (simp [h, h2_]; done) | (obtain ⟨h3_, h4_⟩ := List.append_inj h2_ h.1; simp_all; done) | simp_all | grind
@[simp] theorem c142_fn (c : TL1Cur) : c142.fn ([.ptr (0, 0) 0]) ([((0, 0), .box (.agg [.sl false 1 (.lit (.int .u8 0)) (ML dU c.b_), .lit (.int .i64 c.i_), .lit (.int .i64 c.h_)]))]) = some (okCu c ∧ True, (fun x : Int => (dI x : D)) (v142 c ), (((0, 0), .box (encTL1Cur (n142 c ))) :: (fun x : Int => ([] : List (Nm × OO))) (v142 c ))) :=
  mkCon_fn c142_inj (c : TL1Cur) rfl rfl
theorem c142_ok : c142.ok Try.prog := mkCon_ok fun c hpre => (q142_sp c  hpre.1 hpre.2).2
/-- loop.example/g03007/spec.l4Draw -/
theorem c168_ex (c : TL1Cur) (id : Int) (hc : okCu c) (hp : True) : ∃ x_ : (TThing) × TL1Cur, (fun x_ : (TThing) × TL1Cur => okCu x_.2 ∧ (fun x : TThing => True) x_.1) x_ ∧ PCo Try.prog 168 [.ptr (0, 0) 0, dI id] (Tab.of [((0, 0), .box (encTL1Cur c))]) ((fun x_ : (TThing) × TL1Cur => (fun x : TThing => (encTThing x : D)) x_.1) x_) (Tab.of ((fun x_ : (TThing) × TL1Cur => (((0, 0), .box (encTL1Cur x_.2)) :: (fun x : TThing => ([] : List (Nm × OO))) x_.1)) x_)) := by
  refine pco_ex_of_run (fun x_ : (TThing) × TL1Cur => okCu x_.2 ∧ (fun x : TThing => True) x_.1) (fun x_ : (TThing) × TL1Cur => (fun x : TThing => (encTThing x : D)) x_.1) (fun x_ : (TThing) × TL1Cur => (((0, 0), .box (encTL1Cur x_.2)) :: (fun x : TThing => ([] : List (Nm × OO))) x_.1)) [] (E := ⟨[c72], [], []⟩) (m := false) (base := 1000000) (Env.ok_cons c72_ok Env.ok_nil) G_ok mix 300 6 Try.func168 (by kernel_rfl) rfl (by kernel_rfl) (by kernel_rfl) (by kernel_rfl) rfl ?_
  simp [Try.f168, hc]
  repeat' (with_reducible first | apply and_rev | apply Exists.intro (⟨?_, ?_, ?_, ?_, ?_⟩ : TThing) | apply Exists.intro | intro _)
  all_goals try dsimp only
  all_goals try with_reducible rfl
  all_goals try rfl
  all_goals (first | done | omega | assumption | (simp [*]; done) | (simp [*]; omega) | (simp [*, below_eq]; done) | (simp [*, below_eq]; omega) | (simp only [below_eq, Int.reduceLT]; omega) | trace_state)
open Classical in
noncomputable def q168 (c : TL1Cur) (id : Int) : (TThing) × TL1Cur := if h : okCu c ∧ True then Classical.choose (c168_ex c id h.1 h.2) else (default, ⟨[], 0, 0⟩)
theorem q168_sp (c : TL1Cur) (id : Int) (hc : okCu c) (hp : True) : (fun x_ : (TThing) × TL1Cur => okCu x_.2 ∧ (fun x : TThing => True) x_.1) (q168 c id) ∧ PCo Try.prog 168 [.ptr (0, 0) 0, dI id] (Tab.of [((0, 0), .box (encTL1Cur c))]) ((fun x_ : (TThing) × TL1Cur => (fun x : TThing => (encTThing x : D)) x_.1) (q168 c id)) (Tab.of ((fun x_ : (TThing) × TL1Cur => (((0, 0), .box (encTL1Cur x_.2)) :: (fun x : TThing => ([] : List (Nm × OO))) x_.1)) (q168 c id))) := by
  have e : q168 c id = Classical.choose (c168_ex c id hc hp) := by rw [q168, dif_pos ⟨hc, hp⟩]
  rw [e]
  exact Classical.choose_spec (c168_ex c id hc hp)
noncomputable def v168 (c : TL1Cur) (id : Int) : TThing := (q168 c id).1
noncomputable def n168 (c : TL1Cur) (id : Int) : TL1Cur := (q168 c id).2
open Classical in
@[simp] theorem n168_ok (c : TL1Cur) (id : Int) : okCu (n168 c id) := by
  by_cases h : okCu c ∧ True
  · exact (q168_sp c id h.1 h.2).1.1
  · rw [n168, q168, dif_neg h]; exact ⟨by simp, by simp, by simp⟩
theorem v168_ok (c : TL1Cur) (id : Int) (hc : okCu c) (hp : True) : (fun x : TThing => True) (v168 c id) := (q168_sp c id hc hp).1.2
noncomputable def c168 : Con := mkCon 168 true (α := TL1Cur × Int) (fun x => (fun (c : TL1Cur) (id : Int) => ([.ptr (0, 0) 0, dI id] : List D)) x.1 x.2) (fun x => (fun (c : TL1Cur) (id : Int) => ([((0, 0), .box (encTL1Cur c))] : List (Nm × OO))) x.1 x.2) (fun x => (fun (c : TL1Cur) (id : Int) => okCu c ∧ True) x.1 x.2) (fun x => (fun (c : TL1Cur) (id : Int) => (fun x : TThing => (encTThing x : D)) (v168 c id)) x.1 x.2) (fun x => (fun (c : TL1Cur) (id : Int) => (((0, 0), .box (encTL1Cur (n168 c id))) :: (fun x : TThing => ([] : List (Nm × OO))) (v168 c id))) x.1 x.2)
@[simp] theorem c168_f : c168.f = 168 := rfl
@[simp] theorem c168_own : c168.own = true := rfl
theorem c168_inj : ∀ u_ v_ : TL1Cur × Int, ((fun x => (fun (c : TL1Cur) (id : Int) => ([.ptr (0, 0) 0, dI id] : List D)) x.1 x.2) u_).map nz = ((fun x => (fun (c : TL1Cur) (id : Int) => ([.ptr (0, 0) 0, dI id] : List D)) x.1 x.2) v_).map nz → (fun x => (fun (c : TL1Cur) (id : Int) => ([((0, 0), .box (encTL1Cur c))] : List (Nm × OO))) x.1 x.2) u_ = (fun x => (fun (c : TL1Cur) (id : Int) => ([((0, 0), .box (encTL1Cur c))] : List (Nm × OO))) x.1 x.2) v_ → u_ = v_ := by
  intro u_ v_ h h2_
  obtain ⟨⟨c_b_, c_i_, c_h_⟩, id⟩ := u_
  obtain ⟨⟨c_b_', c_i_', c_h_'⟩, id'⟩ := v_
  simp [nz_lit, nz1_lit, nz_agg, nz_sl, nz1_sl, nz_sx, nz_el, nz1_el, nz_own, nz1_own, nz_ptr, nz_fn, nz_iface] at h h2_
  first | (simp [h, h2_]; done) | (obtain ⟨h3_, h4_⟩ := List.append_inj h2_ h.1; simp_all; done) | simp_all | grind
@[simp] theorem c168_fn (c : TL1Cur) (id : Int) : c168.fn ([.ptr (0, 0) 0, .lit (.int .i64 id)]) ([((0, 0), .box (.agg [.sl false 1 (.lit (.int .u8 0)) (ML dU c.b_), .lit (.int .i64 c.i_), .lit (.int .i64 c.h_)]))]) = some (okCu c ∧ True, (fun x : TThing => (encTThing x : D)) (v168 c id), (((0, 0), .box (encTL1Cur (n168 c id))) :: (fun x : TThing => ([] : List (Nm × OO))) (v168 c id))) :=
  mkCon_fn c168_inj ((c, id) : TL1Cur × Int) rfl rfl
theorem c168_ok : c168.ok Try.prog := mkCon_ok fun ⟨c, id⟩ hpre => (q168_sp c id hpre.1 hpre.2).2
/-- loop.example/g03007/spec.l4Any -/
theorem c110_ex (c : TL1Cur) (hc : okCu c) (hp : True) : ∃ x_ : (TThing) × TL1Cur, (fun x_ : (TThing) × TL1Cur => okCu x_.2 ∧ (fun x : TThing => True) x_.1) x_ ∧ PCo Try.prog 110 [.ptr (0, 0) 0] (Tab.of [((0, 0), .box (encTL1Cur c))]) ((fun x_ : (TThing) × TL1Cur => (fun x : TThing => (encTThing x : D)) x_.1) x_) (Tab.of ((fun x_ : (TThing) × TL1Cur => (((0, 0), .box (encTL1Cur x_.2)) :: (fun x : TThing => ([] : List (Nm × OO))) x_.1)) x_)) := by
  refine pco_ex_of_run (fun x_ : (TThing) × TL1Cur => okCu x_.2 ∧ (fun x : TThing => True) x_.1) (fun x_ : (TThing) × TL1Cur => (fun x : TThing => (encTThing x : D)) x_.1) (fun x_ : (TThing) × TL1Cur => (((0, 0), .box (encTL1Cur x_.2)) :: (fun x : TThing => ([] : List (Nm × OO))) x_.1)) [] (E := ⟨[c72, c140, c142, c168], [], []⟩) (m := false) (base := 1000000) (Env.ok_cons c72_ok (Env.ok_cons c140_ok (Env.ok_cons c142_ok (Env.ok_cons c168_ok Env.ok_nil)))) G_ok mix 300 6 Try.func110 (by kernel_rfl) rfl (by kernel_rfl) (by kernel_rfl) (by kernel_rfl) rfl ?_
  simp [Try.f110, hc]
  repeat' (with_reducible first | apply and_rev | apply Exists.intro (⟨?_, ?_, ?_, ?_, ?_⟩ : TThing) | apply Exists.intro | intro _)
  all_goals try dsimp only
  all_goals try with_reducible rfl
  all_goals try rfl
  all_goals (first | done | omega | assumption | (simp [*]; done) | (simp [*]; omega) | (simp [*, below_eq]; done) | (simp [*, below_eq]; omega) | (simp only [below_eq, Int.reduceLT]; omega) | trace_state)
open Classical in
noncomputable def q110 (c : TL1Cur) : (TThing) × TL1Cur := if h : okCu c ∧ True then Classical.choose (c110_ex c  h.1 h.2) else (default, ⟨[], 0, 0⟩)
theorem q110_sp (c : TL1Cur) (hc : okCu c) (hp : True) : (fun x_ : (TThing) × TL1Cur => okCu x_.2 ∧ (fun x : TThing => True) x_.1) (q110 c ) ∧ PCo Try.prog 110 [.ptr (0, 0) 0] (Tab.of [((0, 0), .box (encTL1Cur c))]) ((fun x_ : (TThing) × TL1Cur => (fun x : TThing => (encTThing x : D)) x_.1) (q110 c )) (Tab.of ((fun x_ : (TThing) × TL1Cur => (((0, 0), .box (encTL1Cur x_.2)) :: (fun x : TThing => ([] : List (Nm × OO))) x_.1)) (q110 c ))) := by
  have e : q110 c  = Classical.choose (c110_ex c  hc hp) := by rw [q110, dif_pos ⟨hc, hp⟩]
  rw [e]
  exact Classical.choose_spec (c110_ex c  hc hp)
noncomputable def v110 (c : TL1Cur) : TThing := (q110 c ).1
noncomputable def n110 (c : TL1Cur) : TL1Cur := (q110 c ).2
open Classical in
@[simp] theorem n110_ok (c : TL1Cur) : okCu (n110 c ) := by
  by_cases h : okCu c ∧ True
  · exact (q110_sp c  h.1 h.2).1.1
  · rw [n110, q110, dif_neg h]; exact ⟨by simp, by simp, by simp⟩
theorem v110_ok (c : TL1Cur) (hc : okCu c) (hp : True) : (fun x : TThing => True) (v110 c ) := (q110_sp c  hc hp).1.2
noncomputable def c110 : Con := mkCon 110 true (α := TL1Cur) (fun x => (fun (c : TL1Cur) => ([.ptr (0, 0) 0] : List D)) x) (fun x => (fun (c : TL1Cur) => ([((0, 0), .box (encTL1Cur c))] : List (Nm × OO))) x) (fun x => (fun (c : TL1Cur) => okCu c ∧ True) x) (fun x => (fun (c : TL1Cur) => (fun x : TThing => (encTThing x : D)) (v110 c )) x) (fun x => (fun (c : TL1Cur) => (((0, 0), .box (encTL1Cur (n110 c ))) :: (fun x : TThing => ([] : List (Nm × OO))) (v110 c ))) x)
@[simp] theorem c110_f : c110.f = 110 := rfl
@[simp] theorem c110_own : c110.own = true := rfl
theorem c110_inj : ∀ u_ v_ : TL1Cur, ((fun x => (fun (c : TL1Cur) => ([.ptr (0, 0) 0] : List D)) x) u_).map nz = ((fun x => (fun (c : TL1Cur) => ([.ptr (0, 0) 0] : List D)) x) v_).map nz → (fun x => (fun (c : TL1Cur) => ([((0, 0), .box (encTL1Cur c))] : List (Nm × OO))) x) u_ = (fun x => (fun (c : TL1Cur) => ([((0, 0), .box (encTL1Cur c))] : List (Nm × OO))) x) v_ → u_ = v_ := by
  intro u_ v_ h h2_
  obtain ⟨c_b_, c_i_, c_h_⟩ := u_
  obtain ⟨c_b_', c_i_', c_h_'⟩ := v_
  simp [nz_lit, nz1_lit, nz_agg, nz_sl, nz1_sl, nz_sx, nz_el, nz1_el, nz_own, nz1_own, nz_ptr, nz_fn, nz_iface] at h h2_
  first | (simp [h, h2_]; done) | (obtain ⟨h3_, h4_⟩ := List.append_inj h2_ h.1; simp_all; done) | simp_all | grind
@[simp] theorem c110_fn (c : TL1Cur) : c110.fn ([.ptr (0, 0) 0]) ([((0, 0), .box (.agg [.sl false 1 (.lit (.int .u8 0)) (ML dU c.b_), .lit (.int .i64 c.i_), .lit (.int .i64 c.h_)]))]) = some (okCu c ∧ True, (fun x : TThing => (encTThing x : D)) (v110 c ), (((0, 0), .box (encTL1Cur (n110 c ))) :: (fun x : TThing => ([] : List (Nm × OO))) (v110 c ))) :=
  mkCon_fn c110_inj (c : TL1Cur) rfl rfl
theorem c110_ok : c110.ok Try.prog := mkCon_ok fun c hpre => (q110_sp c  hpre.1 hpre.2).2
/-- loop.example/g03007/spec.l5Draw -/
theorem c149_ex (c : TL1Cur) (hc : okCu c) (hp : True) : ∃ x_ : (TSpan) × TL1Cur, (fun x_ : (TSpan) × TL1Cur => okCu x_.2 ∧ (fun x : TSpan => True) x_.1) x_ ∧ PCo Try.prog 149 [.ptr (0, 0) 0] (Tab.of [((0, 0), .box (encTL1Cur c))]) ((fun x_ : (TSpan) × TL1Cur => (fun x : TSpan => (encTSpan x : D)) x_.1) x_) (Tab.of ((fun x_ : (TSpan) × TL1Cur => (((0, 0), .box (encTL1Cur x_.2)) :: (fun x : TSpan => ([] : List (Nm × OO))) x_.1)) x_)) := by
  refine pco_ex_of_run (fun x_ : (TSpan) × TL1Cur => okCu x_.2 ∧ (fun x : TSpan => True) x_.1) (fun x_ : (TSpan) × TL1Cur => (fun x : TSpan => (encTSpan x : D)) x_.1) (fun x_ : (TSpan) × TL1Cur => (((0, 0), .box (encTL1Cur x_.2)) :: (fun x : TSpan => ([] : List (Nm × OO))) x_.1)) [] (E := ⟨[c72], [], []⟩) (m := false) (base := 1000000) (Env.ok_cons c72_ok Env.ok_nil) G_ok mix 300 6 Try.func149 (by kernel_rfl) rfl (by kernel_rfl) (by kernel_rfl) (by kernel_rfl) rfl ?_
  simp [Try.f149, hc]
  repeat' (with_reducible first | apply and_rev | apply Exists.intro (⟨?_, ?_⟩ : TSpan) | apply Exists.intro | intro _)
  all_goals try dsimp only
  all_goals try with_reducible rfl
  all_goals try rfl
  all_goals (first | done | omega | assumption | (simp [*]; done) | (simp [*]; omega) | (simp [*, below_eq]; done) | (simp [*, below_eq]; omega) | (simp only [below_eq, Int.reduceLT]; omega) | trace_state)
open Classical in
noncomputable def q149 (c : TL1Cur) : (TSpan) × TL1Cur := if h : okCu c ∧ True then Classical.choose (c149_ex c  h.1 h.2) else (default, ⟨[], 0, 0⟩)
theorem q149_sp (c : TL1Cur) (hc : okCu c) (hp : True) : (fun x_ : (TSpan) × TL1Cur => okCu x_.2 ∧ (fun x : TSpan => True) x_.1) (q149 c ) ∧ PCo Try.prog 149 [.ptr (0, 0) 0] (Tab.of [((0, 0), .box (encTL1Cur c))]) ((fun x_ : (TSpan) × TL1Cur => (fun x : TSpan => (encTSpan x : D)) x_.1) (q149 c )) (Tab.of ((fun x_ : (TSpan) × TL1Cur => (((0, 0), .box (encTL1Cur x_.2)) :: (fun x : TSpan => ([] : List (Nm × OO))) x_.1)) (q149 c ))) := by
  have e : q149 c  = Classical.choose (c149_ex c  hc hp) := by rw [q149, dif_pos ⟨hc, hp⟩]
  rw [e]
  exact Classical.choose_spec (c149_ex c  hc hp)
noncomputable def v149 (c : TL1Cur) : TSpan := (q149 c ).1
noncomputable def n149 (c : TL1Cur) : TL1Cur := (q149 c ).2
open Classical in
@[simp] theorem n149_ok (c : TL1Cur) : okCu (n149 c ) := by
  by_cases h : okCu c ∧ True
  · exact (q149_sp c  h.1 h.2).1.1
  · rw [n149, q149, dif_neg h]; exact ⟨by simp, by simp, by simp⟩
theorem v149_ok (c : TL1Cur) (hc : okCu c) (hp : True) : (fun x : TSpan => True) (v149 c ) := (q149_sp c  hc hp).1.2
noncomputable def c149 : Con := mkCon 149 true (α := TL1Cur) (fun x => (fun (c : TL1Cur) => ([.ptr (0, 0) 0] : List D)) x) (fun x => (fun (c : TL1Cur) => ([((0, 0), .box (encTL1Cur c))] : List (Nm × OO))) x) (fun x => (fun (c : TL1Cur) => okCu c ∧ True) x) (fun x => (fun (c : TL1Cur) => (fun x : TSpan => (encTSpan x : D)) (v149 c )) x) (fun x => (fun (c : TL1Cur) => (((0, 0), .box (encTL1Cur (n149 c ))) :: (fun x : TSpan => ([] : List (Nm × OO))) (v149 c ))) x)
@[simp] theorem c149_f : c149.f = 149 := rfl
@[simp] theorem c149_own : c149.own = true := rfl
theorem c149_inj : ∀ u_ v_ : TL1Cur, ((fun x => (fun (c : TL1Cur) => ([.ptr (0, 0) 0] : List D)) x) u_).map nz = ((fun x => (fun (c : TL1Cur) => ([.ptr (0, 0) 0] : List D)) x) v_).map nz → (fun x => (fun (c : TL1Cur) => ([((0, 0), .box (encTL1Cur c))] : List (Nm × OO))) x) u_ = (fun x => (fun (c : TL1Cur) => ([((0, 0), .box (encTL1Cur c))] : List (Nm × OO))) x) v_ → u_ = v_ := by
  intro u_ v_ h h2_
  obtain ⟨c_b_, c_i_, c_h_⟩ := u_
  obtain ⟨c_b_', c_i_', c_h_'⟩ := v_
  simp [nz_lit, nz1_lit, nz_agg, nz_sl, nz1_sl, nz_sx, nz_el, nz1_el, nz_own, nz1_own, nz_ptr, nz_fn, nz_iface] at h h2_
  first | (simp [h, h2_]; done) | (obtain ⟨h3_, h4_⟩ := List.append_inj h2_ h.1; simp_all; done) | simp_all | grind
@[simp] theorem c149_fn (c : TL1Cur) : c149.fn ([.ptr (0, 0) 0]) ([((0, 0), .box (.agg [.sl false 1 (.lit (.int .u8 0)) (ML dU c.b_), .lit (.int .i64 c.i_), .lit (.int .i64 c.h_)]))]) = some (okCu c ∧ True, (fun x : TSpan => (encTSpan x : D)) (v149 c ), (((0, 0), .box (encTL1Cur (n149 c ))) :: (fun x : TSpan => ([] : List (Nm × OO))) (v149 c ))) :=
  mkCon_fn c149_inj (c : TL1Cur) rfl rfl
theorem c149_ok : c149.ok Try.prog := mkCon_ok fun c hpre => (q149_sp c  hpre.1 hpre.2).2
/-- loop.example/g03007/spec.l5Any -/
theorem c81_ex (c : TL1Cur) (hc : okCu c) (hp : True) : ∃ x_ : (TSpan) × TL1Cur, (fun x_ : (TSpan) × TL1Cur => okCu x_.2 ∧ (fun x : TSpan => True) x_.1) x_ ∧ PCo Try.prog 81 [.ptr (0, 0) 0] (Tab.of [((0, 0), .box (encTL1Cur c))]) ((fun x_ : (TSpan) × TL1Cur => (fun x : TSpan => (encTSpan x : D)) x_.1) x_) (Tab.of ((fun x_ : (TSpan) × TL1Cur => (((0, 0), .box (encTL1Cur x_.2)) :: (fun x : TSpan => ([] : List (Nm × OO))) x_.1)) x_)) := by
  refine pco_ex_of_run (fun x_ : (TSpan) × TL1Cur => okCu x_.2 ∧ (fun x : TSpan => True) x_.1) (fun x_ : (TSpan) × TL1Cur => (fun x : TSpan => (encTSpan x : D)) x_.1) (fun x_ : (TSpan) × TL1Cur => (((0, 0), .box (encTL1Cur x_.2)) :: (fun x : TSpan => ([] : List (Nm × OO))) x_.1)) [] (E := ⟨[c72, c140, c142, c149], [], []⟩) (m := false) (base := 1000000) (Env.ok_cons c72_ok (Env.ok_cons c140_ok (Env.ok_cons c142_ok (Env.ok_cons c149_ok Env.ok_nil)))) G_ok mix 300 6 Try.func81 (by kernel_rfl) rfl (by kernel_rfl) (by kernel_rfl) (by kernel_rfl) rfl ?_
  simp [Try.f81, hc]
  repeat' (with_reducible first | apply and_rev | apply Exists.intro (⟨?_, ?_⟩ : TSpan) | apply Exists.intro | intro _)
  all_goals try dsimp only
  all_goals try with_reducible rfl
  all_goals try rfl
  all_goals (first | done | omega | assumption | (simp [*]; done) | (simp [*]; omega) | (simp [*, below_eq]; done) | (simp [*, below_eq]; omega) | (simp only [below_eq, Int.reduceLT]; omega) | trace_state)
open Classical in
noncomputable def q81 (c : TL1Cur) : (TSpan) × TL1Cur := if h : okCu c ∧ True then Classical.choose (c81_ex c  h.1 h.2) else (default, ⟨[], 0, 0⟩)
theorem q81_sp (c : TL1Cur) (hc : okCu c) (hp : True) : (fun x_ : (TSpan) × TL1Cur => okCu x_.2 ∧ (fun x : TSpan => True) x_.1) (q81 c ) ∧ PCo Try.prog 81 [.ptr (0, 0) 0] (Tab.of [((0, 0), .box (encTL1Cur c))]) ((fun x_ : (TSpan) × TL1Cur => (fun x : TSpan => (encTSpan x : D)) x_.1) (q81 c )) (Tab.of ((fun x_ : (TSpan) × TL1Cur => (((0, 0), .box (encTL1Cur x_.2)) :: (fun x : TSpan => ([] : List (Nm × OO))) x_.1)) (q81 c ))) := by
  have e : q81 c  = Classical.choose (c81_ex c  hc hp) := by rw [q81, dif_pos ⟨hc, hp⟩]
  rw [e]
  exact Classical.choose_spec (c81_ex c  hc hp)
noncomputable def v81 (c : TL1Cur) : TSpan := (q81 c ).1
noncomputable def n81 (c : TL1Cur) : TL1Cur := (q81 c ).2
open Classical in
@[simp] theorem n81_ok (c : TL1Cur) : okCu (n81 c ) := by
  by_cases h : okCu c ∧ True
  · exact (q81_sp c  h.1 h.2).1.1
  · rw [n81, q81, dif_neg h]; exact ⟨by simp, by simp, by simp⟩
theorem v81_ok (c : TL1Cur) (hc : okCu c) (hp : True) : (fun x : TSpan => True) (v81 c ) := (q81_sp c  hc hp).1.2
noncomputable def c81 : Con := mkCon 81 true (α := TL1Cur) (fun x => (fun (c : TL1Cur) => ([.ptr (0, 0) 0] : List D)) x) (fun x => (fun (c : TL1Cur) => ([((0, 0), .box (encTL1Cur c))] : List (Nm × OO))) x) (fun x => (fun (c : TL1Cur) => okCu c ∧ True) x) (fun x => (fun (c : TL1Cur) => (fun x : TSpan => (encTSpan x : D)) (v81 c )) x) (fun x => (fun (c : TL1Cur) => (((0, 0), .box (encTL1Cur (n81 c ))) :: (fun x : TSpan => ([] : List (Nm × OO))) (v81 c ))) x)
@[simp] theorem c81_f : c81.f = 81 := rfl
@[simp] theorem c81_own : c81.own = true := rfl
theorem c81_inj : ∀ u_ v_ : TL1Cur, ((fun x => (fun (c : TL1Cur) => ([.ptr (0, 0) 0] : List D)) x) u_).map nz = ((fun x => (fun (c : TL1Cur) => ([.ptr (0, 0) 0] : List D)) x) v_).map nz → (fun x => (fun (c : TL1Cur) => ([((0, 0), .box (encTL1Cur c))] : List (Nm × OO))) x) u_ = (fun x => (fun (c : TL1Cur) => ([((0, 0), .box (encTL1Cur c))] : List (Nm × OO))) x) v_ → u_ = v_ := by
  intro u_ v_ h h2_
  obtain ⟨c_b_, c_i_, c_h_⟩ := u_
  obtain ⟨c_b_', c_i_', c_h_'⟩ := v_
  simp [nz_lit, nz1_lit, nz_agg, nz_sl, nz1_sl, nz_sx, nz_el, nz1_el, nz_own, nz1_own, nz_ptr, nz_fn, nz_iface] at h h2_
  first | (simp [h, h2_]; done) | (obtain ⟨h3_, h4_⟩ := List.append_inj h2_ h.1; simp_all; done) | simp_all | grind
@[simp] theorem c81_fn (c : TL1Cur) : c81.fn ([.ptr (0, 0) 0]) ([((0, 0), .box (.agg [.sl false 1 (.lit (.int .u8 0)) (ML dU c.b_), .lit (.int .i64 c.i_), .lit (.int .i64 c.h_)]))]) = some (okCu c ∧ True, (fun x : TSpan => (encTSpan x : D)) (v81 c ), (((0, 0), .box (encTL1Cur (n81 c ))) :: (fun x : TSpan => ([] : List (Nm × OO))) (v81 c ))) :=
  mkCon_fn c81_inj (c : TL1Cur) rfl rfl
theorem c81_ok : c81.ok Try.prog := mkCon_ok fun c hpre => (q81_sp c  hpre.1 hpre.2).2

end Go.Proofs.Ytpnfkjbnhholfaa
