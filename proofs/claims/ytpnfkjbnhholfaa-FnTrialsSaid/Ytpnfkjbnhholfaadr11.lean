/- Contracts of the functions that the laws run. -/
import Derived.Test.YtpnfkjbnhholfaaEngB
import Derived.Test.YtpnfkjbnhholfaaEngB
import Derived.Test.Ytpnfkjbnhholfaadr4
import Derived.Test.Ytpnfkjbnhholfaach11p
import Derived.Test.YtpnfkjbnhholfaaEngB
namespace Go.Proofs.Ytpnfkjbnhholfaa
open Go Go.Eng
set_option linter.unusedSimpArgs false
set_option linter.unusedVariables false
set_option maxRecDepth 10000
set_option maxHeartbeats 1000000
/-- loop.example/g03007/spec.l11Draw -/
theorem c220_ex (c : TL1Cur) (hc : okCu c) (hp : True) : ∃ x_ : (List TMark) × TL1Cur, (fun x_ : (List TMark) × TL1Cur => okCu x_.2 ∧ (fun x : List TMark => x.length ≤ 5) x_.1) x_ ∧ PCo Try.prog 220 [.ptr (0, 0) 0] (Tab.of [((0, 0), .box (encTL1Cur c))]) ((fun x_ : (List TMark) × TL1Cur => (fun x : List TMark => (.own (0, 1) 2 0 x.length : D)) x_.1) x_) (Tab.of ((fun x_ : (List TMark) × TL1Cur => (((0, 0), .box (encTL1Cur x_.2)) :: (fun x : List TMark => ([((0, 1), .arr false 2 yTMark (ML encTMark x))] : List (Nm × OO))) x_.1)) x_)) := by
  refine pco_ex_of_run (fun x_ : (List TMark) × TL1Cur => okCu x_.2 ∧ (fun x : List TMark => x.length ≤ 5) x_.1) (fun x_ : (List TMark) × TL1Cur => (fun x : List TMark => (.own (0, 1) 2 0 x.length : D)) x_.1) (fun x_ : (List TMark) × TL1Cur => (((0, 0), .box (encTL1Cur x_.2)) :: (fun x : List TMark => ([((0, 1), .arr false 2 yTMark (ML encTMark x))] : List (Nm × OO))) x_.1)) [] (E := ⟨[c72, c238], [], []⟩) (m := false) (base := 0) (Env.ok_cons c72_ok (Env.ok_cons c238_ok Env.ok_nil)) G_ok mix 300 6 Try.func220 (by kernel_rfl) rfl (by kernel_rfl) (by kernel_rfl) (by kernel_rfl) rfl ?_
  simp [Try.f220, hc]
  have hb := below_bd c 6 (by omega)
  refine loop_inv (fun p : Nat × List TMark × TL1Cur => p.2.1.length + p.1 ≤ 5 ∧ okCu p.2.2) (fun p => [(0, .ptr (0, 0) 0), (3, .own (0, 1) 2 0 p.2.1.length), (4, dI p.1)]) (fun p => [((0, 0), .box (encTL1Cur p.2.2)), ((0, 1), .arr false 2 yTMark (ML encTMark p.2.1))]) 2 (fun p => p.1) ((v72 c 6).toNat, [], n72 c 6) 400 (by simp) (by simp; omega) (by simp; omega) ?_
  rintro ⟨p, l, d⟩ ⟨hl, hk⟩
  simp only at hl hk
  simp [hk]
  have b8 := below_bd d 8 (by omega)
  have hm : ∀ x, 0 < p → (mPutMark l x).length + (p - 1) ≤ 5 := fun x h => by have := mPutMark_len l x; omega
  refine ⟨fun h => ⟨by omega, by omega, ?_⟩, fun h => ?_⟩
  · skip
    refine Again.mk (p - 1, ?_, ?_) ?hinv ?hle ?hmu
    case hle =>
      simp
      repeat' (with_reducible first | apply and_rev | intro _)
      all_goals try dsimp only
      all_goals try with_reducible rfl
      all_goals try rfl
      all_goals (first | done | omega | (simp [*]; done) | (simp; omega) | trace_state)
    case hinv => (simp [*]; try (first | done | omega | (repeat' (with_reducible apply And.intro)) <;> (first | omega | assumption | trace_state)))
    case hmu => (simp; try omega)
  · skip
    repeat' (with_reducible first | apply and_rev | apply Exists.intro | intro _)
    all_goals try dsimp only
    all_goals try with_reducible rfl
    all_goals try rfl
    all_goals (first | done | omega | assumption | exact List.length_pos_iff.2 (by assumption) | (simp [*]; done) | (simp [*]; omega) | (simp [*, below_eq]; done) | (simp [*, below_eq]; omega) | (simp only [below_eq, Int.reduceLT]; omega) | trace_state)
open Classical in
noncomputable def q220 (c : TL1Cur) : (List TMark) × TL1Cur := if h : okCu c ∧ True then Classical.choose (c220_ex c  h.1 h.2) else (default, ⟨[], 0, 0⟩)
theorem q220_sp (c : TL1Cur) (hc : okCu c) (hp : True) : (fun x_ : (List TMark) × TL1Cur => okCu x_.2 ∧ (fun x : List TMark => x.length ≤ 5) x_.1) (q220 c ) ∧ PCo Try.prog 220 [.ptr (0, 0) 0] (Tab.of [((0, 0), .box (encTL1Cur c))]) ((fun x_ : (List TMark) × TL1Cur => (fun x : List TMark => (.own (0, 1) 2 0 x.length : D)) x_.1) (q220 c )) (Tab.of ((fun x_ : (List TMark) × TL1Cur => (((0, 0), .box (encTL1Cur x_.2)) :: (fun x : List TMark => ([((0, 1), .arr false 2 yTMark (ML encTMark x))] : List (Nm × OO))) x_.1)) (q220 c ))) := by
  have e : q220 c  = Classical.choose (c220_ex c  hc hp) := by rw [q220, dif_pos ⟨hc, hp⟩]
  rw [e]
  exact Classical.choose_spec (c220_ex c  hc hp)
noncomputable def v220 (c : TL1Cur) : List TMark := (q220 c ).1
noncomputable def n220 (c : TL1Cur) : TL1Cur := (q220 c ).2
open Classical in
@[simp] theorem n220_ok (c : TL1Cur) : okCu (n220 c ) := by
  by_cases h : okCu c ∧ True
  · exact (q220_sp c  h.1 h.2).1.1
  · rw [n220, q220, dif_neg h]; exact ⟨by simp, by simp, by simp⟩
theorem v220_ok (c : TL1Cur) (hc : okCu c) (hp : True) : (fun x : List TMark => x.length ≤ 5) (v220 c ) := (q220_sp c  hc hp).1.2
noncomputable def c220 : Con := mkCon 220 true (α := TL1Cur) (fun x => (fun (c : TL1Cur) => ([.ptr (0, 0) 0] : List D)) x) (fun x => (fun (c : TL1Cur) => ([((0, 0), .box (encTL1Cur c))] : List (Nm × OO))) x) (fun x => (fun (c : TL1Cur) => okCu c ∧ True) x) (fun x => (fun (c : TL1Cur) => (fun x : List TMark => (.own (0, 1) 2 0 x.length : D)) (v220 c )) x) (fun x => (fun (c : TL1Cur) => (((0, 0), .box (encTL1Cur (n220 c ))) :: (fun x : List TMark => ([((0, 1), .arr false 2 yTMark (ML encTMark x))] : List (Nm × OO))) (v220 c ))) x)
@[simp] theorem c220_f : c220.f = 220 := rfl
@[simp] theorem c220_own : c220.own = true := rfl
theorem c220_inj : ∀ u_ v_ : TL1Cur, ((fun x => (fun (c : TL1Cur) => ([.ptr (0, 0) 0] : List D)) x) u_).map nz = ((fun x => (fun (c : TL1Cur) => ([.ptr (0, 0) 0] : List D)) x) v_).map nz → (fun x => (fun (c : TL1Cur) => ([((0, 0), .box (encTL1Cur c))] : List (Nm × OO))) x) u_ = (fun x => (fun (c : TL1Cur) => ([((0, 0), .box (encTL1Cur c))] : List (Nm × OO))) x) v_ → u_ = v_ := by
  intro u_ v_ h h2_
  obtain ⟨c_b_, c_i_, c_h_⟩ := u_
  obtain ⟨c_b_', c_i_', c_h_'⟩ := v_
  simp [nz_lit, nz1_lit, nz_agg, nz_sl, nz1_sl, nz_sx, nz_el, nz1_el, nz_own, nz1_own, nz_ptr, nz_fn, nz_iface] at h h2_
  first | (simp [h, h2_]; done) | (obtain ⟨h3_, h4_⟩ := List.append_inj h2_ h.1; simp_all; done) | simp_all | grind
@[simp] theorem c220_fn (c : TL1Cur) : c220.fn ([.ptr (0, 0) 0]) ([((0, 0), .box (.agg [.sl false 1 (.lit (.int .u8 0)) (ML dU c.b_), .lit (.int .i64 c.i_), .lit (.int .i64 c.h_)]))]) = some (okCu c ∧ True, (fun x : List TMark => (.own (0, 1) 2 0 x.length : D)) (v220 c ), (((0, 0), .box (encTL1Cur (n220 c ))) :: (fun x : List TMark => ([((0, 1), .arr false 2 yTMark (ML encTMark x))] : List (Nm × OO))) (v220 c ))) :=
  mkCon_fn c220_inj (c : TL1Cur) rfl rfl
theorem c220_ok : c220.ok Try.prog := mkCon_ok fun c hpre => (q220_sp c  hpre.1 hpre.2).2
/-- loop.example/g03007/spec.l11Any -/
theorem c191_ex (c : TL1Cur) (hc : okCu c) (hp : True) : ∃ x_ : (List TMark) × TL1Cur, (fun x_ : (List TMark) × TL1Cur => okCu x_.2 ∧ (fun x : List TMark => x.length ≤ 5) x_.1) x_ ∧ PCo Try.prog 191 [.ptr (0, 0) 0] (Tab.of [((0, 0), .box (encTL1Cur c))]) ((fun x_ : (List TMark) × TL1Cur => (fun x : List TMark => (.own (0, 1) 2 0 x.length : D)) x_.1) x_) (Tab.of ((fun x_ : (List TMark) × TL1Cur => (((0, 0), .box (encTL1Cur x_.2)) :: (fun x : List TMark => ([((0, 1), .arr false 2 yTMark (ML encTMark x))] : List (Nm × OO))) x_.1)) x_)) := by
  refine pco_ex_of_run (fun x_ : (List TMark) × TL1Cur => okCu x_.2 ∧ (fun x : List TMark => x.length ≤ 5) x_.1) (fun x_ : (List TMark) × TL1Cur => (fun x : List TMark => (.own (0, 1) 2 0 x.length : D)) x_.1) (fun x_ : (List TMark) × TL1Cur => (((0, 0), .box (encTL1Cur x_.2)) :: (fun x : List TMark => ([((0, 1), .arr false 2 yTMark (ML encTMark x))] : List (Nm × OO))) x_.1)) [] (E := ⟨[c72, c140, c220], [], []⟩) (m := false) (base := 1000000) (Env.ok_cons c72_ok (Env.ok_cons c140_ok (Env.ok_cons c220_ok Env.ok_nil))) G_ok mix 300 6 Try.func191 (by kernel_rfl) rfl (by kernel_rfl) (by kernel_rfl) (by kernel_rfl) rfl ?_
  simp [Try.f191, hc]
  have hl := v220_ok c hc trivial
  have hb := lt_ne (l := v220 c) (below_bd (n220 c) (v220 c).length)
  repeat' (with_reducible first | apply and_rev | apply Exists.intro | intro _)
  all_goals try dsimp only
  all_goals try with_reducible rfl
  all_goals try rfl
  all_goals (first | done | omega | assumption | exact List.length_pos_iff.2 (by assumption) | (simp [*]; done) | (simp [*]; omega) | (simp [*, below_eq]; done) | (simp [*, below_eq]; omega) | (simp only [below_eq, Int.reduceLT]; omega) | trace_state)
open Classical in
noncomputable def q191 (c : TL1Cur) : (List TMark) × TL1Cur := if h : okCu c ∧ True then Classical.choose (c191_ex c  h.1 h.2) else (default, ⟨[], 0, 0⟩)
theorem q191_sp (c : TL1Cur) (hc : okCu c) (hp : True) : (fun x_ : (List TMark) × TL1Cur => okCu x_.2 ∧ (fun x : List TMark => x.length ≤ 5) x_.1) (q191 c ) ∧ PCo Try.prog 191 [.ptr (0, 0) 0] (Tab.of [((0, 0), .box (encTL1Cur c))]) ((fun x_ : (List TMark) × TL1Cur => (fun x : List TMark => (.own (0, 1) 2 0 x.length : D)) x_.1) (q191 c )) (Tab.of ((fun x_ : (List TMark) × TL1Cur => (((0, 0), .box (encTL1Cur x_.2)) :: (fun x : List TMark => ([((0, 1), .arr false 2 yTMark (ML encTMark x))] : List (Nm × OO))) x_.1)) (q191 c ))) := by
  have e : q191 c  = Classical.choose (c191_ex c  hc hp) := by rw [q191, dif_pos ⟨hc, hp⟩]
  rw [e]
  exact Classical.choose_spec (c191_ex c  hc hp)
noncomputable def v191 (c : TL1Cur) : List TMark := (q191 c ).1
noncomputable def n191 (c : TL1Cur) : TL1Cur := (q191 c ).2
open Classical in
@[simp] theorem n191_ok (c : TL1Cur) : okCu (n191 c ) := by
  by_cases h : okCu c ∧ True
  · exact (q191_sp c  h.1 h.2).1.1
  · rw [n191, q191, dif_neg h]; exact ⟨by simp, by simp, by simp⟩
theorem v191_ok (c : TL1Cur) (hc : okCu c) (hp : True) : (fun x : List TMark => x.length ≤ 5) (v191 c ) := (q191_sp c  hc hp).1.2
noncomputable def c191 : Con := mkCon 191 true (α := TL1Cur) (fun x => (fun (c : TL1Cur) => ([.ptr (0, 0) 0] : List D)) x) (fun x => (fun (c : TL1Cur) => ([((0, 0), .box (encTL1Cur c))] : List (Nm × OO))) x) (fun x => (fun (c : TL1Cur) => okCu c ∧ True) x) (fun x => (fun (c : TL1Cur) => (fun x : List TMark => (.own (0, 1) 2 0 x.length : D)) (v191 c )) x) (fun x => (fun (c : TL1Cur) => (((0, 0), .box (encTL1Cur (n191 c ))) :: (fun x : List TMark => ([((0, 1), .arr false 2 yTMark (ML encTMark x))] : List (Nm × OO))) (v191 c ))) x)
@[simp] theorem c191_f : c191.f = 191 := rfl
@[simp] theorem c191_own : c191.own = true := rfl
theorem c191_inj : ∀ u_ v_ : TL1Cur, ((fun x => (fun (c : TL1Cur) => ([.ptr (0, 0) 0] : List D)) x) u_).map nz = ((fun x => (fun (c : TL1Cur) => ([.ptr (0, 0) 0] : List D)) x) v_).map nz → (fun x => (fun (c : TL1Cur) => ([((0, 0), .box (encTL1Cur c))] : List (Nm × OO))) x) u_ = (fun x => (fun (c : TL1Cur) => ([((0, 0), .box (encTL1Cur c))] : List (Nm × OO))) x) v_ → u_ = v_ := by
  intro u_ v_ h h2_
  obtain ⟨c_b_, c_i_, c_h_⟩ := u_
  obtain ⟨c_b_', c_i_', c_h_'⟩ := v_
  simp [nz_lit, nz1_lit, nz_agg, nz_sl, nz1_sl, nz_sx, nz_el, nz1_el, nz_own, nz1_own, nz_ptr, nz_fn, nz_iface] at h h2_
  first | (simp [h, h2_]; done) | (obtain ⟨h3_, h4_⟩ := List.append_inj h2_ h.1; simp_all; done) | simp_all | grind
@[simp] theorem c191_fn (c : TL1Cur) : c191.fn ([.ptr (0, 0) 0]) ([((0, 0), .box (.agg [.sl false 1 (.lit (.int .u8 0)) (ML dU c.b_), .lit (.int .i64 c.i_), .lit (.int .i64 c.h_)]))]) = some (okCu c ∧ True, (fun x : List TMark => (.own (0, 1) 2 0 x.length : D)) (v191 c ), (((0, 0), .box (encTL1Cur (n191 c ))) :: (fun x : List TMark => ([((0, 1), .arr false 2 yTMark (ML encTMark x))] : List (Nm × OO))) (v191 c ))) :=
  mkCon_fn c191_inj (c : TL1Cur) rfl rfl
theorem c191_ok : c191.ok Try.prog := mkCon_ok fun c hpre => (q191_sp c  hpre.1 hpre.2).2

end Go.Proofs.Ytpnfkjbnhholfaa
