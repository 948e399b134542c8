/- Contracts of the functions that the laws run. -/
import Derived.Test.YtpnfkjbnhholfaaDoorEngB
import Derived.Test.YtpnfkjbnhholfaaDoorEngB
import Derived.Test.YtpnfkjbnhholfaaDoordr4
import Derived.Test.YtpnfkjbnhholfaaDoorch13j
import Derived.Test.YtpnfkjbnhholfaaDoorEngB
namespace Go.Proofs.YtpnfkjbnhholfaaDoor
open Go Go.Eng
set_option linter.unusedSimpArgs false
set_option linter.unusedVariables false
set_option maxRecDepth 10000
set_option maxHeartbeats 1000000
theorem mAddClaim_le (l : List TClaim) (x : TClaim) : (mAddClaim l x).length ≤ l.length + 1 := by
  have := putAt_le nClaim x.Id l
  simp only [mAddClaim, insC]; split
  · simp; omega
  · omega
theorem mSetState_le (l : List TClaim) (n st : Int) : (mSetState l n st).length = l.length := by
  simp only [mSetState, setS]; split <;> simp
/-- loop.example/g03007/spec.l13Draw -/
theorem c51_ex (c : TL1Cur) (hc : okCu c) (hp : True) : ∃ x_ : (List TClaim) × TL1Cur, (fun x_ : (List TClaim) × TL1Cur => okCu x_.2 ∧ (fun x : List TClaim => x.length ≤ 7) x_.1) x_ ∧ PCo Tryd.prog 51 [.ptr (0, 0) 0] (Tab.of [((0, 0), .box (encTL1Cur c))]) ((fun x_ : (List TClaim) × TL1Cur => (fun x : List TClaim => (.own (0, 1) 5 0 x.length : D)) x_.1) x_) (Tab.of ((fun x_ : (List TClaim) × TL1Cur => (((0, 0), .box (encTL1Cur x_.2)) :: (fun x : List TClaim => ([((0, 1), .arr false 5 yTClaim (ML encTClaim x))] : List (Nm × OO))) x_.1)) x_)) := by
  refine pco_ex_of_run (fun x_ : (List TClaim) × TL1Cur => okCu x_.2 ∧ (fun x : List TClaim => x.length ≤ 7) x_.1) (fun x_ : (List TClaim) × TL1Cur => (fun x : List TClaim => (.own (0, 1) 5 0 x.length : D)) x_.1) (fun x_ : (List TClaim) × TL1Cur => (((0, 0), .box (encTL1Cur x_.2)) :: (fun x : List TClaim => ([((0, 1), .arr false 5 yTClaim (ML encTClaim x))] : List (Nm × OO))) x_.1)) [] (E := ⟨[c52, c63, c64], [], []⟩) (m := false) (base := 0) (Env.ok_cons c52_ok (Env.ok_cons c63_ok (Env.ok_cons c64_ok Env.ok_nil))) G_ok mix 300 6 Tryd.func51 (by kernel_rfl) rfl (by kernel_rfl) (by kernel_rfl) (by kernel_rfl) rfl ?_
  simp [Tryd.f51, hc]
  refine loop_inv (fun p : Nat × List TClaim × TL1Cur => p.1 ≤ 7 ∧ p.2.1.length ≤ p.1 ∧ okCu p.2.2) (fun p => [(0, .ptr (0, 0) 0), (3, .own (0, 1) 5 0 p.2.1.length), (4, dI ((p.1 : Int) + 1))]) (fun p => [((0, 0), .box (encTL1Cur p.2.2)), ((0, 1), .arr false 5 yTClaim (ML encTClaim p.2.1))]) 2 (fun p => 8 - p.1) (0, [], c) 400 (by simp) (by simp [hc]) (by simp) ?_
  rintro ⟨p, l, d⟩ ⟨hp, hl, hk⟩
  simp only at hp hl hk
  have hb := below_bd d 8 (by omega)
  simp [hk]
  refine ⟨fun h => ?_, fun h => ?_⟩
  · have hm := fun x => mAddClaim_le l x
    have hm2 := fun a b x => mSetState_le (mAddClaim l x) a b
    have hm3 := fun x => show (mAddClaim l x).length ≤ 1073741000 from by have := hm x; omega
    have hm4 := fun x => show (mAddClaim l x).length ≤ p + 1 from by have := hm x; omega
    repeat' (with_reducible first | apply And.intro | intro _)
    all_goals try (first | omega | assumption | (simp; done) | (simp only [below_eq, Int.reduceLT]; omega))
    · exact hm3 _
    refine Again.mk (p + 1, ?_, ?_) ?hinv ?hle ?hmu
    case hle =>
      simp
      repeat' (with_reducible first | apply and_rev | intro _)
      all_goals try dsimp only
      all_goals try with_reducible rfl
      all_goals try rfl
      all_goals (first | done | omega | (simp [*]; done) | (simp; omega) | trace_state)
    case hinv => (simp [*]; try (first | done | omega | (repeat' (with_reducible apply And.intro)) <;> (first | omega | assumption | trace_state)))
    case hmu => (simp; try omega)
  · skip
    repeat' (with_reducible first | apply and_rev | apply Exists.intro | intro _)
    all_goals try dsimp only
    all_goals try with_reducible rfl
    all_goals try rfl
    all_goals (first | done | omega | assumption | exact List.length_pos_iff.2 (by assumption) | (simp [*]; done) | (simp [*]; omega) | (simp [*, below_eq]; done) | (simp [*, below_eq]; omega) | (simp only [below_eq, Int.reduceLT]; omega) | trace_state)
open Classical in
noncomputable def q51 (c : TL1Cur) : (List TClaim) × TL1Cur := if h : okCu c ∧ True then Classical.choose (c51_ex c  h.1 h.2) else (default, ⟨[], 0, 0⟩)
theorem q51_sp (c : TL1Cur) (hc : okCu c) (hp : True) : (fun x_ : (List TClaim) × TL1Cur => okCu x_.2 ∧ (fun x : List TClaim => x.length ≤ 7) x_.1) (q51 c ) ∧ PCo Tryd.prog 51 [.ptr (0, 0) 0] (Tab.of [((0, 0), .box (encTL1Cur c))]) ((fun x_ : (List TClaim) × TL1Cur => (fun x : List TClaim => (.own (0, 1) 5 0 x.length : D)) x_.1) (q51 c )) (Tab.of ((fun x_ : (List TClaim) × TL1Cur => (((0, 0), .box (encTL1Cur x_.2)) :: (fun x : List TClaim => ([((0, 1), .arr false 5 yTClaim (ML encTClaim x))] : List (Nm × OO))) x_.1)) (q51 c ))) := by
  have e : q51 c  = Classical.choose (c51_ex c  hc hp) := by rw [q51, dif_pos ⟨hc, hp⟩]
  rw [e]
  exact Classical.choose_spec (c51_ex c  hc hp)
noncomputable def v51 (c : TL1Cur) : List TClaim := (q51 c ).1
noncomputable def n51 (c : TL1Cur) : TL1Cur := (q51 c ).2
open Classical in
@[simp] theorem n51_ok (c : TL1Cur) : okCu (n51 c ) := by
  by_cases h : okCu c ∧ True
  · exact (q51_sp c  h.1 h.2).1.1
  · rw [n51, q51, dif_neg h]; exact ⟨by simp, by simp, by simp⟩
theorem v51_ok (c : TL1Cur) (hc : okCu c) (hp : True) : (fun x : List TClaim => x.length ≤ 7) (v51 c ) := (q51_sp c  hc hp).1.2
noncomputable def c51 : Con := mkCon 51 true (α := TL1Cur) (fun x => (fun (c : TL1Cur) => ([.ptr (0, 0) 0] : List D)) x) (fun x => (fun (c : TL1Cur) => ([((0, 0), .box (encTL1Cur c))] : List (Nm × OO))) x) (fun x => (fun (c : TL1Cur) => okCu c ∧ True) x) (fun x => (fun (c : TL1Cur) => (fun x : List TClaim => (.own (0, 1) 5 0 x.length : D)) (v51 c )) x) (fun x => (fun (c : TL1Cur) => (((0, 0), .box (encTL1Cur (n51 c ))) :: (fun x : List TClaim => ([((0, 1), .arr false 5 yTClaim (ML encTClaim x))] : List (Nm × OO))) (v51 c ))) x)
@[simp] theorem c51_f : c51.f = 51 := rfl
@[simp] theorem c51_own : c51.own = true := rfl
theorem c51_inj : ∀ u_ v_ : TL1Cur, ((fun x => (fun (c : TL1Cur) => ([.ptr (0, 0) 0] : List D)) x) u_).map nz = ((fun x => (fun (c : TL1Cur) => ([.ptr (0, 0) 0] : List D)) x) v_).map nz → (fun x => (fun (c : TL1Cur) => ([((0, 0), .box (encTL1Cur c))] : List (Nm × OO))) x) u_ = (fun x => (fun (c : TL1Cur) => ([((0, 0), .box (encTL1Cur c))] : List (Nm × OO))) x) v_ → u_ = v_ := by
  intro u_ v_ h h2_
  obtain ⟨c_b_, c_i_, c_h_⟩ := u_
  obtain ⟨c_b_', c_i_', c_h_'⟩ := v_
  simp [nz_lit, nz1_lit, nz_agg, nz_sl, nz1_sl, nz_sx, nz_el, nz1_el, nz_own, nz1_own, nz_ptr, nz_fn, nz_iface] at h h2_
  first | (simp [h, h2_]; done) | (obtain ⟨h3_, h4_⟩ := List.append_inj h2_ h.1; simp_all; done) | simp_all | grind
@[simp] theorem c51_fn (c : TL1Cur) : c51.fn ([.ptr (0, 0) 0]) ([((0, 0), .box (.agg [.sl false 1 (.lit (.int .u8 0)) (ML dU c.b_), .lit (.int .i64 c.i_), .lit (.int .i64 c.h_)]))]) = some (okCu c ∧ True, (fun x : List TClaim => (.own (0, 1) 5 0 x.length : D)) (v51 c ), (((0, 0), .box (encTL1Cur (n51 c ))) :: (fun x : List TClaim => ([((0, 1), .arr false 5 yTClaim (ML encTClaim x))] : List (Nm × OO))) (v51 c ))) :=
  mkCon_fn c51_inj (c : TL1Cur) rfl rfl
theorem c51_ok : c51.ok Tryd.prog := mkCon_ok fun c hpre => (q51_sp c  hpre.1 hpre.2).2
/-- loop.example/g03007/spec.l13Any -/
theorem c36_ex (c : TL1Cur) (hc : okCu c) (hp : True) : ∃ x_ : (List TClaim) × TL1Cur, (fun x_ : (List TClaim) × TL1Cur => okCu x_.2 ∧ (fun x : List TClaim => x.length ≤ 7) x_.1) x_ ∧ PCo Tryd.prog 36 [.ptr (0, 0) 0] (Tab.of [((0, 0), .box (encTL1Cur c))]) ((fun x_ : (List TClaim) × TL1Cur => (fun x : List TClaim => (.own (0, 1) 5 0 x.length : D)) x_.1) x_) (Tab.of ((fun x_ : (List TClaim) × TL1Cur => (((0, 0), .box (encTL1Cur x_.2)) :: (fun x : List TClaim => ([((0, 1), .arr false 5 yTClaim (ML encTClaim x))] : List (Nm × OO))) x_.1)) x_)) := by
  refine pco_ex_of_run (fun x_ : (List TClaim) × TL1Cur => okCu x_.2 ∧ (fun x : List TClaim => x.length ≤ 7) x_.1) (fun x_ : (List TClaim) × TL1Cur => (fun x : List TClaim => (.own (0, 1) 5 0 x.length : D)) x_.1) (fun x_ : (List TClaim) × TL1Cur => (((0, 0), .box (encTL1Cur x_.2)) :: (fun x : List TClaim => ([((0, 1), .arr false 5 yTClaim (ML encTClaim x))] : List (Nm × OO))) x_.1)) [] (E := ⟨[c38, c51, c52, c53], [], []⟩) (m := false) (base := 1000000) (Env.ok_cons c38_ok (Env.ok_cons c51_ok (Env.ok_cons c52_ok (Env.ok_cons c53_ok Env.ok_nil)))) G_ok mix 300 6 Tryd.func36 (by kernel_rfl) rfl (by kernel_rfl) (by kernel_rfl) (by kernel_rfl) rfl ?_
  simp [Tryd.f36, hc]
  have hl := v51_ok c hc trivial
  have hb := lt_ne (l := v51 c) (below_bd (n51 c) (v51 c).length)
  repeat' (with_reducible first | apply and_rev | apply Exists.intro | intro _)
  all_goals try dsimp only
  all_goals try with_reducible rfl
  all_goals try rfl
  all_goals (first | done | omega | assumption | exact List.length_pos_iff.2 (by assumption) | (simp [*]; done) | (simp [*]; omega) | (simp [*, below_eq]; done) | (simp [*, below_eq]; omega) | (simp only [below_eq, Int.reduceLT]; omega) | trace_state)
open Classical in
noncomputable def q36 (c : TL1Cur) : (List TClaim) × TL1Cur := if h : okCu c ∧ True then Classical.choose (c36_ex c  h.1 h.2) else (default, ⟨[], 0, 0⟩)
theorem q36_sp (c : TL1Cur) (hc : okCu c) (hp : True) : (fun x_ : (List TClaim) × TL1Cur => okCu x_.2 ∧ (fun x : List TClaim => x.length ≤ 7) x_.1) (q36 c ) ∧ PCo Tryd.prog 36 [.ptr (0, 0) 0] (Tab.of [((0, 0), .box (encTL1Cur c))]) ((fun x_ : (List TClaim) × TL1Cur => (fun x : List TClaim => (.own (0, 1) 5 0 x.length : D)) x_.1) (q36 c )) (Tab.of ((fun x_ : (List TClaim) × TL1Cur => (((0, 0), .box (encTL1Cur x_.2)) :: (fun x : List TClaim => ([((0, 1), .arr false 5 yTClaim (ML encTClaim x))] : List (Nm × OO))) x_.1)) (q36 c ))) := by
  have e : q36 c  = Classical.choose (c36_ex c  hc hp) := by rw [q36, dif_pos ⟨hc, hp⟩]
  rw [e]
  exact Classical.choose_spec (c36_ex c  hc hp)
noncomputable def v36 (c : TL1Cur) : List TClaim := (q36 c ).1
noncomputable def n36 (c : TL1Cur) : TL1Cur := (q36 c ).2
open Classical in
@[simp] theorem n36_ok (c : TL1Cur) : okCu (n36 c ) := by
  by_cases h : okCu c ∧ True
  · exact (q36_sp c  h.1 h.2).1.1
  · rw [n36, q36, dif_neg h]; exact ⟨by simp, by simp, by simp⟩
theorem v36_ok (c : TL1Cur) (hc : okCu c) (hp : True) : (fun x : List TClaim => x.length ≤ 7) (v36 c ) := (q36_sp c  hc hp).1.2
noncomputable def c36 : Con := mkCon 36 true (α := TL1Cur) (fun x => (fun (c : TL1Cur) => ([.ptr (0, 0) 0] : List D)) x) (fun x => (fun (c : TL1Cur) => ([((0, 0), .box (encTL1Cur c))] : List (Nm × OO))) x) (fun x => (fun (c : TL1Cur) => okCu c ∧ True) x) (fun x => (fun (c : TL1Cur) => (fun x : List TClaim => (.own (0, 1) 5 0 x.length : D)) (v36 c )) x) (fun x => (fun (c : TL1Cur) => (((0, 0), .box (encTL1Cur (n36 c ))) :: (fun x : List TClaim => ([((0, 1), .arr false 5 yTClaim (ML encTClaim x))] : List (Nm × OO))) (v36 c ))) x)
@[simp] theorem c36_f : c36.f = 36 := rfl
@[simp] theorem c36_own : c36.own = true := rfl
theorem c36_inj : ∀ u_ v_ : TL1Cur, ((fun x => (fun (c : TL1Cur) => ([.ptr (0, 0) 0] : List D)) x) u_).map nz = ((fun x => (fun (c : TL1Cur) => ([.ptr (0, 0) 0] : List D)) x) v_).map nz → (fun x => (fun (c : TL1Cur) => ([((0, 0), .box (encTL1Cur c))] : List (Nm × OO))) x) u_ = (fun x => (fun (c : TL1Cur) => ([((0, 0), .box (encTL1Cur c))] : List (Nm × OO))) x) v_ → u_ = v_ := by
  intro u_ v_ h h2_
  obtain ⟨c_b_, c_i_, c_h_⟩ := u_
  obtain ⟨c_b_', c_i_', c_h_'⟩ := v_
  simp [nz_lit, nz1_lit, nz_agg, nz_sl, nz1_sl, nz_sx, nz_el, nz1_el, nz_own, nz1_own, nz_ptr, nz_fn, nz_iface] at h h2_
  first | (simp [h, h2_]; done) | (obtain ⟨h3_, h4_⟩ := List.append_inj h2_ h.1; simp_all; done) | simp_all | grind
@[simp] theorem c36_fn (c : TL1Cur) : c36.fn ([.ptr (0, 0) 0]) ([((0, 0), .box (.agg [.sl false 1 (.lit (.int .u8 0)) (ML dU c.b_), .lit (.int .i64 c.i_), .lit (.int .i64 c.h_)]))]) = some (okCu c ∧ True, (fun x : List TClaim => (.own (0, 1) 5 0 x.length : D)) (v36 c ), (((0, 0), .box (encTL1Cur (n36 c ))) :: (fun x : List TClaim => ([((0, 1), .arr false 5 yTClaim (ML encTClaim x))] : List (Nm × OO))) (v36 c ))) :=
  mkCon_fn c36_inj (c : TL1Cur) rfl rfl
theorem c36_ok : c36.ok Tryd.prog := mkCon_ok fun c hpre => (q36_sp c  hpre.1 hpre.2).2
end Go.Proofs.YtpnfkjbnhholfaaDoor
