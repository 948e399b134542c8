/- Contracts of the functions that the laws run. -/
import Derived.Test.YtpnfkjbnhholfaaEngB
import Derived.Test.YtpnfkjbnhholfaaEngB
import Derived.Test.Ytpnfkjbnhholfaadr4
import Derived.Test.Ytpnfkjbnhholfaach13j
import Derived.Test.YtpnfkjbnhholfaaEngB
namespace Go.Proofs.Ytpnfkjbnhholfaa
open Go Go.Eng
set_option linter.unusedSimpArgs false
set_option linter.unusedVariables false
set_option maxRecDepth 10000
set_option maxHeartbeats 1000000
theorem mAddClaim_le (l : List TClaim) (x : TClaim) : (mAddClaim l x).length ≤ l.length + 1 := by
  have := putAt_le nClaim x.Id l
  simp only [mAddClaim, insC]; split
  · simp; omega
  · omega
theorem mSetState_le (l : List TClaim) (n st : Int) : (mSetState l n st).length = l.length := by
  simp only [mSetState, setS]; split <;> simp
/-- loop.example/g03007/spec.l13Draw -/
theorem c158_ex (c : TL1Cur) (hc : okCu c) (hp : True) : ∃ x_ : (List TClaim) × TL1Cur, (fun x_ : (List TClaim) × TL1Cur => okCu x_.2 ∧ (fun x : List TClaim => x.length ≤ 7) x_.1) x_ ∧ PCo Try.prog 158 [.ptr (0, 0) 0] (Tab.of [((0, 0), .box (encTL1Cur c))]) ((fun x_ : (List TClaim) × TL1Cur => (fun x : List TClaim => (.own (0, 1) 5 0 x.length : D)) x_.1) x_) (Tab.of ((fun x_ : (List TClaim) × TL1Cur => (((0, 0), .box (encTL1Cur x_.2)) :: (fun x : List TClaim => ([((0, 1), .arr false 5 yTClaim (ML encTClaim x))] : List (Nm × OO))) x_.1)) x_)) := by
  refine pco_ex_of_run (fun x_ : (List TClaim) × TL1Cur => okCu x_.2 ∧ (fun x : List TClaim => x.length ≤ 7) x_.1) (fun x_ : (List TClaim) × TL1Cur => (fun x : List TClaim => (.own (0, 1) 5 0 x.length : D)) x_.1) (fun x_ : (List TClaim) × TL1Cur => (((0, 0), .box (encTL1Cur x_.2)) :: (fun x : List TClaim => ([((0, 1), .arr false 5 yTClaim (ML encTClaim x))] : List (Nm × OO))) x_.1)) [] (E := ⟨[c72, c200, c201], [], []⟩) (m := false) (base := 0) (Env.ok_cons c72_ok (Env.ok_cons c200_ok (Env.ok_cons c201_ok Env.ok_nil))) G_ok mix 300 6 Try.func158 (by kernel_rfl) rfl (by kernel_rfl) (by kernel_rfl) (by kernel_rfl) rfl ?_
  simp [Try.f158, hc]
  refine loop_inv (fun p : Nat × List TClaim × TL1Cur => p.1 ≤ 7 ∧ p.2.1.length ≤ p.1 ∧ okCu p.2.2) (fun p => [(0, .ptr (0, 0) 0), (3, .own (0, 1) 5 0 p.2.1.length), (4, dI ((p.1 : Int) + 1))]) (fun p => [((0, 0), .box (encTL1Cur p.2.2)), ((0, 1), .arr false 5 yTClaim (ML encTClaim p.2.1))]) 2 (fun p => 8 - p.1) (0, [], c) 400 (by simp) (by simp [hc]) (by simp) ?_
  rintro ⟨p, l, d⟩ ⟨hp, hl, hk⟩
  simp only at hp hl hk
  have hb := below_bd d 8 (by omega)
  simp [hk]
  refine ⟨fun h => ?_, fun h => ?_⟩
  · have hm := fun x => mAddClaim_le l x
    have hm2 := fun a b x => mSetState_le (mAddClaim l x) a b
    have hm3 := fun x => show (mAddClaim l x).length ≤ 1073741000 from by have := hm x; omega
    have hm4 := fun x => show (mAddClaim l x).length ≤ p + 1 from by have := hm x; omega
    repeat' (with_reducible first | apply And.intro | intro _)
    all_goals try (first | omega | assumption | (simp; done) | (simp only [below_eq, Int.reduceLT]; omega))
    · exact hm3 _
    refine Again.mk (p + 1, ?_, ?_) ?hinv ?hle ?hmu
    case hle =>
      simp
      repeat' (with_reducible first | apply and_rev | intro _)
      all_goals try dsimp only
      all_goals try with_reducible rfl
      all_goals try rfl
      all_goals (first | done | omega | (simp [*]; done) | (simp; omega) | trace_state)
    case hinv => (simp [*]; try (first | done | omega | (repeat' (with_reducible apply And.intro)) <;> (first | omega | assumption | trace_state)))
    case hmu => (simp; try omega)
  · skip
    repeat' (with_reducible first | apply and_rev | apply Exists.intro | intro _)
    all_goals try dsimp only
    all_goals try with_reducible rfl
    all_goals try rfl
    all_goals (first | done | omega | assumption | exact List.length_pos_iff.2 (by assumption) | (simp [*]; done) | (simp [*]; omega) | (simp [*, below_eq]; done) | (simp [*, below_eq]; omega) | (simp only [below_eq, Int.reduceLT]; omega) | trace_state)
open Classical in
noncomputable def q158 (c : TL1Cur) : (List TClaim) × TL1Cur := if h : okCu c ∧ True then Classical.choose (c158_ex c  h.1 h.2) else (default, ⟨[], 0, 0⟩)
theorem q158_sp (c : TL1Cur) (hc : okCu c) (hp : True) : (fun x_ : (List TClaim) × TL1Cur => okCu x_.2 ∧ (fun x : List TClaim => x.length ≤ 7) x_.1) (q158 c ) ∧ PCo Try.prog 158 [.ptr (0, 0) 0] (Tab.of [((0, 0), .box (encTL1Cur c))]) ((fun x_ : (List TClaim) × TL1Cur => (fun x : List TClaim => (.own (0, 1) 5 0 x.length : D)) x_.1) (q158 c )) (Tab.of ((fun x_ : (List TClaim) × TL1Cur => (((0, 0), .box (encTL1Cur x_.2)) :: (fun x : List TClaim => ([((0, 1), .arr false 5 yTClaim (ML encTClaim x))] : List (Nm × OO))) x_.1)) (q158 c ))) := by
  have e : q158 c  = Classical.choose (c158_ex c  hc hp) := by rw [q158, dif_pos ⟨hc, hp⟩]
  rw [e]
  exact Classical.choose_spec (c158_ex c  hc hp)
noncomputable def v158 (c : TL1Cur) : List TClaim := (q158 c ).1
noncomputable def n158 (c : TL1Cur) : TL1Cur := (q158 c ).2
open Classical in
@[simp] theorem n158_ok (c : TL1Cur) : okCu (n158 c ) := by
  by_cases h : okCu c ∧ True
  · exact (q158_sp c  h.1 h.2).1.1
  · rw [n158, q158, dif_neg h]; exact ⟨by simp, by simp, by simp⟩
theorem v158_ok (c : TL1Cur) (hc : okCu c) (hp : True) : (fun x : List TClaim => x.length ≤ 7) (v158 c ) := (q158_sp c  hc hp).1.2
noncomputable def c158 : Con := mkCon 158 true (α := TL1Cur) (fun x => (fun (c : TL1Cur) => ([.ptr (0, 0) 0] : List D)) x) (fun x => (fun (c : TL1Cur) => ([((0, 0), .box (encTL1Cur c))] : List (Nm × OO))) x) (fun x => (fun (c : TL1Cur) => okCu c ∧ True) x) (fun x => (fun (c : TL1Cur) => (fun x : List TClaim => (.own (0, 1) 5 0 x.length : D)) (v158 c )) x) (fun x => (fun (c : TL1Cur) => (((0, 0), .box (encTL1Cur (n158 c ))) :: (fun x : List TClaim => ([((0, 1), .arr false 5 yTClaim (ML encTClaim x))] : List (Nm × OO))) (v158 c ))) x)
@[simp] theorem c158_f : c158.f = 158 := rfl
@[simp] theorem c158_own : c158.own = true := rfl
theorem c158_inj : ∀ u_ v_ : TL1Cur, ((fun x => (fun (c : TL1Cur) => ([.ptr (0, 0) 0] : List D)) x) u_).map nz = ((fun x => (fun (c : TL1Cur) => ([.ptr (0, 0) 0] : List D)) x) v_).map nz → (fun x => (fun (c : TL1Cur) => ([((0, 0), .box (encTL1Cur c))] : List (Nm × OO))) x) u_ = (fun x => (fun (c : TL1Cur) => ([((0, 0), .box (encTL1Cur c))] : List (Nm × OO))) x) v_ → u_ = v_ := by
  intro u_ v_ h h2_
  obtain ⟨c_b_, c_i_, c_h_⟩ := u_
  obtain ⟨c_b_', c_i_', c_h_'⟩ := v_
  simp [nz_lit, nz1_lit, nz_agg, nz_sl, nz1_sl, nz_sx, nz_el, nz1_el, nz_own, nz1_own, nz_ptr, nz_fn, nz_iface] at h h2_
  first | (simp [h, h2_]; done) | (obtain ⟨h3_, h4_⟩ := List.append_inj h2_ h.1; simp_all; done) | simp_all | grind
@[simp] theorem c158_fn (c : TL1Cur) : c158.fn ([.ptr (0, 0) 0]) ([((0, 0), .box (.agg [.sl false 1 (.lit (.int .u8 0)) (ML dU c.b_), .lit (.int .i64 c.i_), .lit (.int .i64 c.h_)]))]) = some (okCu c ∧ True, (fun x : List TClaim => (.own (0, 1) 5 0 x.length : D)) (v158 c ), (((0, 0), .box (encTL1Cur (n158 c ))) :: (fun x : List TClaim => ([((0, 1), .arr false 5 yTClaim (ML encTClaim x))] : List (Nm × OO))) (v158 c ))) :=
  mkCon_fn c158_inj (c : TL1Cur) rfl rfl
theorem c158_ok : c158.ok Try.prog := mkCon_ok fun c hpre => (q158_sp c  hpre.1 hpre.2).2
/-- loop.example/g03007/spec.l13Any -/
theorem c95_ex (c : TL1Cur) (hc : okCu c) (hp : True) : ∃ x_ : (List TClaim) × TL1Cur, (fun x_ : (List TClaim) × TL1Cur => okCu x_.2 ∧ (fun x : List TClaim => x.length ≤ 7) x_.1) x_ ∧ PCo Try.prog 95 [.ptr (0, 0) 0] (Tab.of [((0, 0), .box (encTL1Cur c))]) ((fun x_ : (List TClaim) × TL1Cur => (fun x : List TClaim => (.own (0, 1) 5 0 x.length : D)) x_.1) x_) (Tab.of ((fun x_ : (List TClaim) × TL1Cur => (((0, 0), .box (encTL1Cur x_.2)) :: (fun x : List TClaim => ([((0, 1), .arr false 5 yTClaim (ML encTClaim x))] : List (Nm × OO))) x_.1)) x_)) := by
  refine pco_ex_of_run (fun x_ : (List TClaim) × TL1Cur => okCu x_.2 ∧ (fun x : List TClaim => x.length ≤ 7) x_.1) (fun x_ : (List TClaim) × TL1Cur => (fun x : List TClaim => (.own (0, 1) 5 0 x.length : D)) x_.1) (fun x_ : (List TClaim) × TL1Cur => (((0, 0), .box (encTL1Cur x_.2)) :: (fun x : List TClaim => ([((0, 1), .arr false 5 yTClaim (ML encTClaim x))] : List (Nm × OO))) x_.1)) [] (E := ⟨[c72, c140, c142, c158], [], []⟩) (m := false) (base := 1000000) (Env.ok_cons c72_ok (Env.ok_cons c140_ok (Env.ok_cons c142_ok (Env.ok_cons c158_ok Env.ok_nil)))) G_ok mix 300 6 Try.func95 (by kernel_rfl) rfl (by kernel_rfl) (by kernel_rfl) (by kernel_rfl) rfl ?_
  simp [Try.f95, hc]
  have hl := v158_ok c hc trivial
  have hb := lt_ne (l := v158 c) (below_bd (n158 c) (v158 c).length)
  repeat' (with_reducible first | apply and_rev | apply Exists.intro | intro _)
  all_goals try dsimp only
  all_goals try with_reducible rfl
  all_goals try rfl
  all_goals (first | done | omega | assumption | exact List.length_pos_iff.2 (by assumption) | (simp [*]; done) | (simp [*]; omega) | (simp [*, below_eq]; done) | (simp [*, below_eq]; omega) | (simp only [below_eq, Int.reduceLT]; omega) | trace_state)
open Classical in
noncomputable def q95 (c : TL1Cur) : (List TClaim) × TL1Cur := if h : okCu c ∧ True then Classical.choose (c95_ex c  h.1 h.2) else (default, ⟨[], 0, 0⟩)
theorem q95_sp (c : TL1Cur) (hc : okCu c) (hp : True) : (fun x_ : (List TClaim) × TL1Cur => okCu x_.2 ∧ (fun x : List TClaim => x.length ≤ 7) x_.1) (q95 c ) ∧ PCo Try.prog 95 [.ptr (0, 0) 0] (Tab.of [((0, 0), .box (encTL1Cur c))]) ((fun x_ : (List TClaim) × TL1Cur => (fun x : List TClaim => (.own (0, 1) 5 0 x.length : D)) x_.1) (q95 c )) (Tab.of ((fun x_ : (List TClaim) × TL1Cur => (((0, 0), .box (encTL1Cur x_.2)) :: (fun x : List TClaim => ([((0, 1), .arr false 5 yTClaim (ML encTClaim x))] : List (Nm × OO))) x_.1)) (q95 c ))) := by
  have e : q95 c  = Classical.choose (c95_ex c  hc hp) := by rw [q95, dif_pos ⟨hc, hp⟩]
  rw [e]
  exact Classical.choose_spec (c95_ex c  hc hp)
noncomputable def v95 (c : TL1Cur) : List TClaim := (q95 c ).1
noncomputable def n95 (c : TL1Cur) : TL1Cur := (q95 c ).2
open Classical in
@[simp] theorem n95_ok (c : TL1Cur) : okCu (n95 c ) := by
  by_cases h : okCu c ∧ True
  · exact (q95_sp c  h.1 h.2).1.1
  · rw [n95, q95, dif_neg h]; exact ⟨by simp, by simp, by simp⟩
theorem v95_ok (c : TL1Cur) (hc : okCu c) (hp : True) : (fun x : List TClaim => x.length ≤ 7) (v95 c ) := (q95_sp c  hc hp).1.2
noncomputable def c95 : Con := mkCon 95 true (α := TL1Cur) (fun x => (fun (c : TL1Cur) => ([.ptr (0, 0) 0] : List D)) x) (fun x => (fun (c : TL1Cur) => ([((0, 0), .box (encTL1Cur c))] : List (Nm × OO))) x) (fun x => (fun (c : TL1Cur) => okCu c ∧ True) x) (fun x => (fun (c : TL1Cur) => (fun x : List TClaim => (.own (0, 1) 5 0 x.length : D)) (v95 c )) x) (fun x => (fun (c : TL1Cur) => (((0, 0), .box (encTL1Cur (n95 c ))) :: (fun x : List TClaim => ([((0, 1), .arr false 5 yTClaim (ML encTClaim x))] : List (Nm × OO))) (v95 c ))) x)
@[simp] theorem c95_f : c95.f = 95 := rfl
@[simp] theorem c95_own : c95.own = true := rfl
theorem c95_inj : ∀ u_ v_ : TL1Cur, ((fun x => (fun (c : TL1Cur) => ([.ptr (0, 0) 0] : List D)) x) u_).map nz = ((fun x => (fun (c : TL1Cur) => ([.ptr (0, 0) 0] : List D)) x) v_).map nz → (fun x => (fun (c : TL1Cur) => ([((0, 0), .box (encTL1Cur c))] : List (Nm × OO))) x) u_ = (fun x => (fun (c : TL1Cur) => ([((0, 0), .box (encTL1Cur c))] : List (Nm × OO))) x) v_ → u_ = v_ := by
  intro u_ v_ h h2_
  obtain ⟨c_b_, c_i_, c_h_⟩ := u_
  obtain ⟨c_b_', c_i_', c_h_'⟩ := v_
  simp [nz_lit, nz1_lit, nz_agg, nz_sl, nz1_sl, nz_sx, nz_el, nz1_el, nz_own, nz1_own, nz_ptr, nz_fn, nz_iface] at h h2_
  first | (simp [h, h2_]; done) | (obtain ⟨h3_, h4_⟩ := List.append_inj h2_ h.1; simp_all; done) | simp_all | grind
@[simp] theorem c95_fn (c : TL1Cur) : c95.fn ([.ptr (0, 0) 0]) ([((0, 0), .box (.agg [.sl false 1 (.lit (.int .u8 0)) (ML dU c.b_), .lit (.int .i64 c.i_), .lit (.int .i64 c.h_)]))]) = some (okCu c ∧ True, (fun x : List TClaim => (.own (0, 1) 5 0 x.length : D)) (v95 c ), (((0, 0), .box (encTL1Cur (n95 c ))) :: (fun x : List TClaim => ([((0, 1), .arr false 5 yTClaim (ML encTClaim x))] : List (Nm × OO))) (v95 c ))) :=
  mkCon_fn c95_inj (c : TL1Cur) rfl rfl
theorem c95_ok : c95.ok Try.prog := mkCon_ok fun c hpre => (q95_sp c  hpre.1 hpre.2).2
/-- loop.example/g03007/spec.DrawAddClaim -/
theorem c31_ex (l : List Int) (hp : l.length ≤ 2097152) : ∃ x_ : List TClaim × TClaim, (fun x : List TClaim × TClaim => x.1.length ≤ 7) x_ ∧ PCo Try.prog 31 [encLU l] (Tab.of []) ((fun x : List TClaim × TClaim => (.tup [.sl false 5 yTClaim (ML encTClaim x.1), encTClaim x.2] : D)) x_) (Tab.of ((fun x : List TClaim × TClaim => ([] : List (Nm × OO))) x_)) := by
  refine pco_ex_of_run (fun x : List TClaim × TClaim => x.1.length ≤ 7) (fun x : List TClaim × TClaim => (.tup [.sl false 5 yTClaim (ML encTClaim x.1), encTClaim x.2] : D)) (fun x : List TClaim × TClaim => ([] : List (Nm × OO))) [] (E := ⟨[c68, c71, c72, c95], [], []⟩) (m := false) (base := 0) (Env.ok_cons c68_ok (Env.ok_cons c71_ok (Env.ok_cons c72_ok (Env.ok_cons c95_ok Env.ok_nil)))) G_ok mix 300 6 Try.func31 (by kernel_rfl) rfl (by kernel_rfl) (by kernel_rfl) (by kernel_rfl) rfl ?_
  simp [Try.f31, hp]
  have hk := v68_ok l hp
  have hl := v95_ok _ hk trivial
  simp [hk]
  repeat' (with_reducible first | apply and_rev | apply Exists.intro (⟨?_, ?_, ?_, ?_, ?_⟩ : TClaim) | apply Exists.intro | intro _)
  all_goals try dsimp only
  all_goals try with_reducible rfl
  all_goals try rfl
  all_goals (first | done | omega | assumption | exact List.length_pos_iff.2 (by assumption) | (simp [*]; done) | (simp [*]; omega) | (simp [*, below_eq]; done) | (simp [*, below_eq]; omega) | (simp only [below_eq, Int.reduceLT]; omega) | trace_state)
open Classical in
noncomputable def q31 (l : List Int) : List TClaim × TClaim := if h : l.length ≤ 2097152 then Classical.choose (c31_ex l h) else default
theorem q31_sp (l : List Int) (hp : l.length ≤ 2097152) : (fun x : List TClaim × TClaim => x.1.length ≤ 7) (q31 l) ∧ PCo Try.prog 31 [encLU l] (Tab.of []) ((fun x : List TClaim × TClaim => (.tup [.sl false 5 yTClaim (ML encTClaim x.1), encTClaim x.2] : D)) (q31 l)) (Tab.of ((fun x : List TClaim × TClaim => ([] : List (Nm × OO))) (q31 l))) := by
  have e : q31 l = Classical.choose (c31_ex l hp) := by rw [q31, dif_pos hp]
  rw [e]
  exact Classical.choose_spec (c31_ex l hp)
noncomputable def v31 (l : List Int) : List TClaim × TClaim := q31 l
theorem v31_ok (l : List Int) (hp : l.length ≤ 2097152) : (fun x : List TClaim × TClaim => x.1.length ≤ 7) (v31 l) := (q31_sp l hp).1
noncomputable def c31 : Con := mkCon 31 false (α := (List Int)) (fun x => (fun (l : List Int) => ([encLU l] : List D)) x) (fun x => (fun (l : List Int) => ([] : List (Nm × OO))) x) (fun x => (fun (l : List Int) => l.length ≤ 2097152) x) (fun x => (fun (l : List Int) => (fun x : List TClaim × TClaim => (.tup [.sl false 5 yTClaim (ML encTClaim x.1), encTClaim x.2] : D)) (v31 l)) x) (fun x => (fun (l : List Int) => (fun x : List TClaim × TClaim => ([] : List (Nm × OO))) (v31 l)) x)
@[simp] theorem c31_f : c31.f = 31 := rfl
@[simp] theorem c31_own : c31.own = false := rfl
theorem c31_inj : ∀ u_ v_ : (List Int), ((fun x => (fun (l : List Int) => ([encLU l] : List D)) x) u_).map nz = ((fun x => (fun (l : List Int) => ([encLU l] : List D)) x) v_).map nz → (fun x => (fun (l : List Int) => ([] : List (Nm × OO))) x) u_ = (fun x => (fun (l : List Int) => ([] : List (Nm × OO))) x) v_ → u_ = v_ := by
  intro u_ v_ h h2_
  obtain l := u_
  obtain l' := v_
  simp [nz_lit, nz1_lit, nz_agg, nz_sl, nz1_sl, nz_sx, nz_el, nz1_el, nz_own, nz1_own, nz_ptr, nz_fn, nz_iface] at h h2_
  first | (simp [h, h2_]; done) | (obtain ⟨h3_, h4_⟩ := List.append_inj h2_ h.1; simp_all; done) | simp_all | grind
@[simp] theorem c31_fn (l : List Int) : c31.fn ([(.sl false 1 (.lit (.int .u8 0)) (ML dU l))]) ([]) = some (l.length ≤ 2097152, (fun x : List TClaim × TClaim => (.tup [.sl false 5 yTClaim (ML encTClaim x.1), encTClaim x.2] : D)) (v31 l), (fun x : List TClaim × TClaim => ([] : List (Nm × OO))) (v31 l)) :=
  mkCon_fn c31_inj (l : (List Int)) rfl rfl
theorem c31_ok : c31.ok Try.prog := mkCon_ok fun l hpre => (q31_sp l hpre).2
/-- loop.example/g03007/spec.DrawFindClaim -/
theorem c105_ex (l : List Int) (hp : l.length ≤ 2097152) : ∃ x_ : List TClaim × Int, (fun x : List TClaim × Int => x.1.length ≤ 7) x_ ∧ PCo Try.prog 105 [encLU l] (Tab.of []) ((fun x : List TClaim × Int => (.tup [.sl false 5 yTClaim (ML encTClaim x.1), dI x.2] : D)) x_) (Tab.of ((fun x : List TClaim × Int => ([] : List (Nm × OO))) x_)) := by
  refine pco_ex_of_run (fun x : List TClaim × Int => x.1.length ≤ 7) (fun x : List TClaim × Int => (.tup [.sl false 5 yTClaim (ML encTClaim x.1), dI x.2] : D)) (fun x : List TClaim × Int => ([] : List (Nm × OO))) [] (E := ⟨[c68, c72, c95], [], []⟩) (m := false) (base := 0) (Env.ok_cons c68_ok (Env.ok_cons c72_ok (Env.ok_cons c95_ok Env.ok_nil))) G_ok mix 300 6 Try.func105 (by kernel_rfl) rfl (by kernel_rfl) (by kernel_rfl) (by kernel_rfl) rfl ?_
  simp [Try.f105, hp]
  have hk := v68_ok l hp
  have hl := v95_ok _ hk trivial
  simp [hk]
  repeat' (with_reducible first | apply and_rev | apply Exists.intro | intro _)
  all_goals try dsimp only
  all_goals try with_reducible rfl
  all_goals try rfl
  all_goals (first | done | omega | assumption | exact List.length_pos_iff.2 (by assumption) | (simp [*]; done) | (simp [*]; omega) | (simp [*, below_eq]; done) | (simp [*, below_eq]; omega) | (simp only [below_eq, Int.reduceLT]; omega) | trace_state)
open Classical in
noncomputable def q105 (l : List Int) : List TClaim × Int := if h : l.length ≤ 2097152 then Classical.choose (c105_ex l h) else default
theorem q105_sp (l : List Int) (hp : l.length ≤ 2097152) : (fun x : List TClaim × Int => x.1.length ≤ 7) (q105 l) ∧ PCo Try.prog 105 [encLU l] (Tab.of []) ((fun x : List TClaim × Int => (.tup [.sl false 5 yTClaim (ML encTClaim x.1), dI x.2] : D)) (q105 l)) (Tab.of ((fun x : List TClaim × Int => ([] : List (Nm × OO))) (q105 l))) := by
  have e : q105 l = Classical.choose (c105_ex l hp) := by rw [q105, dif_pos hp]
  rw [e]
  exact Classical.choose_spec (c105_ex l hp)
noncomputable def v105 (l : List Int) : List TClaim × Int := q105 l
theorem v105_ok (l : List Int) (hp : l.length ≤ 2097152) : (fun x : List TClaim × Int => x.1.length ≤ 7) (v105 l) := (q105_sp l hp).1
noncomputable def c105 : Con := mkCon 105 false (α := (List Int)) (fun x => (fun (l : List Int) => ([encLU l] : List D)) x) (fun x => (fun (l : List Int) => ([] : List (Nm × OO))) x) (fun x => (fun (l : List Int) => l.length ≤ 2097152) x) (fun x => (fun (l : List Int) => (fun x : List TClaim × Int => (.tup [.sl false 5 yTClaim (ML encTClaim x.1), dI x.2] : D)) (v105 l)) x) (fun x => (fun (l : List Int) => (fun x : List TClaim × Int => ([] : List (Nm × OO))) (v105 l)) x)
@[simp] theorem c105_f : c105.f = 105 := rfl
@[simp] theorem c105_own : c105.own = false := rfl
theorem c105_inj : ∀ u_ v_ : (List Int), ((fun x => (fun (l : List Int) => ([encLU l] : List D)) x) u_).map nz = ((fun x => (fun (l : List Int) => ([encLU l] : List D)) x) v_).map nz → (fun x => (fun (l : List Int) => ([] : List (Nm × OO))) x) u_ = (fun x => (fun (l : List Int) => ([] : List (Nm × OO))) x) v_ → u_ = v_ := by
  intro u_ v_ h h2_
  obtain l := u_
  obtain l' := v_
  simp [nz_lit, nz1_lit, nz_agg, nz_sl, nz1_sl, nz_sx, nz_el, nz1_el, nz_own, nz1_own, nz_ptr, nz_fn, nz_iface] at h h2_
  first | (simp [h, h2_]; done) | (obtain ⟨h3_, h4_⟩ := List.append_inj h2_ h.1; simp_all; done) | simp_all | grind
@[simp] theorem c105_fn (l : List Int) : c105.fn ([(.sl false 1 (.lit (.int .u8 0)) (ML dU l))]) ([]) = some (l.length ≤ 2097152, (fun x : List TClaim × Int => (.tup [.sl false 5 yTClaim (ML encTClaim x.1), dI x.2] : D)) (v105 l), (fun x : List TClaim × Int => ([] : List (Nm × OO))) (v105 l)) :=
  mkCon_fn c105_inj (l : (List Int)) rfl rfl
theorem c105_ok : c105.ok Try.prog := mkCon_ok fun l hpre => (q105_sp l hpre).2
/-- loop.example/g03007/spec.DrawSetState -/
theorem c36_ex (l : List Int) (hp : l.length ≤ 2097152) : ∃ x_ : List TClaim × Int × Int, (fun x : List TClaim × Int × Int => x.1.length ≤ 7) x_ ∧ PCo Try.prog 36 [encLU l] (Tab.of []) ((fun x : List TClaim × Int × Int => (.tup [.sl false 5 yTClaim (ML encTClaim x.1), dI x.2.1, dI x.2.2] : D)) x_) (Tab.of ((fun x : List TClaim × Int × Int => ([] : List (Nm × OO))) x_)) := by
  refine pco_ex_of_run (fun x : List TClaim × Int × Int => x.1.length ≤ 7) (fun x : List TClaim × Int × Int => (.tup [.sl false 5 yTClaim (ML encTClaim x.1), dI x.2.1, dI x.2.2] : D)) (fun x : List TClaim × Int × Int => ([] : List (Nm × OO))) [] (E := ⟨[c68, c72, c105], [], []⟩) (m := false) (base := 0) (Env.ok_cons c68_ok (Env.ok_cons c72_ok (Env.ok_cons c105_ok Env.ok_nil))) G_ok mix 300 6 Try.func36 (by kernel_rfl) rfl (by kernel_rfl) (by kernel_rfl) (by kernel_rfl) rfl ?_
  simp [Try.f36, hp]
  have hk := v68_ok l hp
  have hl := v105_ok l hp
  simp [hk]
  repeat' (with_reducible first | apply and_rev | apply Exists.intro | intro _)
  all_goals try dsimp only
  all_goals try with_reducible rfl
  all_goals try rfl
  all_goals (first | done | omega | assumption | exact List.length_pos_iff.2 (by assumption) | (simp [*]; done) | (simp [*]; omega) | (simp [*, below_eq]; done) | (simp [*, below_eq]; omega) | (simp only [below_eq, Int.reduceLT]; omega) | trace_state)
open Classical in
noncomputable def q36 (l : List Int) : List TClaim × Int × Int := if h : l.length ≤ 2097152 then Classical.choose (c36_ex l h) else default
theorem q36_sp (l : List Int) (hp : l.length ≤ 2097152) : (fun x : List TClaim × Int × Int => x.1.length ≤ 7) (q36 l) ∧ PCo Try.prog 36 [encLU l] (Tab.of []) ((fun x : List TClaim × Int × Int => (.tup [.sl false 5 yTClaim (ML encTClaim x.1), dI x.2.1, dI x.2.2] : D)) (q36 l)) (Tab.of ((fun x : List TClaim × Int × Int => ([] : List (Nm × OO))) (q36 l))) := by
  have e : q36 l = Classical.choose (c36_ex l hp) := by rw [q36, dif_pos hp]
  rw [e]
  exact Classical.choose_spec (c36_ex l hp)
noncomputable def v36 (l : List Int) : List TClaim × Int × Int := q36 l
theorem v36_ok (l : List Int) (hp : l.length ≤ 2097152) : (fun x : List TClaim × Int × Int => x.1.length ≤ 7) (v36 l) := (q36_sp l hp).1
noncomputable def c36 : Con := mkCon 36 false (α := (List Int)) (fun x => (fun (l : List Int) => ([encLU l] : List D)) x) (fun x => (fun (l : List Int) => ([] : List (Nm × OO))) x) (fun x => (fun (l : List Int) => l.length ≤ 2097152) x) (fun x => (fun (l : List Int) => (fun x : List TClaim × Int × Int => (.tup [.sl false 5 yTClaim (ML encTClaim x.1), dI x.2.1, dI x.2.2] : D)) (v36 l)) x) (fun x => (fun (l : List Int) => (fun x : List TClaim × Int × Int => ([] : List (Nm × OO))) (v36 l)) x)
@[simp] theorem c36_f : c36.f = 36 := rfl
@[simp] theorem c36_own : c36.own = false := rfl
theorem c36_inj : ∀ u_ v_ : (List Int), ((fun x => (fun (l : List Int) => ([encLU l] : List D)) x) u_).map nz = ((fun x => (fun (l : List Int) => ([encLU l] : List D)) x) v_).map nz → (fun x => (fun (l : List Int) => ([] : List (Nm × OO))) x) u_ = (fun x => (fun (l : List Int) => ([] : List (Nm × OO))) x) v_ → u_ = v_ := by
  intro u_ v_ h h2_
  obtain l := u_
  obtain l' := v_
  simp [nz_lit, nz1_lit, nz_agg, nz_sl, nz1_sl, nz_sx, nz_el, nz1_el, nz_own, nz1_own, nz_ptr, nz_fn, nz_iface] at h h2_
  first | (simp [h, h2_]; done) | (obtain ⟨h3_, h4_⟩ := List.append_inj h2_ h.1; simp_all; done) | simp_all | grind
@[simp] theorem c36_fn (l : List Int) : c36.fn ([(.sl false 1 (.lit (.int .u8 0)) (ML dU l))]) ([]) = some (l.length ≤ 2097152, (fun x : List TClaim × Int × Int => (.tup [.sl false 5 yTClaim (ML encTClaim x.1), dI x.2.1, dI x.2.2] : D)) (v36 l), (fun x : List TClaim × Int × Int => ([] : List (Nm × OO))) (v36 l)) :=
  mkCon_fn c36_inj (l : (List Int)) rfl rfl
theorem c36_ok : c36.ok Try.prog := mkCon_ok fun l hpre => (q36_sp l hpre).2
/-- loop.example/g03007/spec.DrawClaimsFor -/
theorem c107_ex (l : List Int) (hp : l.length ≤ 2097152) : ∃ x_ : List TClaim × Int, (fun x : List TClaim × Int => x.1.length ≤ 7) x_ ∧ PCo Try.prog 107 [encLU l] (Tab.of []) ((fun x : List TClaim × Int => (.tup [.sl false 5 yTClaim (ML encTClaim x.1), dI x.2] : D)) x_) (Tab.of ((fun x : List TClaim × Int => ([] : List (Nm × OO))) x_)) := by
  refine pco_ex_of_run (fun x : List TClaim × Int => x.1.length ≤ 7) (fun x : List TClaim × Int => (.tup [.sl false 5 yTClaim (ML encTClaim x.1), dI x.2] : D)) (fun x : List TClaim × Int => ([] : List (Nm × OO))) [] (E := ⟨[c68, c72, c95], [], []⟩) (m := false) (base := 0) (Env.ok_cons c68_ok (Env.ok_cons c72_ok (Env.ok_cons c95_ok Env.ok_nil))) G_ok mix 300 6 Try.func107 (by kernel_rfl) rfl (by kernel_rfl) (by kernel_rfl) (by kernel_rfl) rfl ?_
  simp [Try.f107, hp]
  have hk := v68_ok l hp
  have hl := v95_ok _ hk trivial
  simp [hk]
  repeat' (with_reducible first | apply and_rev | apply Exists.intro | intro _)
  all_goals try dsimp only
  all_goals try with_reducible rfl
  all_goals try rfl
  all_goals (first | done | omega | assumption | exact List.length_pos_iff.2 (by assumption) | (simp [*]; done) | (simp [*]; omega) | (simp [*, below_eq]; done) | (simp [*, below_eq]; omega) | (simp only [below_eq, Int.reduceLT]; omega) | trace_state)
open Classical in
noncomputable def q107 (l : List Int) : List TClaim × Int := if h : l.length ≤ 2097152 then Classical.choose (c107_ex l h) else default
theorem q107_sp (l : List Int) (hp : l.length ≤ 2097152) : (fun x : List TClaim × Int => x.1.length ≤ 7) (q107 l) ∧ PCo Try.prog 107 [encLU l] (Tab.of []) ((fun x : List TClaim × Int => (.tup [.sl false 5 yTClaim (ML encTClaim x.1), dI x.2] : D)) (q107 l)) (Tab.of ((fun x : List TClaim × Int => ([] : List (Nm × OO))) (q107 l))) := by
  have e : q107 l = Classical.choose (c107_ex l hp) := by rw [q107, dif_pos hp]
  rw [e]
  exact Classical.choose_spec (c107_ex l hp)
noncomputable def v107 (l : List Int) : List TClaim × Int := q107 l
theorem v107_ok (l : List Int) (hp : l.length ≤ 2097152) : (fun x : List TClaim × Int => x.1.length ≤ 7) (v107 l) := (q107_sp l hp).1
noncomputable def c107 : Con := mkCon 107 false (α := (List Int)) (fun x => (fun (l : List Int) => ([encLU l] : List D)) x) (fun x => (fun (l : List Int) => ([] : List (Nm × OO))) x) (fun x => (fun (l : List Int) => l.length ≤ 2097152) x) (fun x => (fun (l : List Int) => (fun x : List TClaim × Int => (.tup [.sl false 5 yTClaim (ML encTClaim x.1), dI x.2] : D)) (v107 l)) x) (fun x => (fun (l : List Int) => (fun x : List TClaim × Int => ([] : List (Nm × OO))) (v107 l)) x)
@[simp] theorem c107_f : c107.f = 107 := rfl
@[simp] theorem c107_own : c107.own = false := rfl
theorem c107_inj : ∀ u_ v_ : (List Int), ((fun x => (fun (l : List Int) => ([encLU l] : List D)) x) u_).map nz = ((fun x => (fun (l : List Int) => ([encLU l] : List D)) x) v_).map nz → (fun x => (fun (l : List Int) => ([] : List (Nm × OO))) x) u_ = (fun x => (fun (l : List Int) => ([] : List (Nm × OO))) x) v_ → u_ = v_ := by
  intro u_ v_ h h2_
  obtain l := u_
  obtain l' := v_
  simp [nz_lit, nz1_lit, nz_agg, nz_sl, nz1_sl, nz_sx, nz_el, nz1_el, nz_own, nz1_own, nz_ptr, nz_fn, nz_iface] at h h2_
  first | (simp [h, h2_]; done) | (obtain ⟨h3_, h4_⟩ := List.append_inj h2_ h.1; simp_all; done) | simp_all | grind
@[simp] theorem c107_fn (l : List Int) : c107.fn ([(.sl false 1 (.lit (.int .u8 0)) (ML dU l))]) ([]) = some (l.length ≤ 2097152, (fun x : List TClaim × Int => (.tup [.sl false 5 yTClaim (ML encTClaim x.1), dI x.2] : D)) (v107 l), (fun x : List TClaim × Int => ([] : List (Nm × OO))) (v107 l)) :=
  mkCon_fn c107_inj (l : (List Int)) rfl rfl
theorem c107_ok : c107.ok Try.prog := mkCon_ok fun l hpre => (q107_sp l hpre).2
/-- loop.example/g03007/spec.DrawFirstProved -/
theorem c38_ex (l : List Int) (hp : l.length ≤ 2097152) : ∃ x_ : List TClaim × Int, (fun x : List TClaim × Int => x.1.length ≤ 7) x_ ∧ PCo Try.prog 38 [encLU l] (Tab.of []) ((fun x : List TClaim × Int => (.tup [.sl false 5 yTClaim (ML encTClaim x.1), dI x.2] : D)) x_) (Tab.of ((fun x : List TClaim × Int => ([] : List (Nm × OO))) x_)) := by
  refine pco_ex_of_run (fun x : List TClaim × Int => x.1.length ≤ 7) (fun x : List TClaim × Int => (.tup [.sl false 5 yTClaim (ML encTClaim x.1), dI x.2] : D)) (fun x : List TClaim × Int => ([] : List (Nm × OO))) [] (E := ⟨[c107], [], []⟩) (m := false) (base := 0) (Env.ok_cons c107_ok Env.ok_nil) G_ok mix 300 6 Try.func38 (by kernel_rfl) rfl (by kernel_rfl) (by kernel_rfl) (by kernel_rfl) rfl ?_
  simp [Try.f38, hp]
  have hl := v107_ok l hp
  repeat' (with_reducible first | apply and_rev | apply Exists.intro | intro _)
  all_goals try dsimp only
  all_goals try with_reducible rfl
  all_goals try rfl
  all_goals (first | done | omega | assumption | exact List.length_pos_iff.2 (by assumption) | (simp [*]; done) | (simp [*]; omega) | (simp [*, below_eq]; done) | (simp [*, below_eq]; omega) | (simp only [below_eq, Int.reduceLT]; omega) | trace_state)
open Classical in
noncomputable def q38 (l : List Int) : List TClaim × Int := if h : l.length ≤ 2097152 then Classical.choose (c38_ex l h) else default
theorem q38_sp (l : List Int) (hp : l.length ≤ 2097152) : (fun x : List TClaim × Int => x.1.length ≤ 7) (q38 l) ∧ PCo Try.prog 38 [encLU l] (Tab.of []) ((fun x : List TClaim × Int => (.tup [.sl false 5 yTClaim (ML encTClaim x.1), dI x.2] : D)) (q38 l)) (Tab.of ((fun x : List TClaim × Int => ([] : List (Nm × OO))) (q38 l))) := by
  have e : q38 l = Classical.choose (c38_ex l hp) := by rw [q38, dif_pos hp]
  rw [e]
  exact Classical.choose_spec (c38_ex l hp)
noncomputable def v38 (l : List Int) : List TClaim × Int := q38 l
theorem v38_ok (l : List Int) (hp : l.length ≤ 2097152) : (fun x : List TClaim × Int => x.1.length ≤ 7) (v38 l) := (q38_sp l hp).1
noncomputable def c38 : Con := mkCon 38 false (α := (List Int)) (fun x => (fun (l : List Int) => ([encLU l] : List D)) x) (fun x => (fun (l : List Int) => ([] : List (Nm × OO))) x) (fun x => (fun (l : List Int) => l.length ≤ 2097152) x) (fun x => (fun (l : List Int) => (fun x : List TClaim × Int => (.tup [.sl false 5 yTClaim (ML encTClaim x.1), dI x.2] : D)) (v38 l)) x) (fun x => (fun (l : List Int) => (fun x : List TClaim × Int => ([] : List (Nm × OO))) (v38 l)) x)
@[simp] theorem c38_f : c38.f = 38 := rfl
@[simp] theorem c38_own : c38.own = false := rfl
theorem c38_inj : ∀ u_ v_ : (List Int), ((fun x => (fun (l : List Int) => ([encLU l] : List D)) x) u_).map nz = ((fun x => (fun (l : List Int) => ([encLU l] : List D)) x) v_).map nz → (fun x => (fun (l : List Int) => ([] : List (Nm × OO))) x) u_ = (fun x => (fun (l : List Int) => ([] : List (Nm × OO))) x) v_ → u_ = v_ := by
  intro u_ v_ h h2_
  obtain l := u_
  obtain l' := v_
  simp [nz_lit, nz1_lit, nz_agg, nz_sl, nz1_sl, nz_sx, nz_el, nz1_el, nz_own, nz1_own, nz_ptr, nz_fn, nz_iface] at h h2_
  first | (simp [h, h2_]; done) | (obtain ⟨h3_, h4_⟩ := List.append_inj h2_ h.1; simp_all; done) | simp_all | grind
@[simp] theorem c38_fn (l : List Int) : c38.fn ([(.sl false 1 (.lit (.int .u8 0)) (ML dU l))]) ([]) = some (l.length ≤ 2097152, (fun x : List TClaim × Int => (.tup [.sl false 5 yTClaim (ML encTClaim x.1), dI x.2] : D)) (v38 l), (fun x : List TClaim × Int => ([] : List (Nm × OO))) (v38 l)) :=
  mkCon_fn c38_inj (l : (List Int)) rfl rfl
theorem c38_ok : c38.ok Try.prog := mkCon_ok fun l hpre => (q38_sp l hpre).2

end Go.Proofs.Ytpnfkjbnhholfaa
