/- Contracts of the functions that the laws run. -/
import Derived.Test.YtpnfkjbnhholfaaEngB
import Derived.Test.YtpnfkjbnhholfaaEngB
import Derived.Test.Ytpnfkjbnhholfaadr4
import Derived.Test.Ytpnfkjbnhholfaach14p
import Derived.Test.YtpnfkjbnhholfaaEngB
namespace Go.Proofs.Ytpnfkjbnhholfaa
open Go Go.Eng
set_option linter.unusedSimpArgs false
set_option linter.unusedVariables false
set_option maxRecDepth 10000
set_option maxHeartbeats 1000000
/-- loop.example/g03007/spec.l14Draw -/
theorem c167_ex (c : TL1Cur) (hc : okCu c) (hp : True) : ∃ x_ : (List TSlot) × TL1Cur, (fun x_ : (List TSlot) × TL1Cur => okCu x_.2 ∧ (fun x : List TSlot => 0 < x.length ∧ x.length ≤ 9) x_.1) x_ ∧ PCo Try.prog 167 [.ptr (0, 0) 0] (Tab.of [((0, 0), .box (encTL1Cur c))]) ((fun x_ : (List TSlot) × TL1Cur => (fun x : List TSlot => (.own (0, 1) 3 0 x.length : D)) x_.1) x_) (Tab.of ((fun x_ : (List TSlot) × TL1Cur => (((0, 0), .box (encTL1Cur x_.2)) :: (fun x : List TSlot => ([((0, 1), .arr false 3 yTSlot (ML encTSlot x))] : List (Nm × OO))) x_.1)) x_)) := by
  refine pco_ex_of_run (fun x_ : (List TSlot) × TL1Cur => okCu x_.2 ∧ (fun x : List TSlot => 0 < x.length ∧ x.length ≤ 9) x_.1) (fun x_ : (List TSlot) × TL1Cur => (fun x : List TSlot => (.own (0, 1) 3 0 x.length : D)) x_.1) (fun x_ : (List TSlot) × TL1Cur => (((0, 0), .box (encTL1Cur x_.2)) :: (fun x : List TSlot => ([((0, 1), .arr false 3 yTSlot (ML encTSlot x))] : List (Nm × OO))) x_.1)) [] (E := ⟨[c72, c168, c204], [], []⟩) (m := false) (base := 0) (Env.ok_cons c72_ok (Env.ok_cons c168_ok (Env.ok_cons c204_ok Env.ok_nil))) G_ok mix 300 6 Try.func167 (by kernel_rfl) rfl (by kernel_rfl) (by kernel_rfl) (by kernel_rfl) rfl ?_
  simp [Try.f167, hc]
  refine loop_inv (fun p : Nat × List TSlot × TL1Cur => p.1 ≤ 9 ∧ p.2.1.length = p.1 ∧ okCu p.2.2) (fun p => [(0, .ptr (0, 0) 0), (3, .own (0, 1) 3 0 p.2.1.length), (4, dI ((p.1 : Int) + 1))]) (fun p => [((0, 0), .box (encTL1Cur p.2.2)), ((0, 1), .arr false 3 yTSlot (ML encTSlot p.2.1))]) 2 (fun p => 10 - p.1) (0, [], c) 400 (by simp) (by simp [hc]) (by simp) ?_
  rintro ⟨p, l, d⟩ ⟨hp, hl, hk⟩
  simp only at hp hl hk
  have hb := below_bd d 7 (by omega)
  simp [hk]
  refine ⟨⟨by omega, by omega⟩, fun h => ?_, fun h => ?_⟩
  · skip
    repeat' (with_reducible first | apply And.intro | intro _)
    all_goals try (first | omega | assumption | (simp; done) | (simp only [below_eq, Int.reduceLT]; omega))
    refine Again.mk (p + 1, ?_, ?_) ?hinv ?hle ?hmu
    case hle =>
      simp
      repeat' (with_reducible first | apply and_rev | intro _)
      all_goals try dsimp only
      all_goals try with_reducible rfl
      all_goals try rfl
      all_goals (first | done | omega | (simp [*]; done) | (simp; omega) | trace_state)
    case hinv => (simp [*]; try (first | done | omega | (repeat' (with_reducible apply And.intro)) <;> (first | omega | assumption | trace_state)))
    case hmu => (simp; try omega)
  · skip
    repeat' (with_reducible first | apply And.intro | intro _)
    all_goals try (first | omega | assumption | (simp; done) | (simp only [below_eq, Int.reduceLT]; omega))
    have hb5 := below_bd (n72 d 7) 5 (by omega)
    refine loop_inv (fun q : Nat × List TSlot × TL1Cur => q.1 ≤ 5 ∧ q.2.1.length = p ∧ okCu q.2.2) (fun q => [(0, .ptr (0, 0) 0), (3, .own (0, 1) 3 0 q.2.1.length), (5, dI q.1)]) (fun q => [((0, 0), .box (encTL1Cur q.2.2)), ((0, 1), .arr false 3 yTSlot (ML encTSlot q.2.1))]) 2 (fun q => q.1) ((v72 (n72 d 7) 5).toNat, l, n72 (n72 d 7) 5) 400 (by simp) (by simp; omega) (by simp; omega) ?_
    rintro ⟨q, l, e⟩ ⟨hq5, hl, hk⟩
    simp only at hq5 hl hk
    have hm := fun x => mPut_len l x
    simp [hk]
    refine ⟨fun h => ?_, fun h => ?_⟩
    · skip
      repeat' (with_reducible first | apply And.intro | intro _)
      all_goals try (first | omega | assumption | (simp; done) | (simp only [below_eq, Int.reduceLT]; omega))
      refine Again.mk (q - 1, ?_, ?_) ?hinv ?hle ?hmu
      case hle =>
        simp
        repeat' (with_reducible first | apply and_rev | intro _)
        all_goals try dsimp only
        all_goals try with_reducible rfl
        all_goals try rfl
        all_goals (first | done | omega | (simp [*]; done) | (simp; omega) | trace_state)
      case hinv => (simp [*]; try (first | done | omega | (repeat' (with_reducible apply And.intro)) <;> (first | omega | assumption | trace_state)))
      case hmu => (simp; try omega)
    · skip
      repeat' (with_reducible first | apply and_rev | apply Exists.intro | intro _)
      all_goals try dsimp only
      all_goals try with_reducible rfl
      all_goals try rfl
      all_goals (first | done | omega | assumption | exact List.length_pos_iff.2 (by assumption) | (simp [*]; done) | (simp [*]; omega) | (simp [*, below_eq]; done) | (simp [*, below_eq]; omega) | (simp only [below_eq, Int.reduceLT]; omega) | trace_state)
open Classical in
noncomputable def q167 (c : TL1Cur) : (List TSlot) × TL1Cur := if h : okCu c ∧ True then Classical.choose (c167_ex c  h.1 h.2) else (default, ⟨[], 0, 0⟩)
theorem q167_sp (c : TL1Cur) (hc : okCu c) (hp : True) : (fun x_ : (List TSlot) × TL1Cur => okCu x_.2 ∧ (fun x : List TSlot => 0 < x.length ∧ x.length ≤ 9) x_.1) (q167 c ) ∧ PCo Try.prog 167 [.ptr (0, 0) 0] (Tab.of [((0, 0), .box (encTL1Cur c))]) ((fun x_ : (List TSlot) × TL1Cur => (fun x : List TSlot => (.own (0, 1) 3 0 x.length : D)) x_.1) (q167 c )) (Tab.of ((fun x_ : (List TSlot) × TL1Cur => (((0, 0), .box (encTL1Cur x_.2)) :: (fun x : List TSlot => ([((0, 1), .arr false 3 yTSlot (ML encTSlot x))] : List (Nm × OO))) x_.1)) (q167 c ))) := by
  have e : q167 c  = Classical.choose (c167_ex c  hc hp) := by rw [q167, dif_pos ⟨hc, hp⟩]
  rw [e]
  exact Classical.choose_spec (c167_ex c  hc hp)
noncomputable def v167 (c : TL1Cur) : List TSlot := (q167 c ).1
noncomputable def n167 (c : TL1Cur) : TL1Cur := (q167 c ).2
open Classical in
@[simp] theorem n167_ok (c : TL1Cur) : okCu (n167 c ) := by
  by_cases h : okCu c ∧ True
  · exact (q167_sp c  h.1 h.2).1.1
  · rw [n167, q167, dif_neg h]; exact ⟨by simp, by simp, by simp⟩
theorem v167_ok (c : TL1Cur) (hc : okCu c) (hp : True) : (fun x : List TSlot => 0 < x.length ∧ x.length ≤ 9) (v167 c ) := (q167_sp c  hc hp).1.2
noncomputable def c167 : Con := mkCon 167 true (α := TL1Cur) (fun x => (fun (c : TL1Cur) => ([.ptr (0, 0) 0] : List D)) x) (fun x => (fun (c : TL1Cur) => ([((0, 0), .box (encTL1Cur c))] : List (Nm × OO))) x) (fun x => (fun (c : TL1Cur) => okCu c ∧ True) x) (fun x => (fun (c : TL1Cur) => (fun x : List TSlot => (.own (0, 1) 3 0 x.length : D)) (v167 c )) x) (fun x => (fun (c : TL1Cur) => (((0, 0), .box (encTL1Cur (n167 c ))) :: (fun x : List TSlot => ([((0, 1), .arr false 3 yTSlot (ML encTSlot x))] : List (Nm × OO))) (v167 c ))) x)
@[simp] theorem c167_f : c167.f = 167 := rfl
@[simp] theorem c167_own : c167.own = true := rfl
theorem c167_inj : ∀ u_ v_ : TL1Cur, ((fun x => (fun (c : TL1Cur) => ([.ptr (0, 0) 0] : List D)) x) u_).map nz = ((fun x => (fun (c : TL1Cur) => ([.ptr (0, 0) 0] : List D)) x) v_).map nz → (fun x => (fun (c : TL1Cur) => ([((0, 0), .box (encTL1Cur c))] : List (Nm × OO))) x) u_ = (fun x => (fun (c : TL1Cur) => ([((0, 0), .box (encTL1Cur c))] : List (Nm × OO))) x) v_ → u_ = v_ := by
  intro u_ v_ h h2_
  obtain ⟨c_b_, c_i_, c_h_⟩ := u_
  obtain ⟨c_b_', c_i_', c_h_'⟩ := v_
  simp [nz_lit, nz1_lit, nz_agg, nz_sl, nz1_sl, nz_sx, nz_el, nz1_el, nz_own, nz1_own, nz_ptr, nz_fn, nz_iface] at h h2_
  first | (simp [h, h2_]; done) | (obtain ⟨h3_, h4_⟩ := List.append_inj h2_ h.1; simp_all; done) | simp_all | grind
@[simp] theorem c167_fn (c : TL1Cur) : c167.fn ([.ptr (0, 0) 0]) ([((0, 0), .box (.agg [.sl false 1 (.lit (.int .u8 0)) (ML dU c.b_), .lit (.int .i64 c.i_), .lit (.int .i64 c.h_)]))]) = some (okCu c ∧ True, (fun x : List TSlot => (.own (0, 1) 3 0 x.length : D)) (v167 c ), (((0, 0), .box (encTL1Cur (n167 c ))) :: (fun x : List TSlot => ([((0, 1), .arr false 3 yTSlot (ML encTSlot x))] : List (Nm × OO))) (v167 c ))) :=
  mkCon_fn c167_inj (c : TL1Cur) rfl rfl
theorem c167_ok : c167.ok Try.prog := mkCon_ok fun c hpre => (q167_sp c  hpre.1 hpre.2).2
/-- loop.example/g03007/spec.l14Any -/
theorem c109_ex (c : TL1Cur) (hc : okCu c) (hp : True) : ∃ x_ : (List TSlot) × TL1Cur, (fun x_ : (List TSlot) × TL1Cur => okCu x_.2 ∧ (fun x : List TSlot => 0 < x.length ∧ x.length ≤ 9) x_.1) x_ ∧ PCo Try.prog 109 [.ptr (0, 0) 0] (Tab.of [((0, 0), .box (encTL1Cur c))]) ((fun x_ : (List TSlot) × TL1Cur => (fun x : List TSlot => (.own (0, 1) 3 0 x.length : D)) x_.1) x_) (Tab.of ((fun x_ : (List TSlot) × TL1Cur => (((0, 0), .box (encTL1Cur x_.2)) :: (fun x : List TSlot => ([((0, 1), .arr false 3 yTSlot (ML encTSlot x))] : List (Nm × OO))) x_.1)) x_)) := by
  refine pco_ex_of_run (fun x_ : (List TSlot) × TL1Cur => okCu x_.2 ∧ (fun x : List TSlot => 0 < x.length ∧ x.length ≤ 9) x_.1) (fun x_ : (List TSlot) × TL1Cur => (fun x : List TSlot => (.own (0, 1) 3 0 x.length : D)) x_.1) (fun x_ : (List TSlot) × TL1Cur => (((0, 0), .box (encTL1Cur x_.2)) :: (fun x : List TSlot => ([((0, 1), .arr false 3 yTSlot (ML encTSlot x))] : List (Nm × OO))) x_.1)) [] (E := ⟨[c72, c140, c142, c167], [], []⟩) (m := false) (base := 1000000) (Env.ok_cons c72_ok (Env.ok_cons c140_ok (Env.ok_cons c142_ok (Env.ok_cons c167_ok Env.ok_nil)))) G_ok mix 300 6 Try.func109 (by kernel_rfl) rfl (by kernel_rfl) (by kernel_rfl) (by kernel_rfl) rfl ?_
  simp [Try.f109, hc]
  obtain ⟨h0, h9⟩ := v167_ok c hc trivial
  obtain ⟨hb1, hb2, hb3⟩ := lt_ne (l := v167 c) (below_bd (n167 c) (v167 c).length) (by intro e; rw [e] at h0; simp at h0)
  repeat' (with_reducible first | apply and_rev | apply Exists.intro | intro _)
  all_goals try dsimp only
  all_goals try with_reducible rfl
  all_goals try rfl
  all_goals (first | done | omega | assumption | exact List.length_pos_iff.2 (by assumption) | (simp [*]; done) | (simp [*]; omega) | (simp [*, below_eq]; done) | (simp [*, below_eq]; omega) | (simp only [below_eq, Int.reduceLT]; omega) | trace_state)
open Classical in
noncomputable def q109 (c : TL1Cur) : (List TSlot) × TL1Cur := if h : okCu c ∧ True then Classical.choose (c109_ex c  h.1 h.2) else (default, ⟨[], 0, 0⟩)
theorem q109_sp (c : TL1Cur) (hc : okCu c) (hp : True) : (fun x_ : (List TSlot) × TL1Cur => okCu x_.2 ∧ (fun x : List TSlot => 0 < x.length ∧ x.length ≤ 9) x_.1) (q109 c ) ∧ PCo Try.prog 109 [.ptr (0, 0) 0] (Tab.of [((0, 0), .box (encTL1Cur c))]) ((fun x_ : (List TSlot) × TL1Cur => (fun x : List TSlot => (.own (0, 1) 3 0 x.length : D)) x_.1) (q109 c )) (Tab.of ((fun x_ : (List TSlot) × TL1Cur => (((0, 0), .box (encTL1Cur x_.2)) :: (fun x : List TSlot => ([((0, 1), .arr false 3 yTSlot (ML encTSlot x))] : List (Nm × OO))) x_.1)) (q109 c ))) := by
  have e : q109 c  = Classical.choose (c109_ex c  hc hp) := by rw [q109, dif_pos ⟨hc, hp⟩]
  rw [e]
  exact Classical.choose_spec (c109_ex c  hc hp)
noncomputable def v109 (c : TL1Cur) : List TSlot := (q109 c ).1
noncomputable def n109 (c : TL1Cur) : TL1Cur := (q109 c ).2
open Classical in
@[simp] theorem n109_ok (c : TL1Cur) : okCu (n109 c ) := by
  by_cases h : okCu c ∧ True
  · exact (q109_sp c  h.1 h.2).1.1
  · rw [n109, q109, dif_neg h]; exact ⟨by simp, by simp, by simp⟩
theorem v109_ok (c : TL1Cur) (hc : okCu c) (hp : True) : (fun x : List TSlot => 0 < x.length ∧ x.length ≤ 9) (v109 c ) := (q109_sp c  hc hp).1.2
noncomputable def c109 : Con := mkCon 109 true (α := TL1Cur) (fun x => (fun (c : TL1Cur) => ([.ptr (0, 0) 0] : List D)) x) (fun x => (fun (c : TL1Cur) => ([((0, 0), .box (encTL1Cur c))] : List (Nm × OO))) x) (fun x => (fun (c : TL1Cur) => okCu c ∧ True) x) (fun x => (fun (c : TL1Cur) => (fun x : List TSlot => (.own (0, 1) 3 0 x.length : D)) (v109 c )) x) (fun x => (fun (c : TL1Cur) => (((0, 0), .box (encTL1Cur (n109 c ))) :: (fun x : List TSlot => ([((0, 1), .arr false 3 yTSlot (ML encTSlot x))] : List (Nm × OO))) (v109 c ))) x)
@[simp] theorem c109_f : c109.f = 109 := rfl
@[simp] theorem c109_own : c109.own = true := rfl
theorem c109_inj : ∀ u_ v_ : TL1Cur, ((fun x => (fun (c : TL1Cur) => ([.ptr (0, 0) 0] : List D)) x) u_).map nz = ((fun x => (fun (c : TL1Cur) => ([.ptr (0, 0) 0] : List D)) x) v_).map nz → (fun x => (fun (c : TL1Cur) => ([((0, 0), .box (encTL1Cur c))] : List (Nm × OO))) x) u_ = (fun x => (fun (c : TL1Cur) => ([((0, 0), .box (encTL1Cur c))] : List (Nm × OO))) x) v_ → u_ = v_ := by
  intro u_ v_ h h2_
  obtain ⟨c_b_, c_i_, c_h_⟩ := u_
  obtain ⟨c_b_', c_i_', c_h_'⟩ := v_
  simp [nz_lit, nz1_lit, nz_agg, nz_sl, nz1_sl, nz_sx, nz_el, nz1_el, nz_own, nz1_own, nz_ptr, nz_fn, nz_iface] at h h2_
  first | (simp [h, h2_]; done) | (obtain ⟨h3_, h4_⟩ := List.append_inj h2_ h.1; simp_all; done) | simp_all | grind
@[simp] theorem c109_fn (c : TL1Cur) : c109.fn ([.ptr (0, 0) 0]) ([((0, 0), .box (.agg [.sl false 1 (.lit (.int .u8 0)) (ML dU c.b_), .lit (.int .i64 c.i_), .lit (.int .i64 c.h_)]))]) = some (okCu c ∧ True, (fun x : List TSlot => (.own (0, 1) 3 0 x.length : D)) (v109 c ), (((0, 0), .box (encTL1Cur (n109 c ))) :: (fun x : List TSlot => ([((0, 1), .arr false 3 yTSlot (ML encTSlot x))] : List (Nm × OO))) (v109 c ))) :=
  mkCon_fn c109_inj (c : TL1Cur) rfl rfl
theorem c109_ok : c109.ok Try.prog := mkCon_ok fun c hpre => (q109_sp c  hpre.1 hpre.2).2
/-- loop.example/g03007/spec.DrawPutAway -/
theorem c41_ex (l : List Int) (hp : l.length ≤ 2097152) : ∃ x_ : List TSlot × TThing, (fun x : List TSlot × TThing => x.1.length ≤ 9) x_ ∧ PCo Try.prog 41 [encLU l] (Tab.of []) ((fun x : List TSlot × TThing => (.tup [.sl false 3 yTSlot (ML encTSlot x.1), encTThing x.2] : D)) x_) (Tab.of ((fun x : List TSlot × TThing => ([] : List (Nm × OO))) x_)) := by
  refine pco_ex_of_run (fun x : List TSlot × TThing => x.1.length ≤ 9) (fun x : List TSlot × TThing => (.tup [.sl false 3 yTSlot (ML encTSlot x.1), encTThing x.2] : D)) (fun x : List TSlot × TThing => ([] : List (Nm × OO))) [] (E := ⟨[c68, c109, c110], [], []⟩) (m := false) (base := 0) (Env.ok_cons c68_ok (Env.ok_cons c109_ok (Env.ok_cons c110_ok Env.ok_nil))) G_ok mix 300 6 Try.func41 (by kernel_rfl) rfl (by kernel_rfl) (by kernel_rfl) (by kernel_rfl) rfl ?_
  simp [Try.f41, hp]
  have hk := v68_ok l hp
  have hl := v109_ok _ hk trivial
  simp [hk]
  repeat' (with_reducible first | apply and_rev | apply Exists.intro (⟨?_, ?_, ?_, ?_, ?_⟩ : TThing) | apply Exists.intro | intro _)
  all_goals try dsimp only
  all_goals try with_reducible rfl
  all_goals try rfl
  all_goals (first | done | omega | assumption | exact List.length_pos_iff.2 (by assumption) | (simp [*]; done) | (simp [*]; omega) | (simp [*, below_eq]; done) | (simp [*, below_eq]; omega) | (simp only [below_eq, Int.reduceLT]; omega) | trace_state)
open Classical in
noncomputable def q41 (l : List Int) : List TSlot × TThing := if h : l.length ≤ 2097152 then Classical.choose (c41_ex l h) else default
theorem q41_sp (l : List Int) (hp : l.length ≤ 2097152) : (fun x : List TSlot × TThing => x.1.length ≤ 9) (q41 l) ∧ PCo Try.prog 41 [encLU l] (Tab.of []) ((fun x : List TSlot × TThing => (.tup [.sl false 3 yTSlot (ML encTSlot x.1), encTThing x.2] : D)) (q41 l)) (Tab.of ((fun x : List TSlot × TThing => ([] : List (Nm × OO))) (q41 l))) := by
  have e : q41 l = Classical.choose (c41_ex l hp) := by rw [q41, dif_pos hp]
  rw [e]
  exact Classical.choose_spec (c41_ex l hp)
noncomputable def v41 (l : List Int) : List TSlot × TThing := q41 l
theorem v41_ok (l : List Int) (hp : l.length ≤ 2097152) : (fun x : List TSlot × TThing => x.1.length ≤ 9) (v41 l) := (q41_sp l hp).1
noncomputable def c41 : Con := mkCon 41 false (α := (List Int)) (fun x => (fun (l : List Int) => ([encLU l] : List D)) x) (fun x => (fun (l : List Int) => ([] : List (Nm × OO))) x) (fun x => (fun (l : List Int) => l.length ≤ 2097152) x) (fun x => (fun (l : List Int) => (fun x : List TSlot × TThing => (.tup [.sl false 3 yTSlot (ML encTSlot x.1), encTThing x.2] : D)) (v41 l)) x) (fun x => (fun (l : List Int) => (fun x : List TSlot × TThing => ([] : List (Nm × OO))) (v41 l)) x)
@[simp] theorem c41_f : c41.f = 41 := rfl
@[simp] theorem c41_own : c41.own = false := rfl
theorem c41_inj : ∀ u_ v_ : (List Int), ((fun x => (fun (l : List Int) => ([encLU l] : List D)) x) u_).map nz = ((fun x => (fun (l : List Int) => ([encLU l] : List D)) x) v_).map nz → (fun x => (fun (l : List Int) => ([] : List (Nm × OO))) x) u_ = (fun x => (fun (l : List Int) => ([] : List (Nm × OO))) x) v_ → u_ = v_ := by
  intro u_ v_ h h2_
  obtain l := u_
  obtain l' := v_
  simp [nz_lit, nz1_lit, nz_agg, nz_sl, nz1_sl, nz_sx, nz_el, nz1_el, nz_own, nz1_own, nz_ptr, nz_fn, nz_iface] at h h2_
  first | (simp [h, h2_]; done) | (obtain ⟨h3_, h4_⟩ := List.append_inj h2_ h.1; simp_all; done) | simp_all | grind
@[simp] theorem c41_fn (l : List Int) : c41.fn ([(.sl false 1 (.lit (.int .u8 0)) (ML dU l))]) ([]) = some (l.length ≤ 2097152, (fun x : List TSlot × TThing => (.tup [.sl false 3 yTSlot (ML encTSlot x.1), encTThing x.2] : D)) (v41 l), (fun x : List TSlot × TThing => ([] : List (Nm × OO))) (v41 l)) :=
  mkCon_fn c41_inj (l : (List Int)) rfl rfl
theorem c41_ok : c41.ok Try.prog := mkCon_ok fun l hpre => (q41_sp l hpre).2
/-- loop.example/g03007/spec.DrawSlotOf -/
theorem c121_ex (l : List Int) (hp : l.length ≤ 2097152) : ∃ x_ : List TSlot × Int, (fun x : List TSlot × Int => x.1.length ≤ 9) x_ ∧ PCo Try.prog 121 [encLU l] (Tab.of []) ((fun x : List TSlot × Int => (.tup [.sl false 3 yTSlot (ML encTSlot x.1), dI x.2] : D)) x_) (Tab.of ((fun x : List TSlot × Int => ([] : List (Nm × OO))) x_)) := by
  refine pco_ex_of_run (fun x : List TSlot × Int => x.1.length ≤ 9) (fun x : List TSlot × Int => (.tup [.sl false 3 yTSlot (ML encTSlot x.1), dI x.2] : D)) (fun x : List TSlot × Int => ([] : List (Nm × OO))) [] (E := ⟨[c68, c72, c109, c140], [], []⟩) (m := false) (base := 1000000) (Env.ok_cons c68_ok (Env.ok_cons c72_ok (Env.ok_cons c109_ok (Env.ok_cons c140_ok Env.ok_nil)))) G_ok mix 300 6 Try.func121 (by kernel_rfl) rfl (by kernel_rfl) (by kernel_rfl) (by kernel_rfl) rfl ?_
  simp [Try.f121, hp]
  have hk := v68_ok l hp
  have hl := v109_ok _ hk trivial
  obtain ⟨h0, h9⟩ := hl
  obtain ⟨hb1, hb2, hb3⟩ := lt_ne (l := v109 (v68 l)) (below_bd (n109 (v68 l)) (v109 (v68 l)).length) (by intro e; rw [e] at h0; simp at h0)
  simp [hk]
  repeat' (with_reducible first | apply and_rev | apply Exists.intro | intro _)
  all_goals try dsimp only
  all_goals try with_reducible rfl
  all_goals try rfl
  all_goals (first | done | omega | assumption | exact List.length_pos_iff.2 (by assumption) | (simp [*]; done) | (simp [*]; omega) | (simp [*, below_eq]; done) | (simp [*, below_eq]; omega) | (simp only [below_eq, Int.reduceLT]; omega) | trace_state)
open Classical in
noncomputable def q121 (l : List Int) : List TSlot × Int := if h : l.length ≤ 2097152 then Classical.choose (c121_ex l h) else default
theorem q121_sp (l : List Int) (hp : l.length ≤ 2097152) : (fun x : List TSlot × Int => x.1.length ≤ 9) (q121 l) ∧ PCo Try.prog 121 [encLU l] (Tab.of []) ((fun x : List TSlot × Int => (.tup [.sl false 3 yTSlot (ML encTSlot x.1), dI x.2] : D)) (q121 l)) (Tab.of ((fun x : List TSlot × Int => ([] : List (Nm × OO))) (q121 l))) := by
  have e : q121 l = Classical.choose (c121_ex l hp) := by rw [q121, dif_pos hp]
  rw [e]
  exact Classical.choose_spec (c121_ex l hp)
noncomputable def v121 (l : List Int) : List TSlot × Int := q121 l
theorem v121_ok (l : List Int) (hp : l.length ≤ 2097152) : (fun x : List TSlot × Int => x.1.length ≤ 9) (v121 l) := (q121_sp l hp).1
noncomputable def c121 : Con := mkCon 121 false (α := (List Int)) (fun x => (fun (l : List Int) => ([encLU l] : List D)) x) (fun x => (fun (l : List Int) => ([] : List (Nm × OO))) x) (fun x => (fun (l : List Int) => l.length ≤ 2097152) x) (fun x => (fun (l : List Int) => (fun x : List TSlot × Int => (.tup [.sl false 3 yTSlot (ML encTSlot x.1), dI x.2] : D)) (v121 l)) x) (fun x => (fun (l : List Int) => (fun x : List TSlot × Int => ([] : List (Nm × OO))) (v121 l)) x)
@[simp] theorem c121_f : c121.f = 121 := rfl
@[simp] theorem c121_own : c121.own = false := rfl
theorem c121_inj : ∀ u_ v_ : (List Int), ((fun x => (fun (l : List Int) => ([encLU l] : List D)) x) u_).map nz = ((fun x => (fun (l : List Int) => ([encLU l] : List D)) x) v_).map nz → (fun x => (fun (l : List Int) => ([] : List (Nm × OO))) x) u_ = (fun x => (fun (l : List Int) => ([] : List (Nm × OO))) x) v_ → u_ = v_ := by
  intro u_ v_ h h2_
  obtain l := u_
  obtain l' := v_
  simp [nz_lit, nz1_lit, nz_agg, nz_sl, nz1_sl, nz_sx, nz_el, nz1_el, nz_own, nz1_own, nz_ptr, nz_fn, nz_iface] at h h2_
  first | (simp [h, h2_]; done) | (obtain ⟨h3_, h4_⟩ := List.append_inj h2_ h.1; simp_all; done) | simp_all | grind
@[simp] theorem c121_fn (l : List Int) : c121.fn ([(.sl false 1 (.lit (.int .u8 0)) (ML dU l))]) ([]) = some (l.length ≤ 2097152, (fun x : List TSlot × Int => (.tup [.sl false 3 yTSlot (ML encTSlot x.1), dI x.2] : D)) (v121 l), (fun x : List TSlot × Int => ([] : List (Nm × OO))) (v121 l)) :=
  mkCon_fn c121_inj (l : (List Int)) rfl rfl
theorem c121_ok : c121.ok Try.prog := mkCon_ok fun l hpre => (q121_sp l hpre).2
/-- loop.example/g03007/spec.DrawTakeOut -/
theorem c48_ex (l : List Int) (hp : l.length ≤ 2097152) : ∃ x_ : List TSlot × Int, (fun x : List TSlot × Int => x.1.length ≤ 9) x_ ∧ PCo Try.prog 48 [encLU l] (Tab.of []) ((fun x : List TSlot × Int => (.tup [.sl false 3 yTSlot (ML encTSlot x.1), dI x.2] : D)) x_) (Tab.of ((fun x : List TSlot × Int => ([] : List (Nm × OO))) x_)) := by
  refine pco_ex_of_run (fun x : List TSlot × Int => x.1.length ≤ 9) (fun x : List TSlot × Int => (.tup [.sl false 3 yTSlot (ML encTSlot x.1), dI x.2] : D)) (fun x : List TSlot × Int => ([] : List (Nm × OO))) [] (E := ⟨[c121], [], []⟩) (m := false) (base := 0) (Env.ok_cons c121_ok Env.ok_nil) G_ok mix 300 6 Try.func48 (by kernel_rfl) rfl (by kernel_rfl) (by kernel_rfl) (by kernel_rfl) rfl ?_
  simp [Try.f48, hp]
  have hl := v121_ok l hp
  repeat' (with_reducible first | apply and_rev | apply Exists.intro | intro _)
  all_goals try dsimp only
  all_goals try with_reducible rfl
  all_goals try rfl
  all_goals (first | done | omega | assumption | exact List.length_pos_iff.2 (by assumption) | (simp [*]; done) | (simp [*]; omega) | (simp [*, below_eq]; done) | (simp [*, below_eq]; omega) | (simp only [below_eq, Int.reduceLT]; omega) | trace_state)
open Classical in
noncomputable def q48 (l : List Int) : List TSlot × Int := if h : l.length ≤ 2097152 then Classical.choose (c48_ex l h) else default
theorem q48_sp (l : List Int) (hp : l.length ≤ 2097152) : (fun x : List TSlot × Int => x.1.length ≤ 9) (q48 l) ∧ PCo Try.prog 48 [encLU l] (Tab.of []) ((fun x : List TSlot × Int => (.tup [.sl false 3 yTSlot (ML encTSlot x.1), dI x.2] : D)) (q48 l)) (Tab.of ((fun x : List TSlot × Int => ([] : List (Nm × OO))) (q48 l))) := by
  have e : q48 l = Classical.choose (c48_ex l hp) := by rw [q48, dif_pos hp]
  rw [e]
  exact Classical.choose_spec (c48_ex l hp)
noncomputable def v48 (l : List Int) : List TSlot × Int := q48 l
theorem v48_ok (l : List Int) (hp : l.length ≤ 2097152) : (fun x : List TSlot × Int => x.1.length ≤ 9) (v48 l) := (q48_sp l hp).1
noncomputable def c48 : Con := mkCon 48 false (α := (List Int)) (fun x => (fun (l : List Int) => ([encLU l] : List D)) x) (fun x => (fun (l : List Int) => ([] : List (Nm × OO))) x) (fun x => (fun (l : List Int) => l.length ≤ 2097152) x) (fun x => (fun (l : List Int) => (fun x : List TSlot × Int => (.tup [.sl false 3 yTSlot (ML encTSlot x.1), dI x.2] : D)) (v48 l)) x) (fun x => (fun (l : List Int) => (fun x : List TSlot × Int => ([] : List (Nm × OO))) (v48 l)) x)
@[simp] theorem c48_f : c48.f = 48 := rfl
@[simp] theorem c48_own : c48.own = false := rfl
theorem c48_inj : ∀ u_ v_ : (List Int), ((fun x => (fun (l : List Int) => ([encLU l] : List D)) x) u_).map nz = ((fun x => (fun (l : List Int) => ([encLU l] : List D)) x) v_).map nz → (fun x => (fun (l : List Int) => ([] : List (Nm × OO))) x) u_ = (fun x => (fun (l : List Int) => ([] : List (Nm × OO))) x) v_ → u_ = v_ := by
  intro u_ v_ h h2_
  obtain l := u_
  obtain l' := v_
  simp [nz_lit, nz1_lit, nz_agg, nz_sl, nz1_sl, nz_sx, nz_el, nz1_el, nz_own, nz1_own, nz_ptr, nz_fn, nz_iface] at h h2_
  first | (simp [h, h2_]; done) | (obtain ⟨h3_, h4_⟩ := List.append_inj h2_ h.1; simp_all; done) | simp_all | grind
@[simp] theorem c48_fn (l : List Int) : c48.fn ([(.sl false 1 (.lit (.int .u8 0)) (ML dU l))]) ([]) = some (l.length ≤ 2097152, (fun x : List TSlot × Int => (.tup [.sl false 3 yTSlot (ML encTSlot x.1), dI x.2] : D)) (v48 l), (fun x : List TSlot × Int => ([] : List (Nm × OO))) (v48 l)) :=
  mkCon_fn c48_inj (l : (List Int)) rfl rfl
theorem c48_ok : c48.ok Try.prog := mkCon_ok fun l hpre => (q48_sp l hpre).2

end Go.Proofs.Ytpnfkjbnhholfaa
