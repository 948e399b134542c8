/- Contracts of the functions that the laws run. -/
import Derived.Test.YtpnfkjbnhholfaaEngB
import Derived.Test.YtpnfkjbnhholfaaEngB
import Derived.Test.Ytpnfkjbnhholfaadr11
import Derived.Test.Ytpnfkjbnhholfaach12b
import Derived.Test.YtpnfkjbnhholfaaEngB
namespace Go.Proofs.Ytpnfkjbnhholfaa
open Go Go.Eng
set_option linter.unusedSimpArgs false
set_option linter.unusedVariables false
set_option maxRecDepth 10000
set_option maxHeartbeats 1000000
/-- loop.example/g03007/spec.l12Draw -/
theorem c192_ex (c : TL1Cur) (l : List TMark) (hc : okCu c) (hp : l.length ≤ 100) : ∃ x_ : (TTrial) × TL1Cur, (fun x_ : (TTrial) × TL1Cur => okCu x_.2 ∧ (fun x : TTrial => 0 ≤ x.Right ∧ x.Right ≤ 4) x_.1) x_ ∧ PCo Try.prog 192 [.ptr (0, 0) 0, .own (1, 0) 2 0 l.length] (Tab.of [((0, 0), .box (encTL1Cur c)), ((1, 0), .arr false 2 yTMark (ML encTMark l))]) ((fun x_ : (TTrial) × TL1Cur => (fun x : TTrial => (encTTrial x : D)) x_.1) x_) (Tab.of ((fun x_ : (TTrial) × TL1Cur => (((0, 0), .box (encTL1Cur x_.2)) :: (fun x : TTrial => ([((1, 0), .arr false 2 yTMark (ML encTMark l))] : List (Nm × OO))) x_.1)) x_)) := by
  refine pco_ex_of_run (fun x_ : (TTrial) × TL1Cur => okCu x_.2 ∧ (fun x : TTrial => 0 ≤ x.Right ∧ x.Right ≤ 4) x_.1) (fun x_ : (TTrial) × TL1Cur => (fun x : TTrial => (encTTrial x : D)) x_.1) (fun x_ : (TTrial) × TL1Cur => (((0, 0), .box (encTL1Cur x_.2)) :: (fun x : TTrial => ([((1, 0), .arr false 2 yTMark (ML encTMark l))] : List (Nm × OO))) x_.1)) [] (E := ⟨[c71, c72, c86, c87, c221], [], []⟩) (m := false) (base := 0) (Env.ok_cons c71_ok (Env.ok_cons c72_ok (Env.ok_cons c86_ok (Env.ok_cons c87_ok (Env.ok_cons c221_ok Env.ok_nil))))) G_ok mix 300 6 Try.func192 (by kernel_rfl) rfl (by kernel_rfl) (by kernel_rfl) (by kernel_rfl) rfl ?_
  simp [Try.f192, hc, hp]
  have hb := below_bd (n72 c 20) 4 (by omega)
  repeat' (with_reducible first | apply And.intro | intro _)
  all_goals try (first | omega | assumption | (simp; done) | (simp only [below_eq, Int.reduceLT]; omega))
  refine loop_inv (fun p : Nat × TTrial × TL1Cur => 0 ≤ p.2.1.Right ∧ p.2.1.Right + p.1 ≤ 4 ∧ okCu p.2.2) (fun p => [(0, .ptr (0, 0) 0), (1, .own (1, 0) 2 0 l.length), (4, .ptr (0, 1) 0), (5, .ptr (1, 1) 0), (6, dI p.1)]) (fun p => [((0, 0), .box (encTL1Cur p.2.2)), ((1, 0), .arr false 2 yTMark (ML encTMark l)), ((0, 1), .box (encTTrial ⟨0, 0, 0, 0⟩)), ((1, 1), .box (encTTrial p.2.1))]) 2 (fun p => p.1) ((v72 (n72 c 20) 4).toNat, ⟨1 + v72 c 20, 0, 0, 0⟩, n72 (n72 c 20) 4) 400 (by simp) (by simp; omega) (by simp; omega) ?_
  rintro ⟨p, x, d⟩ ⟨h1, h2, hk⟩
  simp only at h1 h2 hk
  have hg : ∀ a, 0 ≤ (mGive l x a).Right ∧ (mGive l x a).Right ≤ x.Right + 1 := by
    intro a
    simp only [mGive]
    (repeat' split) <;> (try simp) <;> omega
  have hg2 : ∀ a, 0 < p → (mGive l x a).Right + ((p - 1 : Nat) : Int) ≤ 4 := fun a h => by have := hg a; omega
  simp [hk]
  refine ⟨fun h => ?_, fun h => ?_⟩
  · skip
    repeat' (with_reducible first | apply And.intro | intro _)
    all_goals try (first | omega | assumption | (simp; done) | (simp only [below_eq, Int.reduceLT]; omega))
    all_goals
      skip
      refine Again.mk (p - 1, ?_, ?_) ?hinv ?hle ?hmu
      case hle =>
        simp
        repeat' (with_reducible first | apply and_rev | intro _)
        all_goals try dsimp only
        all_goals try with_reducible rfl
        all_goals try rfl
        all_goals (first | done | omega | (simp [*]; done) | (simp; omega) | trace_state)
      case hinv => (simp [*]; try (first | done | omega | (repeat' (with_reducible apply And.intro)) <;> (first | omega | assumption | trace_state)))
      case hmu => (simp; try omega)
  · skip
    repeat' (with_reducible first | apply and_rev | apply Exists.intro (⟨?_, ?_, ?_, ?_⟩ : TTrial) | apply Exists.intro | intro _)
    all_goals try dsimp only
    all_goals try with_reducible rfl
    all_goals try rfl
    all_goals (first | done | omega | assumption | exact List.length_pos_iff.2 (by assumption) | (simp [*]; done) | (simp [*]; omega) | (simp [*, below_eq]; done) | (simp [*, below_eq]; omega) | (simp only [below_eq, Int.reduceLT]; omega) | trace_state)
open Classical in
noncomputable def q192 (c : TL1Cur) (l : List TMark) : (TTrial) × TL1Cur := if h : okCu c ∧ l.length ≤ 100 then Classical.choose (c192_ex c l h.1 h.2) else (default, ⟨[], 0, 0⟩)
theorem q192_sp (c : TL1Cur) (l : List TMark) (hc : okCu c) (hp : l.length ≤ 100) : (fun x_ : (TTrial) × TL1Cur => okCu x_.2 ∧ (fun x : TTrial => 0 ≤ x.Right ∧ x.Right ≤ 4) x_.1) (q192 c l) ∧ PCo Try.prog 192 [.ptr (0, 0) 0, .own (1, 0) 2 0 l.length] (Tab.of [((0, 0), .box (encTL1Cur c)), ((1, 0), .arr false 2 yTMark (ML encTMark l))]) ((fun x_ : (TTrial) × TL1Cur => (fun x : TTrial => (encTTrial x : D)) x_.1) (q192 c l)) (Tab.of ((fun x_ : (TTrial) × TL1Cur => (((0, 0), .box (encTL1Cur x_.2)) :: (fun x : TTrial => ([((1, 0), .arr false 2 yTMark (ML encTMark l))] : List (Nm × OO))) x_.1)) (q192 c l))) := by
  have e : q192 c l = Classical.choose (c192_ex c l hc hp) := by rw [q192, dif_pos ⟨hc, hp⟩]
  rw [e]
  exact Classical.choose_spec (c192_ex c l hc hp)
noncomputable def v192 (c : TL1Cur) (l : List TMark) : TTrial := (q192 c l).1
noncomputable def n192 (c : TL1Cur) (l : List TMark) : TL1Cur := (q192 c l).2
open Classical in
@[simp] theorem n192_ok (c : TL1Cur) (l : List TMark) : okCu (n192 c l) := by
  by_cases h : okCu c ∧ l.length ≤ 100
  · exact (q192_sp c l h.1 h.2).1.1
  · rw [n192, q192, dif_neg h]; exact ⟨by simp, by simp, by simp⟩
theorem v192_ok (c : TL1Cur) (l : List TMark) (hc : okCu c) (hp : l.length ≤ 100) : (fun x : TTrial => 0 ≤ x.Right ∧ x.Right ≤ 4) (v192 c l) := (q192_sp c l hc hp).1.2
noncomputable def c192 : Con := mkCon 192 true (α := TL1Cur × (List TMark)) (fun x => (fun (c : TL1Cur) (l : List TMark) => ([.ptr (0, 0) 0, .own (1, 0) 2 0 l.length] : List D)) x.1 x.2) (fun x => (fun (c : TL1Cur) (l : List TMark) => ([((0, 0), .box (encTL1Cur c)), ((1, 0), .arr false 2 yTMark (ML encTMark l))] : List (Nm × OO))) x.1 x.2) (fun x => (fun (c : TL1Cur) (l : List TMark) => okCu c ∧ l.length ≤ 100) x.1 x.2) (fun x => (fun (c : TL1Cur) (l : List TMark) => (fun x : TTrial => (encTTrial x : D)) (v192 c l)) x.1 x.2) (fun x => (fun (c : TL1Cur) (l : List TMark) => (((0, 0), .box (encTL1Cur (n192 c l))) :: (fun x : TTrial => ([((1, 0), .arr false 2 yTMark (ML encTMark l))] : List (Nm × OO))) (v192 c l))) x.1 x.2)
@[simp] theorem c192_f : c192.f = 192 := rfl
@[simp] theorem c192_own : c192.own = true := rfl
theorem c192_inj : ∀ u_ v_ : TL1Cur × (List TMark), ((fun x => (fun (c : TL1Cur) (l : List TMark) => ([.ptr (0, 0) 0, .own (1, 0) 2 0 l.length] : List D)) x.1 x.2) u_).map nz = ((fun x => (fun (c : TL1Cur) (l : List TMark) => ([.ptr (0, 0) 0, .own (1, 0) 2 0 l.length] : List D)) x.1 x.2) v_).map nz → (fun x => (fun (c : TL1Cur) (l : List TMark) => ([((0, 0), .box (encTL1Cur c)), ((1, 0), .arr false 2 yTMark (ML encTMark l))] : List (Nm × OO))) x.1 x.2) u_ = (fun x => (fun (c : TL1Cur) (l : List TMark) => ([((0, 0), .box (encTL1Cur c)), ((1, 0), .arr false 2 yTMark (ML encTMark l))] : List (Nm × OO))) x.1 x.2) v_ → u_ = v_ := by
  intro u_ v_ h h2_
  obtain ⟨⟨c_b_, c_i_, c_h_⟩, l⟩ := u_
  obtain ⟨⟨c_b_', c_i_', c_h_'⟩, l'⟩ := v_
  simp [nz_lit, nz1_lit, nz_agg, nz_sl, nz1_sl, nz_sx, nz_el, nz1_el, nz_own, nz1_own, nz_ptr, nz_fn, nz_iface] at h h2_
  first | (simp [h, h2_]; done) | (obtain ⟨h3_, h4_⟩ := List.append_inj h2_ h.1; simp_all; done) | simp_all | grind
@[simp] theorem c192_fn (c : TL1Cur) (l : List TMark) : c192.fn ([.ptr (0, 0) 0, .own (1, 0) 2 0 l.length]) ([((0, 0), .box (.agg [.sl false 1 (.lit (.int .u8 0)) (ML dU c.b_), .lit (.int .i64 c.i_), .lit (.int .i64 c.h_)])), ((1, 0), .arr false 2 yTMark (ML encTMark l))]) = some (okCu c ∧ l.length ≤ 100, (fun x : TTrial => (encTTrial x : D)) (v192 c l), (((0, 0), .box (encTL1Cur (n192 c l))) :: (fun x : TTrial => ([((1, 0), .arr false 2 yTMark (ML encTMark l))] : List (Nm × OO))) (v192 c l))) :=
  mkCon_fn c192_inj ((c, l) : TL1Cur × (List TMark)) rfl rfl
theorem c192_ok : c192.ok Try.prog := mkCon_ok fun ⟨c, l⟩ hpre => (q192_sp c l hpre.1 hpre.2).2
/-- loop.example/g03007/spec.l12Any -/
theorem c150_ex (c : TL1Cur) (hc : okCu c) (hp : True) : ∃ x_ : (List TMark × TTrial) × TL1Cur, (fun x_ : (List TMark × TTrial) × TL1Cur => okCu x_.2 ∧ (fun x : List TMark × TTrial => x.1.length ≤ 5) x_.1) x_ ∧ PCo Try.prog 150 [.ptr (0, 0) 0] (Tab.of [((0, 0), .box (encTL1Cur c))]) ((fun x_ : (List TMark × TTrial) × TL1Cur => (fun x : List TMark × TTrial => (.tup [.own (0, 1) 2 0 x.1.length, encTTrial x.2] : D)) x_.1) x_) (Tab.of ((fun x_ : (List TMark × TTrial) × TL1Cur => (((0, 0), .box (encTL1Cur x_.2)) :: (fun x : List TMark × TTrial => ([((0, 1), .arr false 2 yTMark (ML encTMark x.1))] : List (Nm × OO))) x_.1)) x_)) := by
  refine pco_ex_of_run (fun x_ : (List TMark × TTrial) × TL1Cur => okCu x_.2 ∧ (fun x : List TMark × TTrial => x.1.length ≤ 5) x_.1) (fun x_ : (List TMark × TTrial) × TL1Cur => (fun x : List TMark × TTrial => (.tup [.own (0, 1) 2 0 x.1.length, encTTrial x.2] : D)) x_.1) (fun x_ : (List TMark × TTrial) × TL1Cur => (((0, 0), .box (encTL1Cur x_.2)) :: (fun x : List TMark × TTrial => ([((0, 1), .arr false 2 yTMark (ML encTMark x.1))] : List (Nm × OO))) x_.1)) [] (E := ⟨[c72, c140, c142, c191, c192], [], []⟩) (m := false) (base := 1000000) (Env.ok_cons c72_ok (Env.ok_cons c140_ok (Env.ok_cons c142_ok (Env.ok_cons c191_ok (Env.ok_cons c192_ok Env.ok_nil))))) G_ok mix 300 6 Try.func150 (by kernel_rfl) rfl (by kernel_rfl) (by kernel_rfl) (by kernel_rfl) rfl ?_
  simp [Try.f150, hc]
  have hl := v191_ok c hc trivial
  have hx := v192_ok (n191 c) (v191 c) (by simp) (by omega)
  repeat' (with_reducible first | apply and_rev | apply Exists.intro (⟨?_, ?_, ?_, ?_⟩ : TTrial) | apply Exists.intro | intro _)
  all_goals try dsimp only
  all_goals try with_reducible rfl
  all_goals try rfl
  all_goals (first | done | omega | assumption | exact List.length_pos_iff.2 (by assumption) | (simp [*]; done) | (simp [*]; omega) | (simp [*, below_eq]; done) | (simp [*, below_eq]; omega) | (simp only [below_eq, Int.reduceLT]; omega) | trace_state)
open Classical in
noncomputable def q150 (c : TL1Cur) : (List TMark × TTrial) × TL1Cur := if h : okCu c ∧ True then Classical.choose (c150_ex c  h.1 h.2) else (default, ⟨[], 0, 0⟩)
theorem q150_sp (c : TL1Cur) (hc : okCu c) (hp : True) : (fun x_ : (List TMark × TTrial) × TL1Cur => okCu x_.2 ∧ (fun x : List TMark × TTrial => x.1.length ≤ 5) x_.1) (q150 c ) ∧ PCo Try.prog 150 [.ptr (0, 0) 0] (Tab.of [((0, 0), .box (encTL1Cur c))]) ((fun x_ : (List TMark × TTrial) × TL1Cur => (fun x : List TMark × TTrial => (.tup [.own (0, 1) 2 0 x.1.length, encTTrial x.2] : D)) x_.1) (q150 c )) (Tab.of ((fun x_ : (List TMark × TTrial) × TL1Cur => (((0, 0), .box (encTL1Cur x_.2)) :: (fun x : List TMark × TTrial => ([((0, 1), .arr false 2 yTMark (ML encTMark x.1))] : List (Nm × OO))) x_.1)) (q150 c ))) := by
  have e : q150 c  = Classical.choose (c150_ex c  hc hp) := by rw [q150, dif_pos ⟨hc, hp⟩]
  rw [e]
  exact Classical.choose_spec (c150_ex c  hc hp)
noncomputable def v150 (c : TL1Cur) : List TMark × TTrial := (q150 c ).1
noncomputable def n150 (c : TL1Cur) : TL1Cur := (q150 c ).2
open Classical in
@[simp] theorem n150_ok (c : TL1Cur) : okCu (n150 c ) := by
  by_cases h : okCu c ∧ True
  · exact (q150_sp c  h.1 h.2).1.1
  · rw [n150, q150, dif_neg h]; exact ⟨by simp, by simp, by simp⟩
theorem v150_ok (c : TL1Cur) (hc : okCu c) (hp : True) : (fun x : List TMark × TTrial => x.1.length ≤ 5) (v150 c ) := (q150_sp c  hc hp).1.2
noncomputable def c150 : Con := mkCon 150 true (α := TL1Cur) (fun x => (fun (c : TL1Cur) => ([.ptr (0, 0) 0] : List D)) x) (fun x => (fun (c : TL1Cur) => ([((0, 0), .box (encTL1Cur c))] : List (Nm × OO))) x) (fun x => (fun (c : TL1Cur) => okCu c ∧ True) x) (fun x => (fun (c : TL1Cur) => (fun x : List TMark × TTrial => (.tup [.own (0, 1) 2 0 x.1.length, encTTrial x.2] : D)) (v150 c )) x) (fun x => (fun (c : TL1Cur) => (((0, 0), .box (encTL1Cur (n150 c ))) :: (fun x : List TMark × TTrial => ([((0, 1), .arr false 2 yTMark (ML encTMark x.1))] : List (Nm × OO))) (v150 c ))) x)
@[simp] theorem c150_f : c150.f = 150 := rfl
@[simp] theorem c150_own : c150.own = true := rfl
theorem c150_inj : ∀ u_ v_ : TL1Cur, ((fun x => (fun (c : TL1Cur) => ([.ptr (0, 0) 0] : List D)) x) u_).map nz = ((fun x => (fun (c : TL1Cur) => ([.ptr (0, 0) 0] : List D)) x) v_).map nz → (fun x => (fun (c : TL1Cur) => ([((0, 0), .box (encTL1Cur c))] : List (Nm × OO))) x) u_ = (fun x => (fun (c : TL1Cur) => ([((0, 0), .box (encTL1Cur c))] : List (Nm × OO))) x) v_ → u_ = v_ := by
  intro u_ v_ h h2_
  obtain ⟨c_b_, c_i_, c_h_⟩ := u_
  obtain ⟨c_b_', c_i_', c_h_'⟩ := v_
  simp [nz_lit, nz1_lit, nz_agg, nz_sl, nz1_sl, nz_sx, nz_el, nz1_el, nz_own, nz1_own, nz_ptr, nz_fn, nz_iface] at h h2_
  first | (simp [h, h2_]; done) | (obtain ⟨h3_, h4_⟩ := List.append_inj h2_ h.1; simp_all; done) | simp_all | grind
@[simp] theorem c150_fn (c : TL1Cur) : c150.fn ([.ptr (0, 0) 0]) ([((0, 0), .box (.agg [.sl false 1 (.lit (.int .u8 0)) (ML dU c.b_), .lit (.int .i64 c.i_), .lit (.int .i64 c.h_)]))]) = some (okCu c ∧ True, (fun x : List TMark × TTrial => (.tup [.own (0, 1) 2 0 x.1.length, encTTrial x.2] : D)) (v150 c ), (((0, 0), .box (encTL1Cur (n150 c ))) :: (fun x : List TMark × TTrial => ([((0, 1), .arr false 2 yTMark (ML encTMark x.1))] : List (Nm × OO))) (v150 c ))) :=
  mkCon_fn c150_inj (c : TL1Cur) rfl rfl
theorem c150_ok : c150.ok Try.prog := mkCon_ok fun c hpre => (q150_sp c  hpre.1 hpre.2).2
/-- loop.example/g03007/spec.DrawTrialState -/
theorem c85_ex (l : List Int) (hp : l.length ≤ 2097152) : ∃ x_ : List TMark × TTrial, (fun x : List TMark × TTrial => x.1.length ≤ 5) x_ ∧ PCo Try.prog 85 [encLU l] (Tab.of []) ((fun x : List TMark × TTrial => (.tup [.sl false 2 yTMark (ML encTMark x.1), encTTrial x.2] : D)) x_) (Tab.of ((fun x : List TMark × TTrial => ([] : List (Nm × OO))) x_)) := by
  refine pco_ex_of_run (fun x : List TMark × TTrial => x.1.length ≤ 5) (fun x : List TMark × TTrial => (.tup [.sl false 2 yTMark (ML encTMark x.1), encTTrial x.2] : D)) (fun x : List TMark × TTrial => ([] : List (Nm × OO))) [] (E := ⟨[c68, c150], [], []⟩) (m := false) (base := 0) (Env.ok_cons c68_ok (Env.ok_cons c150_ok Env.ok_nil)) G_ok mix 300 6 Try.func85 (by kernel_rfl) rfl (by kernel_rfl) (by kernel_rfl) (by kernel_rfl) rfl ?_
  simp [Try.f85, hp]
  have hk := v68_ok l hp
  have hl := v150_ok _ hk trivial
  simp [hk]
  repeat' (with_reducible first | apply and_rev | apply Exists.intro (⟨?_, ?_, ?_, ?_⟩ : TTrial) | apply Exists.intro | intro _)
  all_goals try dsimp only
  all_goals try with_reducible rfl
  all_goals try rfl
  all_goals (first | done | omega | assumption | exact List.length_pos_iff.2 (by assumption) | (simp [*]; done) | (simp [*]; omega) | (simp [*, below_eq]; done) | (simp [*, below_eq]; omega) | (simp only [below_eq, Int.reduceLT]; omega) | trace_state)
open Classical in
noncomputable def q85 (l : List Int) : List TMark × TTrial := if h : l.length ≤ 2097152 then Classical.choose (c85_ex l h) else default
theorem q85_sp (l : List Int) (hp : l.length ≤ 2097152) : (fun x : List TMark × TTrial => x.1.length ≤ 5) (q85 l) ∧ PCo Try.prog 85 [encLU l] (Tab.of []) ((fun x : List TMark × TTrial => (.tup [.sl false 2 yTMark (ML encTMark x.1), encTTrial x.2] : D)) (q85 l)) (Tab.of ((fun x : List TMark × TTrial => ([] : List (Nm × OO))) (q85 l))) := by
  have e : q85 l = Classical.choose (c85_ex l hp) := by rw [q85, dif_pos hp]
  rw [e]
  exact Classical.choose_spec (c85_ex l hp)
noncomputable def v85 (l : List Int) : List TMark × TTrial := q85 l
theorem v85_ok (l : List Int) (hp : l.length ≤ 2097152) : (fun x : List TMark × TTrial => x.1.length ≤ 5) (v85 l) := (q85_sp l hp).1
noncomputable def c85 : Con := mkCon 85 false (α := (List Int)) (fun x => (fun (l : List Int) => ([encLU l] : List D)) x) (fun x => (fun (l : List Int) => ([] : List (Nm × OO))) x) (fun x => (fun (l : List Int) => l.length ≤ 2097152) x) (fun x => (fun (l : List Int) => (fun x : List TMark × TTrial => (.tup [.sl false 2 yTMark (ML encTMark x.1), encTTrial x.2] : D)) (v85 l)) x) (fun x => (fun (l : List Int) => (fun x : List TMark × TTrial => ([] : List (Nm × OO))) (v85 l)) x)
@[simp] theorem c85_f : c85.f = 85 := rfl
@[simp] theorem c85_own : c85.own = false := rfl
theorem c85_inj : ∀ u_ v_ : (List Int), ((fun x => (fun (l : List Int) => ([encLU l] : List D)) x) u_).map nz = ((fun x => (fun (l : List Int) => ([encLU l] : List D)) x) v_).map nz → (fun x => (fun (l : List Int) => ([] : List (Nm × OO))) x) u_ = (fun x => (fun (l : List Int) => ([] : List (Nm × OO))) x) v_ → u_ = v_ := by
  intro u_ v_ h h2_
  obtain l := u_
  obtain l' := v_
  simp [nz_lit, nz1_lit, nz_agg, nz_sl, nz1_sl, nz_sx, nz_el, nz1_el, nz_own, nz1_own, nz_ptr, nz_fn, nz_iface] at h h2_
  first | (simp [h, h2_]; done) | (obtain ⟨h3_, h4_⟩ := List.append_inj h2_ h.1; simp_all; done) | simp_all | grind
@[simp] theorem c85_fn (l : List Int) : c85.fn ([(.sl false 1 (.lit (.int .u8 0)) (ML dU l))]) ([]) = some (l.length ≤ 2097152, (fun x : List TMark × TTrial => (.tup [.sl false 2 yTMark (ML encTMark x.1), encTTrial x.2] : D)) (v85 l), (fun x : List TMark × TTrial => ([] : List (Nm × OO))) (v85 l)) :=
  mkCon_fn c85_inj (l : (List Int)) rfl rfl
theorem c85_ok : c85.ok Try.prog := mkCon_ok fun l hpre => (q85_sp l hpre).2
/-- loop.example/g03007/spec.DrawGiveAnswer -/
theorem c21_ex (l : List Int) (hp : l.length ≤ 2097152) : ∃ x_ : List TMark × TTrial × Int, (fun x : List TMark × TTrial × Int => x.1.length ≤ 5) x_ ∧ PCo Try.prog 21 [encLU l] (Tab.of []) ((fun x : List TMark × TTrial × Int => (.tup [.sl false 2 yTMark (ML encTMark x.1), encTTrial x.2.1, dI x.2.2] : D)) x_) (Tab.of ((fun x : List TMark × TTrial × Int => ([] : List (Nm × OO))) x_)) := by
  refine pco_ex_of_run (fun x : List TMark × TTrial × Int => x.1.length ≤ 5) (fun x : List TMark × TTrial × Int => (.tup [.sl false 2 yTMark (ML encTMark x.1), encTTrial x.2.1, dI x.2.2] : D)) (fun x : List TMark × TTrial × Int => ([] : List (Nm × OO))) [] (E := ⟨[c68, c71, c72, c85, c86, c87], [], []⟩) (m := false) (base := 0) (Env.ok_cons c68_ok (Env.ok_cons c71_ok (Env.ok_cons c72_ok (Env.ok_cons c85_ok (Env.ok_cons c86_ok (Env.ok_cons c87_ok Env.ok_nil)))))) G_ok mix 300 6 Try.func21 (by kernel_rfl) rfl (by kernel_rfl) (by kernel_rfl) (by kernel_rfl) rfl ?_
  simp [Try.f21, hp]
  have hk := v68_ok l hp
  have hl := v85_ok l hp
  simp [hk]
  repeat' (with_reducible first | apply and_rev | apply Exists.intro (⟨?_, ?_, ?_, ?_⟩ : TTrial) | apply Exists.intro | intro _)
  all_goals try dsimp only
  all_goals try with_reducible rfl
  all_goals try rfl
  all_goals (first | done | omega | assumption | exact List.length_pos_iff.2 (by assumption) | (simp [*]; done) | (simp [*]; omega) | (simp [*, below_eq]; done) | (simp [*, below_eq]; omega) | (simp only [below_eq, Int.reduceLT]; omega) | trace_state)
open Classical in
noncomputable def q21 (l : List Int) : List TMark × TTrial × Int := if h : l.length ≤ 2097152 then Classical.choose (c21_ex l h) else default
theorem q21_sp (l : List Int) (hp : l.length ≤ 2097152) : (fun x : List TMark × TTrial × Int => x.1.length ≤ 5) (q21 l) ∧ PCo Try.prog 21 [encLU l] (Tab.of []) ((fun x : List TMark × TTrial × Int => (.tup [.sl false 2 yTMark (ML encTMark x.1), encTTrial x.2.1, dI x.2.2] : D)) (q21 l)) (Tab.of ((fun x : List TMark × TTrial × Int => ([] : List (Nm × OO))) (q21 l))) := by
  have e : q21 l = Classical.choose (c21_ex l hp) := by rw [q21, dif_pos hp]
  rw [e]
  exact Classical.choose_spec (c21_ex l hp)
noncomputable def v21 (l : List Int) : List TMark × TTrial × Int := q21 l
theorem v21_ok (l : List Int) (hp : l.length ≤ 2097152) : (fun x : List TMark × TTrial × Int => x.1.length ≤ 5) (v21 l) := (q21_sp l hp).1
noncomputable def c21 : Con := mkCon 21 false (α := (List Int)) (fun x => (fun (l : List Int) => ([encLU l] : List D)) x) (fun x => (fun (l : List Int) => ([] : List (Nm × OO))) x) (fun x => (fun (l : List Int) => l.length ≤ 2097152) x) (fun x => (fun (l : List Int) => (fun x : List TMark × TTrial × Int => (.tup [.sl false 2 yTMark (ML encTMark x.1), encTTrial x.2.1, dI x.2.2] : D)) (v21 l)) x) (fun x => (fun (l : List Int) => (fun x : List TMark × TTrial × Int => ([] : List (Nm × OO))) (v21 l)) x)
@[simp] theorem c21_f : c21.f = 21 := rfl
@[simp] theorem c21_own : c21.own = false := rfl
theorem c21_inj : ∀ u_ v_ : (List Int), ((fun x => (fun (l : List Int) => ([encLU l] : List D)) x) u_).map nz = ((fun x => (fun (l : List Int) => ([encLU l] : List D)) x) v_).map nz → (fun x => (fun (l : List Int) => ([] : List (Nm × OO))) x) u_ = (fun x => (fun (l : List Int) => ([] : List (Nm × OO))) x) v_ → u_ = v_ := by
  intro u_ v_ h h2_
  obtain l := u_
  obtain l' := v_
  simp [nz_lit, nz1_lit, nz_agg, nz_sl, nz1_sl, nz_sx, nz_el, nz1_el, nz_own, nz1_own, nz_ptr, nz_fn, nz_iface] at h h2_
  first | (simp [h, h2_]; done) | (obtain ⟨h3_, h4_⟩ := List.append_inj h2_ h.1; simp_all; done) | simp_all | grind
@[simp] theorem c21_fn (l : List Int) : c21.fn ([(.sl false 1 (.lit (.int .u8 0)) (ML dU l))]) ([]) = some (l.length ≤ 2097152, (fun x : List TMark × TTrial × Int => (.tup [.sl false 2 yTMark (ML encTMark x.1), encTTrial x.2.1, dI x.2.2] : D)) (v21 l), (fun x : List TMark × TTrial × Int => ([] : List (Nm × OO))) (v21 l)) :=
  mkCon_fn c21_inj (l : (List Int)) rfl rfl
theorem c21_ok : c21.ok Try.prog := mkCon_ok fun l hpre => (q21_sp l hpre).2
/-- loop.example/g03007/spec.DrawAnswerAll -/
theorem c30_ex (l : List Int) (hp : l.length ≤ 2097152) : ∃ x_ : List TMark × TTrial × List Int, (fun x : List TMark × TTrial × List Int => x.1.length ≤ 5 ∧ x.2.2.length ≤ 5) x_ ∧ PCo Try.prog 30 [encLU l] (Tab.of []) ((fun x : List TMark × TTrial × List Int => (.tup [.sl false 2 yTMark (ML encTMark x.1), encTTrial x.2.1, .sl false 1 (dI 0) (ML dI x.2.2)] : D)) x_) (Tab.of ((fun x : List TMark × TTrial × List Int => ([] : List (Nm × OO))) x_)) := by
  refine pco_ex_of_run (fun x : List TMark × TTrial × List Int => x.1.length ≤ 5 ∧ x.2.2.length ≤ 5) (fun x : List TMark × TTrial × List Int => (.tup [.sl false 2 yTMark (ML encTMark x.1), encTTrial x.2.1, .sl false 1 (dI 0) (ML dI x.2.2)] : D)) (fun x : List TMark × TTrial × List Int => ([] : List (Nm × OO))) [] (E := ⟨[c68, c72, c85], [], []⟩) (m := false) (base := 0) (Env.ok_cons c68_ok (Env.ok_cons c72_ok (Env.ok_cons c85_ok Env.ok_nil))) G_ok mix 300 6 Try.func30 (by kernel_rfl) rfl (by kernel_rfl) (by kernel_rfl) (by kernel_rfl) rfl ?_
  simp [Try.f30, hp]
  have hk := v68_ok l hp
  have hl := v85_ok l hp
  simp [hk]
  have b6 := below_bd (v68 l) 6 (by omega)
  refine loop_inv (fun p : Nat × List Int × TL1Cur => p.2.1.length + p.1 ≤ 5 ∧ okCu p.2.2) (fun p => [(3, .ptr (0, 1) 0), (5, .sl false 2 yTMark (ML encTMark (v85 l).1)), (6, .ptr (1, 1) 0), (7, .ptr (2, 1) 0), (8, .own (3, 1) 1 0 p.2.1.length), (9, dI p.1)]) (fun p => [((0, 1), .box (encTTrial ⟨0, 0, 0, 0⟩)), ((1, 1), .box (encTTrial (v85 l).2)), ((2, 1), .box (encTL1Cur p.2.2)), ((3, 1), .arr false 1 (dI 0) (ML dI p.2.1))]) 2 (fun p => p.1) ((v72 (v68 l) 6).toNat, [], n72 (v68 l) 6) 400 (by simp) (by simp; omega) (by simp; omega) ?_
  rintro ⟨p, q, d⟩ ⟨h1, hk2⟩
  simp only at h1 hk2
  simp [hk2]
  refine ⟨fun h => ?_, fun h => ?_⟩
  · skip
    repeat' (with_reducible first | apply And.intro | intro _)
    all_goals try (first | omega | assumption | (simp; done) | (simp only [below_eq, Int.reduceLT]; omega))
    refine Again.mk (p - 1, q ++ [v72 d 9], ?_) ?hinv ?hle ?hmu
    case hle =>
      simp
      repeat' (with_reducible first | apply and_rev | intro _)
      all_goals try dsimp only
      all_goals try with_reducible rfl
      all_goals try rfl
      all_goals (first | done | omega | (simp [*]; done) | (simp; omega) | trace_state)
    case hinv => (simp [*]; try (first | done | omega | (repeat' (with_reducible apply And.intro)) <;> (first | omega | assumption | trace_state)))
    case hmu => (simp; try omega)
  · skip
    repeat' (with_reducible first | apply and_rev | apply Exists.intro (⟨?_, ?_, ?_, ?_⟩ : TTrial) | apply Exists.intro | intro _)
    all_goals try dsimp only
    all_goals try with_reducible rfl
    all_goals try rfl
    all_goals (first | done | omega | assumption | exact List.length_pos_iff.2 (by assumption) | (simp [*]; done) | (simp [*]; omega) | (simp [*, below_eq]; done) | (simp [*, below_eq]; omega) | (simp only [below_eq, Int.reduceLT]; omega) | trace_state)
open Classical in
noncomputable def q30 (l : List Int) : List TMark × TTrial × List Int := if h : l.length ≤ 2097152 then Classical.choose (c30_ex l h) else default
theorem q30_sp (l : List Int) (hp : l.length ≤ 2097152) : (fun x : List TMark × TTrial × List Int => x.1.length ≤ 5 ∧ x.2.2.length ≤ 5) (q30 l) ∧ PCo Try.prog 30 [encLU l] (Tab.of []) ((fun x : List TMark × TTrial × List Int => (.tup [.sl false 2 yTMark (ML encTMark x.1), encTTrial x.2.1, .sl false 1 (dI 0) (ML dI x.2.2)] : D)) (q30 l)) (Tab.of ((fun x : List TMark × TTrial × List Int => ([] : List (Nm × OO))) (q30 l))) := by
  have e : q30 l = Classical.choose (c30_ex l hp) := by rw [q30, dif_pos hp]
  rw [e]
  exact Classical.choose_spec (c30_ex l hp)
noncomputable def v30 (l : List Int) : List TMark × TTrial × List Int := q30 l
theorem v30_ok (l : List Int) (hp : l.length ≤ 2097152) : (fun x : List TMark × TTrial × List Int => x.1.length ≤ 5 ∧ x.2.2.length ≤ 5) (v30 l) := (q30_sp l hp).1
noncomputable def c30 : Con := mkCon 30 false (α := (List Int)) (fun x => (fun (l : List Int) => ([encLU l] : List D)) x) (fun x => (fun (l : List Int) => ([] : List (Nm × OO))) x) (fun x => (fun (l : List Int) => l.length ≤ 2097152) x) (fun x => (fun (l : List Int) => (fun x : List TMark × TTrial × List Int => (.tup [.sl false 2 yTMark (ML encTMark x.1), encTTrial x.2.1, .sl false 1 (dI 0) (ML dI x.2.2)] : D)) (v30 l)) x) (fun x => (fun (l : List Int) => (fun x : List TMark × TTrial × List Int => ([] : List (Nm × OO))) (v30 l)) x)
@[simp] theorem c30_f : c30.f = 30 := rfl
@[simp] theorem c30_own : c30.own = false := rfl
theorem c30_inj : ∀ u_ v_ : (List Int), ((fun x => (fun (l : List Int) => ([encLU l] : List D)) x) u_).map nz = ((fun x => (fun (l : List Int) => ([encLU l] : List D)) x) v_).map nz → (fun x => (fun (l : List Int) => ([] : List (Nm × OO))) x) u_ = (fun x => (fun (l : List Int) => ([] : List (Nm × OO))) x) v_ → u_ = v_ := by
  intro u_ v_ h h2_
  obtain l := u_
  obtain l' := v_
  simp [nz_lit, nz1_lit, nz_agg, nz_sl, nz1_sl, nz_sx, nz_el, nz1_el, nz_own, nz1_own, nz_ptr, nz_fn, nz_iface] at h h2_
  first | (simp [h, h2_]; done) | (obtain ⟨h3_, h4_⟩ := List.append_inj h2_ h.1; simp_all; done) | simp_all | grind
@[simp] theorem c30_fn (l : List Int) : c30.fn ([(.sl false 1 (.lit (.int .u8 0)) (ML dU l))]) ([]) = some (l.length ≤ 2097152, (fun x : List TMark × TTrial × List Int => (.tup [.sl false 2 yTMark (ML encTMark x.1), encTTrial x.2.1, .sl false 1 (dI 0) (ML dI x.2.2)] : D)) (v30 l), (fun x : List TMark × TTrial × List Int => ([] : List (Nm × OO))) (v30 l)) :=
  mkCon_fn c30_inj (l : (List Int)) rfl rfl
theorem c30_ok : c30.ok Try.prog := mkCon_ok fun l hpre => (q30_sp l hpre).2

end Go.Proofs.Ytpnfkjbnhholfaa
