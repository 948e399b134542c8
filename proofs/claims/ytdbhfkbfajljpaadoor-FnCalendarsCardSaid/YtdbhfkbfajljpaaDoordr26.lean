/- Contracts of the functions that the laws run. -/
import Derived.Test.YtdbhfkbfajljpaaDoorEngB
import Derived.Test.YtdbhfkbfajljpaaDoorEngB
import Derived.Test.YtdbhfkbfajljpaaDoordr6
import Derived.Test.YtdbhfkbfajljpaaDoorch26
import Derived.Test.YtdbhfkbfajljpaaDoorEngB
namespace Go.Proofs.YtdbhfkbfajljpaaDoor
open Go Go.Eng
set_option linter.unusedSimpArgs false
set_option linter.unusedVariables false
set_option maxRecDepth 10000
set_option maxHeartbeats 1000000
/-- loop.example/g03007/spec.l26Draw -/
theorem c22_ex (c : TL1Cur) (hc : okCu c) (hp : True) : ∃ x_ : (Nat × List Bool) × TL1Cur, (fun x_ : (Nat × List Bool) × TL1Cur => okCu x_.2 ∧ (fun x : Nat × List Bool => x.2.length = 7 ∧ x.1 ≤ 7) x_.1) x_ ∧ PCo Tryd.prog 22 [.ptr (0, 0) 0] (Tab.of [((0, 0), .box (encTL1Cur c))]) ((fun x_ : (Nat × List Bool) × TL1Cur => (fun x : Nat × List Bool => (.own (0, 1) 1 0 x.1 : D)) x_.1) x_) (Tab.of ((fun x_ : (Nat × List Bool) × TL1Cur => (((0, 0), .box (encTL1Cur x_.2)) :: (fun x : Nat × List Bool => ([((0, 1), .arr false 1 (dB false) (ML dB x.2))] : List (Nm × OO))) x_.1)) x_)) := by
  refine pco_ex_of_run (fun x_ : (Nat × List Bool) × TL1Cur => okCu x_.2 ∧ (fun x : Nat × List Bool => x.2.length = 7 ∧ x.1 ≤ 7) x_.1) (fun x_ : (Nat × List Bool) × TL1Cur => (fun x : Nat × List Bool => (.own (0, 1) 1 0 x.1 : D)) x_.1) (fun x_ : (Nat × List Bool) × TL1Cur => (((0, 0), .box (encTL1Cur x_.2)) :: (fun x : Nat × List Bool => ([((0, 1), .arr false 1 (dB false) (ML dB x.2))] : List (Nm × OO))) x_.1)) [] (E := ⟨[c27, c29], [], []⟩) (m := false) (base := 0) (Env.ok_cons c27_ok (Env.ok_cons c29_ok Env.ok_nil)) G_ok mix 300 6 Tryd.func22 (by kernel_rfl) rfl (by kernel_rfl) (by kernel_rfl) (by kernel_rfl) rfl ?_
  simp [Tryd.f22, hc]
  refine loop_inv (fun p : Nat × List Bool × TL1Cur => p.1 ≤ 7 ∧ p.2.1.length = p.1 ∧ okCu p.2.2) (fun p => [(0, .ptr (0, 0) 0), (3, .own (0, 1) 1 0 p.2.1.length), (4, dI p.1)]) (fun p => [((0, 0), .box (encTL1Cur p.2.2)), ((0, 1), .arr false 1 (dB false) (ML dB p.2.1))]) 2 (fun p => 7 - p.1) (0, [], c) 400 (by simp) (by simp [hc]) (by simp) ?_
  rintro ⟨p, l, d⟩ ⟨hp, hl, hk⟩
  simp only at hp hl hk
  have hb := below_bd d 9 (by omega)
  have hk2 : okCu (n27 d 9) := by simp [hk]
  simp [hk]
  refine ⟨fun h => ?_, fun h => ?_⟩
  · skip
    repeat' (with_reducible first | apply And.intro | intro _)
    all_goals try (first | omega | assumption | (simp; done) | (simp only [below_eq, Int.reduceLT]; omega))
    refine Again.mk (p + 1, ?_, ?_) ?hinv ?hle ?hmu
    case hle =>
      simp
      repeat' (with_reducible first | apply and_rev | intro _)
      all_goals try dsimp only
      all_goals try with_reducible rfl
      all_goals try rfl
      all_goals (first | done | omega | (simp [*]; done) | (simp; omega) | trace_state)
    case hinv => (simp [*]; try (first | done | omega | (repeat' (with_reducible apply And.intro)) <;> (first | omega | assumption | trace_state)))
    case hmu => (simp; try omega)
  · have h7 : l.length = 7 := by omega
    refine ⟨fun h0 => ⟨by omega, ?_⟩, fun h0 => ⟨fun h1 => ?_, fun h1 => ⟨fun h2 => ?_, fun h2 => ?_⟩⟩⟩
    · refine ⟨6, l, n27 d 9, ⟨hk2, h7, by omega⟩, ?_⟩
      repeat' (with_reducible first | apply and_rev | apply Exists.intro | intro _)
      all_goals try dsimp only
      all_goals try with_reducible rfl
      all_goals try rfl
      all_goals (first | done | omega | assumption | exact List.length_pos_iff.2 (by assumption) | (simp [*]; done) | (simp [*]; omega) | (simp [*, below_eq]; done) | (simp [*, below_eq]; omega) | (simp only [below_eq, Int.reduceLT]; omega) | trace_state)
    · refine ⟨7, [false, false, false, false, false, false, false], n27 d 9, ⟨hk2, rfl, by omega⟩, ?_⟩
      repeat' (with_reducible first | apply and_rev | apply Exists.intro | intro _)
      all_goals try dsimp only
      all_goals try with_reducible rfl
      all_goals try rfl
      all_goals (first | done | omega | assumption | exact List.length_pos_iff.2 (by assumption) | (simp [*]; done) | (simp [*]; omega) | (simp [*, below_eq]; done) | (simp [*, below_eq]; omega) | (simp only [below_eq, Int.reduceLT]; omega) | trace_state)
    · refine ⟨7, [false, false, false, true, false, false, false], n27 d 9, ⟨hk2, rfl, by omega⟩, ?_⟩
      repeat' (with_reducible first | apply and_rev | apply Exists.intro | intro _)
      all_goals try dsimp only
      all_goals try with_reducible rfl
      all_goals try rfl
      all_goals (first | done | omega | assumption | exact List.length_pos_iff.2 (by assumption) | (simp [*]; done) | (simp [*]; omega) | (simp [*, below_eq]; done) | (simp [*, below_eq]; omega) | (simp only [below_eq, Int.reduceLT]; omega) | trace_state)
    · refine ⟨7, l, n27 d 9, ⟨hk2, h7, by omega⟩, ?_⟩
      repeat' (with_reducible first | apply and_rev | apply Exists.intro | intro _)
      all_goals try dsimp only
      all_goals try with_reducible rfl
      all_goals try rfl
      all_goals (first | done | omega | assumption | exact List.length_pos_iff.2 (by assumption) | (simp [*]; done) | (simp [*]; omega) | (simp [*, below_eq]; done) | (simp [*, below_eq]; omega) | (simp only [below_eq, Int.reduceLT]; omega) | trace_state)
open Classical in
noncomputable def q22 (c : TL1Cur) : (Nat × List Bool) × TL1Cur := if h : okCu c ∧ True then Classical.choose (c22_ex c  h.1 h.2) else (default, ⟨[], 0, 0⟩)
theorem q22_sp (c : TL1Cur) (hc : okCu c) (hp : True) : (fun x_ : (Nat × List Bool) × TL1Cur => okCu x_.2 ∧ (fun x : Nat × List Bool => x.2.length = 7 ∧ x.1 ≤ 7) x_.1) (q22 c ) ∧ PCo Tryd.prog 22 [.ptr (0, 0) 0] (Tab.of [((0, 0), .box (encTL1Cur c))]) ((fun x_ : (Nat × List Bool) × TL1Cur => (fun x : Nat × List Bool => (.own (0, 1) 1 0 x.1 : D)) x_.1) (q22 c )) (Tab.of ((fun x_ : (Nat × List Bool) × TL1Cur => (((0, 0), .box (encTL1Cur x_.2)) :: (fun x : Nat × List Bool => ([((0, 1), .arr false 1 (dB false) (ML dB x.2))] : List (Nm × OO))) x_.1)) (q22 c ))) := by
  have e : q22 c  = Classical.choose (c22_ex c  hc hp) := by rw [q22, dif_pos ⟨hc, hp⟩]
  rw [e]
  exact Classical.choose_spec (c22_ex c  hc hp)
noncomputable def v22 (c : TL1Cur) : Nat × List Bool := (q22 c ).1
noncomputable def n22 (c : TL1Cur) : TL1Cur := (q22 c ).2
open Classical in
@[simp] theorem n22_ok (c : TL1Cur) : okCu (n22 c ) := by
  by_cases h : okCu c ∧ True
  · exact (q22_sp c  h.1 h.2).1.1
  · rw [n22, q22, dif_neg h]; exact ⟨by simp, by simp, by simp⟩
theorem v22_ok (c : TL1Cur) (hc : okCu c) (hp : True) : (fun x : Nat × List Bool => x.2.length = 7 ∧ x.1 ≤ 7) (v22 c ) := (q22_sp c  hc hp).1.2
noncomputable def c22 : Con := mkCon 22 true (α := TL1Cur) (fun x => (fun (c : TL1Cur) => ([.ptr (0, 0) 0] : List D)) x) (fun x => (fun (c : TL1Cur) => ([((0, 0), .box (encTL1Cur c))] : List (Nm × OO))) x) (fun x => (fun (c : TL1Cur) => okCu c ∧ True) x) (fun x => (fun (c : TL1Cur) => (fun x : Nat × List Bool => (.own (0, 1) 1 0 x.1 : D)) (v22 c )) x) (fun x => (fun (c : TL1Cur) => (((0, 0), .box (encTL1Cur (n22 c ))) :: (fun x : Nat × List Bool => ([((0, 1), .arr false 1 (dB false) (ML dB x.2))] : List (Nm × OO))) (v22 c ))) x)
@[simp] theorem c22_f : c22.f = 22 := rfl
@[simp] theorem c22_own : c22.own = true := rfl
theorem c22_inj : ∀ u_ v_ : TL1Cur, ((fun x => (fun (c : TL1Cur) => ([.ptr (0, 0) 0] : List D)) x) u_).map nz = ((fun x => (fun (c : TL1Cur) => ([.ptr (0, 0) 0] : List D)) x) v_).map nz → (fun x => (fun (c : TL1Cur) => ([((0, 0), .box (encTL1Cur c))] : List (Nm × OO))) x) u_ = (fun x => (fun (c : TL1Cur) => ([((0, 0), .box (encTL1Cur c))] : List (Nm × OO))) x) v_ → u_ = v_ := by
  intro u_ v_ h h2_
  obtain ⟨c_b_, c_i_, c_h_⟩ := u_
  obtain ⟨c_b_', c_i_', c_h_'⟩ := v_
  simp [nz_lit, nz1_lit, nz_agg, nz_sl, nz1_sl, nz_sx, nz_el, nz1_el, nz_own, nz1_own, nz_ptr, nz_fn, nz_iface] at h h2_
  first | (simp [h, h2_]; done) | (obtain ⟨h3_, h4_⟩ := List.append_inj h2_ h.1; simp_all; done) | simp_all | grind
@[simp] theorem c22_fn (c : TL1Cur) : c22.fn ([.ptr (0, 0) 0]) ([((0, 0), .box (.agg [.sl false 1 (.lit (.int .u8 0)) (ML dU c.b_), .lit (.int .i64 c.i_), .lit (.int .i64 c.h_)]))]) = some (okCu c ∧ True, (fun x : Nat × List Bool => (.own (0, 1) 1 0 x.1 : D)) (v22 c ), (((0, 0), .box (encTL1Cur (n22 c ))) :: (fun x : Nat × List Bool => ([((0, 1), .arr false 1 (dB false) (ML dB x.2))] : List (Nm × OO))) (v22 c ))) :=
  mkCon_fn c22_inj (c : TL1Cur) rfl rfl
theorem c22_ok : c22.ok Tryd.prog := mkCon_ok fun c hpre => (q22_sp c  hpre.1 hpre.2).2
theorem cut_len {n : Nat} {l : List Bool} (h : l.length = 7 ∧ n ≤ 7) : (if n = l.length then l else l.take n).length ≤ 7 := by
  split
  · omega
  · rw [List.length_take]; omega
/-- loop.example/g03007/spec.l1Int -/
theorem c17f_ex (c : TL1Cur) (l : List Int) (hc : okCu c) (hp : 0 < l.length ∧ l.length ≤ 1099511627776) : ∃ x_ : (Int) × TL1Cur, (fun x_ : (Int) × TL1Cur => okCu x_.2 ∧ (fun x : Int => x ∈ l) x_.1) x_ ∧ PCo Tryd.prog 17 [.ptr (0, 0) 0, .own (1, 0) 1 0 l.length] (Tab.of [((0, 0), .box (encTL1Cur c)), ((1, 0), .arr false 1 (dI 0) (ML dI l))]) ((fun x_ : (Int) × TL1Cur => (fun x : Int => (dI x : D)) x_.1) x_) (Tab.of ((fun x_ : (Int) × TL1Cur => (((0, 0), .box (encTL1Cur x_.2)) :: (fun x : Int => ([((1, 0), .arr false 1 (dI 0) (ML dI l))] : List (Nm × OO))) x_.1)) x_)) := by
  refine pco_ex_of_run (fun x_ : (Int) × TL1Cur => okCu x_.2 ∧ (fun x : Int => x ∈ l) x_.1) (fun x_ : (Int) × TL1Cur => (fun x : Int => (dI x : D)) x_.1) (fun x_ : (Int) × TL1Cur => (((0, 0), .box (encTL1Cur x_.2)) :: (fun x : Int => ([((1, 0), .arr false 1 (dI 0) (ML dI l))] : List (Nm × OO))) x_.1)) [] (E := ⟨[c27], [], []⟩) (m := false) (base := 0) (Env.ok_cons c27_ok Env.ok_nil) G_ok mix 300 6 Tryd.func17 (by kernel_rfl) rfl (by kernel_rfl) (by kernel_rfl) (by kernel_rfl) rfl ?_
  simp [Tryd.f17, hc, hp]
  have hb := v27_ok c l.length hc trivial (by omega)
  have hm : l[(v27 c l.length).toNat]?.getD 0 ∈ l := getD_mem (by omega)
  repeat' (with_reducible first | apply and_rev | apply Exists.intro | intro _)
  all_goals try dsimp only
  all_goals try with_reducible rfl
  all_goals try rfl
  all_goals (first | done | omega | assumption | exact List.length_pos_iff.2 (by assumption) | (simp [*]; done) | (simp [*]; omega) | (simp [*, below_eq]; done) | (simp [*, below_eq]; omega) | (simp only [below_eq, Int.reduceLT]; omega) | trace_state)
open Classical in
noncomputable def q17f (c : TL1Cur) (l : List Int) : (Int) × TL1Cur := if h : okCu c ∧ 0 < l.length ∧ l.length ≤ 1099511627776 then Classical.choose (c17f_ex c l h.1 h.2) else (default, ⟨[], 0, 0⟩)
theorem q17f_sp (c : TL1Cur) (l : List Int) (hc : okCu c) (hp : 0 < l.length ∧ l.length ≤ 1099511627776) : (fun x_ : (Int) × TL1Cur => okCu x_.2 ∧ (fun x : Int => x ∈ l) x_.1) (q17f c l) ∧ PCo Tryd.prog 17 [.ptr (0, 0) 0, .own (1, 0) 1 0 l.length] (Tab.of [((0, 0), .box (encTL1Cur c)), ((1, 0), .arr false 1 (dI 0) (ML dI l))]) ((fun x_ : (Int) × TL1Cur => (fun x : Int => (dI x : D)) x_.1) (q17f c l)) (Tab.of ((fun x_ : (Int) × TL1Cur => (((0, 0), .box (encTL1Cur x_.2)) :: (fun x : Int => ([((1, 0), .arr false 1 (dI 0) (ML dI l))] : List (Nm × OO))) x_.1)) (q17f c l))) := by
  have e : q17f c l = Classical.choose (c17f_ex c l hc hp) := by rw [q17f, dif_pos ⟨hc, hp⟩]
  rw [e]
  exact Classical.choose_spec (c17f_ex c l hc hp)
noncomputable def v17f (c : TL1Cur) (l : List Int) : Int := (q17f c l).1
noncomputable def n17f (c : TL1Cur) (l : List Int) : TL1Cur := (q17f c l).2
open Classical in
@[simp] theorem n17f_ok (c : TL1Cur) (l : List Int) : okCu (n17f c l) := by
  by_cases h : okCu c ∧ 0 < l.length ∧ l.length ≤ 1099511627776
  · exact (q17f_sp c l h.1 h.2).1.1
  · rw [n17f, q17f, dif_neg h]; exact ⟨by simp, by simp, by simp⟩
theorem v17f_ok (c : TL1Cur) (l : List Int) (hc : okCu c) (hp : 0 < l.length ∧ l.length ≤ 1099511627776) : (fun x : Int => x ∈ l) (v17f c l) := (q17f_sp c l hc hp).1.2
noncomputable def c17f : Con := mkCon 17 true (α := TL1Cur × (List Int)) (fun x => (fun (c : TL1Cur) (l : List Int) => ([.ptr (0, 0) 0, .own (1, 0) 1 0 l.length] : List D)) x.1 x.2) (fun x => (fun (c : TL1Cur) (l : List Int) => ([((0, 0), .box (encTL1Cur c)), ((1, 0), .arr false 1 (dI 0) (ML dI l))] : List (Nm × OO))) x.1 x.2) (fun x => (fun (c : TL1Cur) (l : List Int) => okCu c ∧ 0 < l.length ∧ l.length ≤ 1099511627776) x.1 x.2) (fun x => (fun (c : TL1Cur) (l : List Int) => (fun x : Int => (dI x : D)) (v17f c l)) x.1 x.2) (fun x => (fun (c : TL1Cur) (l : List Int) => (((0, 0), .box (encTL1Cur (n17f c l))) :: (fun x : Int => ([((1, 0), .arr false 1 (dI 0) (ML dI l))] : List (Nm × OO))) (v17f c l))) x.1 x.2)
@[simp] theorem c17f_f : c17f.f = 17 := rfl
@[simp] theorem c17f_own : c17f.own = true := rfl
theorem c17f_inj : ∀ u_ v_ : TL1Cur × (List Int), ((fun x => (fun (c : TL1Cur) (l : List Int) => ([.ptr (0, 0) 0, .own (1, 0) 1 0 l.length] : List D)) x.1 x.2) u_).map nz = ((fun x => (fun (c : TL1Cur) (l : List Int) => ([.ptr (0, 0) 0, .own (1, 0) 1 0 l.length] : List D)) x.1 x.2) v_).map nz → (fun x => (fun (c : TL1Cur) (l : List Int) => ([((0, 0), .box (encTL1Cur c)), ((1, 0), .arr false 1 (dI 0) (ML dI l))] : List (Nm × OO))) x.1 x.2) u_ = (fun x => (fun (c : TL1Cur) (l : List Int) => ([((0, 0), .box (encTL1Cur c)), ((1, 0), .arr false 1 (dI 0) (ML dI l))] : List (Nm × OO))) x.1 x.2) v_ → u_ = v_ := by
  intro u_ v_ h h2_
  obtain ⟨⟨c_b_, c_i_, c_h_⟩, l⟩ := u_
  obtain ⟨⟨c_b_', c_i_', c_h_'⟩, l'⟩ := v_
  simp [nz_lit, nz1_lit, nz_agg, nz_sl, nz1_sl, nz_sx, nz_el, nz1_el, nz_own, nz1_own, nz_ptr, nz_fn, nz_iface] at h h2_
  first | (simp [h, h2_]; done) | (obtain ⟨h3_, h4_⟩ := List.append_inj h2_ h.1; simp_all; done) | simp_all | grind
@[simp] theorem c17f_fn (c : TL1Cur) (l : List Int) : c17f.fn ([.ptr (0, 0) 0, .own (1, 0) 1 0 l.length]) ([((0, 0), .box (.agg [.sl false 1 (.lit (.int .u8 0)) (ML dU c.b_), .lit (.int .i64 c.i_), .lit (.int .i64 c.h_)])), ((1, 0), .arr false 1 (.lit (.int .i64 0)) (ML dI l))]) = some (okCu c ∧ 0 < l.length ∧ l.length ≤ 1099511627776, (fun x : Int => (dI x : D)) (v17f c l), (((0, 0), .box (encTL1Cur (n17f c l))) :: (fun x : Int => ([((1, 0), .arr false 1 (dI 0) (ML dI l))] : List (Nm × OO))) (v17f c l))) :=
  mkCon_fn c17f_inj ((c, l) : TL1Cur × (List Int)) rfl rfl
theorem c17f_ok : c17f.ok Tryd.prog := mkCon_ok fun ⟨c, l⟩ hpre => (q17f_sp c l hpre.1 hpre.2).2
@[simp] theorem l1Int_fb6 (c : TL1Cur) (a0 a1 a2 a3 a4 a5 : Int) : c17f.fn [.ptr (0, 0) 0, .own (1, 0) 1 0 6] [((0, 0), .box (.agg [.sl false 1 (.lit (.int .u8 0)) (ML dU c.b_), .lit (.int .i64 c.i_), .lit (.int .i64 c.h_)])), ((1, 0), .arr false 1 (.lit (.int .i64 0)) [.lit (.int .i64 a0), .lit (.int .i64 a1), .lit (.int .i64 a2), .lit (.int .i64 a3), .lit (.int .i64 a4), .lit (.int .i64 a5)])] = some (okCu c ∧ 0 < ([a0, a1, a2, a3, a4, a5] : List Int).length ∧ ([a0, a1, a2, a3, a4, a5] : List Int).length ≤ 1099511627776, dI (v17f c [a0, a1, a2, a3, a4, a5]), [((0, 0), .box (encTL1Cur (n17f c [a0, a1, a2, a3, a4, a5]))), ((1, 0), .arr false 1 (dI 0) (ML dI [a0, a1, a2, a3, a4, a5]))]) := c17f_fn c [a0, a1, a2, a3, a4, a5]
@[simp] theorem l1Int_fb8 (c : TL1Cur) (a0 a1 a2 a3 a4 a5 a6 a7 : Int) : c17f.fn [.ptr (0, 0) 0, .own (1, 0) 1 0 8] [((0, 0), .box (.agg [.sl false 1 (.lit (.int .u8 0)) (ML dU c.b_), .lit (.int .i64 c.i_), .lit (.int .i64 c.h_)])), ((1, 0), .arr false 1 (.lit (.int .i64 0)) [.lit (.int .i64 a0), .lit (.int .i64 a1), .lit (.int .i64 a2), .lit (.int .i64 a3), .lit (.int .i64 a4), .lit (.int .i64 a5), .lit (.int .i64 a6), .lit (.int .i64 a7)])] = some (okCu c ∧ 0 < ([a0, a1, a2, a3, a4, a5, a6, a7] : List Int).length ∧ ([a0, a1, a2, a3, a4, a5, a6, a7] : List Int).length ≤ 1099511627776, dI (v17f c [a0, a1, a2, a3, a4, a5, a6, a7]), [((0, 0), .box (encTL1Cur (n17f c [a0, a1, a2, a3, a4, a5, a6, a7]))), ((1, 0), .arr false 1 (dI 0) (ML dI [a0, a1, a2, a3, a4, a5, a6, a7]))]) := c17f_fn c [a0, a1, a2, a3, a4, a5, a6, a7]
/-- loop.example/g03007/spec.DrawIsOpen -/
theorem c15_ex (l : List Int) (hp : l.length ≤ 2097152) : ∃ x_ : List Bool × Int, (fun x : List Bool × Int => x.1.length ≤ 7) x_ ∧ PCo Tryd.prog 15 [encLU l] (Tab.of []) ((fun x : List Bool × Int => (.tup [.sl false 1 (dB false) (ML dB x.1), dI x.2] : D)) x_) (Tab.of ((fun x : List Bool × Int => ([] : List (Nm × OO))) x_)) := by
  refine pco_ex_of_run (fun x : List Bool × Int => x.1.length ≤ 7) (fun x : List Bool × Int => (.tup [.sl false 1 (dB false) (ML dB x.1), dI x.2] : D)) (fun x : List Bool × Int => ([] : List (Nm × OO))) [] (E := ⟨[c16, c17f, c22, c27], [], []⟩) (m := false) (base := 0) (Env.ok_cons c16_ok (Env.ok_cons c17f_ok (Env.ok_cons c22_ok (Env.ok_cons c27_ok Env.ok_nil)))) G_ok mix 300 6 Tryd.func15 (by kernel_rfl) rfl (by kernel_rfl) (by kernel_rfl) (by kernel_rfl) rfl ?_
  simp [Tryd.f15, hp]
  have hk := v16_ok l hp
  have hl := v22_ok _ hk trivial
  have hc := cut_len hl
  have hb1 := below_bd (n22 (v16 l)) 30 (by omega)
  have hb2 := below_bd (n27 (n22 (v16 l)) 30) 30 (by omega)
  simp only at hl
  simp [hk]
  repeat' (with_reducible first | apply and_rev | apply Exists.intro | intro _)
  all_goals try dsimp only
  all_goals try with_reducible rfl
  all_goals try rfl
  all_goals (first | done | omega | assumption | exact List.length_pos_iff.2 (by assumption) | (simp [*]; done) | (simp [*]; omega) | (simp [*, below_eq]; done) | (simp [*, below_eq]; omega) | (simp only [below_eq, Int.reduceLT]; omega) | trace_state)
open Classical in
noncomputable def q15 (l : List Int) : List Bool × Int := if h : l.length ≤ 2097152 then Classical.choose (c15_ex l h) else default
theorem q15_sp (l : List Int) (hp : l.length ≤ 2097152) : (fun x : List Bool × Int => x.1.length ≤ 7) (q15 l) ∧ PCo Tryd.prog 15 [encLU l] (Tab.of []) ((fun x : List Bool × Int => (.tup [.sl false 1 (dB false) (ML dB x.1), dI x.2] : D)) (q15 l)) (Tab.of ((fun x : List Bool × Int => ([] : List (Nm × OO))) (q15 l))) := by
  have e : q15 l = Classical.choose (c15_ex l hp) := by rw [q15, dif_pos hp]
  rw [e]
  exact Classical.choose_spec (c15_ex l hp)
noncomputable def v15 (l : List Int) : List Bool × Int := q15 l
theorem v15_ok (l : List Int) (hp : l.length ≤ 2097152) : (fun x : List Bool × Int => x.1.length ≤ 7) (v15 l) := (q15_sp l hp).1
noncomputable def c15 : Con := mkCon 15 false (α := (List Int)) (fun x => (fun (l : List Int) => ([encLU l] : List D)) x) (fun x => (fun (l : List Int) => ([] : List (Nm × OO))) x) (fun x => (fun (l : List Int) => l.length ≤ 2097152) x) (fun x => (fun (l : List Int) => (fun x : List Bool × Int => (.tup [.sl false 1 (dB false) (ML dB x.1), dI x.2] : D)) (v15 l)) x) (fun x => (fun (l : List Int) => (fun x : List Bool × Int => ([] : List (Nm × OO))) (v15 l)) x)
@[simp] theorem c15_f : c15.f = 15 := rfl
@[simp] theorem c15_own : c15.own = false := rfl
theorem c15_inj : ∀ u_ v_ : (List Int), ((fun x => (fun (l : List Int) => ([encLU l] : List D)) x) u_).map nz = ((fun x => (fun (l : List Int) => ([encLU l] : List D)) x) v_).map nz → (fun x => (fun (l : List Int) => ([] : List (Nm × OO))) x) u_ = (fun x => (fun (l : List Int) => ([] : List (Nm × OO))) x) v_ → u_ = v_ := by
  intro u_ v_ h h2_
  obtain l := u_
  obtain l' := v_
  simp [nz_lit, nz1_lit, nz_agg, nz_sl, nz1_sl, nz_sx, nz_el, nz1_el, nz_own, nz1_own, nz_ptr, nz_fn, nz_iface] at h h2_
  first | (simp [h, h2_]; done) | (obtain ⟨h3_, h4_⟩ := List.append_inj h2_ h.1; simp_all; done) | simp_all | grind
@[simp] theorem c15_fn (l : List Int) : c15.fn ([(.sl false 1 (.lit (.int .u8 0)) (ML dU l))]) ([]) = some (l.length ≤ 2097152, (fun x : List Bool × Int => (.tup [.sl false 1 (dB false) (ML dB x.1), dI x.2] : D)) (v15 l), (fun x : List Bool × Int => ([] : List (Nm × OO))) (v15 l)) :=
  mkCon_fn c15_inj (l : (List Int)) rfl rfl
theorem c15_ok : c15.ok Tryd.prog := mkCon_ok fun l hpre => (q15_sp l hpre).2
/-- loop.example/g03007/spec.DrawNextOpen -/
theorem c9_ex (l : List Int) (hp : l.length ≤ 2097152) : ∃ x_ : List Bool × Int, (fun x : List Bool × Int => x.1.length ≤ 7) x_ ∧ PCo Tryd.prog 9 [encLU l] (Tab.of []) ((fun x : List Bool × Int => (.tup [.sl false 1 (dB false) (ML dB x.1), dI x.2] : D)) x_) (Tab.of ((fun x : List Bool × Int => ([] : List (Nm × OO))) x_)) := by
  refine pco_ex_of_run (fun x : List Bool × Int => x.1.length ≤ 7) (fun x : List Bool × Int => (.tup [.sl false 1 (dB false) (ML dB x.1), dI x.2] : D)) (fun x : List Bool × Int => ([] : List (Nm × OO))) [] (E := ⟨[c15], [], []⟩) (m := false) (base := 0) (Env.ok_cons c15_ok Env.ok_nil) G_ok mix 300 6 Tryd.func9 (by kernel_rfl) rfl (by kernel_rfl) (by kernel_rfl) (by kernel_rfl) rfl ?_
  simp [Tryd.f9, hp]
  have hl := v15_ok l hp
  repeat' (with_reducible first | apply and_rev | apply Exists.intro | intro _)
  all_goals try dsimp only
  all_goals try with_reducible rfl
  all_goals try rfl
  all_goals (first | done | omega | assumption | exact List.length_pos_iff.2 (by assumption) | (simp [*]; done) | (simp [*]; omega) | (simp [*, below_eq]; done) | (simp [*, below_eq]; omega) | (simp only [below_eq, Int.reduceLT]; omega) | trace_state)
open Classical in
noncomputable def q9 (l : List Int) : List Bool × Int := if h : l.length ≤ 2097152 then Classical.choose (c9_ex l h) else default
theorem q9_sp (l : List Int) (hp : l.length ≤ 2097152) : (fun x : List Bool × Int => x.1.length ≤ 7) (q9 l) ∧ PCo Tryd.prog 9 [encLU l] (Tab.of []) ((fun x : List Bool × Int => (.tup [.sl false 1 (dB false) (ML dB x.1), dI x.2] : D)) (q9 l)) (Tab.of ((fun x : List Bool × Int => ([] : List (Nm × OO))) (q9 l))) := by
  have e : q9 l = Classical.choose (c9_ex l hp) := by rw [q9, dif_pos hp]
  rw [e]
  exact Classical.choose_spec (c9_ex l hp)
noncomputable def v9 (l : List Int) : List Bool × Int := q9 l
theorem v9_ok (l : List Int) (hp : l.length ≤ 2097152) : (fun x : List Bool × Int => x.1.length ≤ 7) (v9 l) := (q9_sp l hp).1
noncomputable def c9 : Con := mkCon 9 false (α := (List Int)) (fun x => (fun (l : List Int) => ([encLU l] : List D)) x) (fun x => (fun (l : List Int) => ([] : List (Nm × OO))) x) (fun x => (fun (l : List Int) => l.length ≤ 2097152) x) (fun x => (fun (l : List Int) => (fun x : List Bool × Int => (.tup [.sl false 1 (dB false) (ML dB x.1), dI x.2] : D)) (v9 l)) x) (fun x => (fun (l : List Int) => (fun x : List Bool × Int => ([] : List (Nm × OO))) (v9 l)) x)
@[simp] theorem c9_f : c9.f = 9 := rfl
@[simp] theorem c9_own : c9.own = false := rfl
theorem c9_inj : ∀ u_ v_ : (List Int), ((fun x => (fun (l : List Int) => ([encLU l] : List D)) x) u_).map nz = ((fun x => (fun (l : List Int) => ([encLU l] : List D)) x) v_).map nz → (fun x => (fun (l : List Int) => ([] : List (Nm × OO))) x) u_ = (fun x => (fun (l : List Int) => ([] : List (Nm × OO))) x) v_ → u_ = v_ := by
  intro u_ v_ h h2_
  obtain l := u_
  obtain l' := v_
  simp [nz_lit, nz1_lit, nz_agg, nz_sl, nz1_sl, nz_sx, nz_el, nz1_el, nz_own, nz1_own, nz_ptr, nz_fn, nz_iface] at h h2_
  first | (simp [h, h2_]; done) | (obtain ⟨h3_, h4_⟩ := List.append_inj h2_ h.1; simp_all; done) | simp_all | grind
@[simp] theorem c9_fn (l : List Int) : c9.fn ([(.sl false 1 (.lit (.int .u8 0)) (ML dU l))]) ([]) = some (l.length ≤ 2097152, (fun x : List Bool × Int => (.tup [.sl false 1 (dB false) (ML dB x.1), dI x.2] : D)) (v9 l), (fun x : List Bool × Int => ([] : List (Nm × OO))) (v9 l)) :=
  mkCon_fn c9_inj (l : (List Int)) rfl rfl
theorem c9_ok : c9.ok Tryd.prog := mkCon_ok fun l hpre => (q9_sp l hpre).2
/-- loop.example/g03007/spec.DrawAddOpenDays -/
theorem c5_ex (l : List Int) (hp : l.length ≤ 2097152) : ∃ x_ : List Bool × Int × Int, (fun x : List Bool × Int × Int => x.1.length ≤ 7) x_ ∧ PCo Tryd.prog 5 [encLU l] (Tab.of []) ((fun x : List Bool × Int × Int => (.tup [.sl false 1 (dB false) (ML dB x.1), dI x.2.1, dI x.2.2] : D)) x_) (Tab.of ((fun x : List Bool × Int × Int => ([] : List (Nm × OO))) x_)) := by
  refine pco_ex_of_run (fun x : List Bool × Int × Int => x.1.length ≤ 7) (fun x : List Bool × Int × Int => (.tup [.sl false 1 (dB false) (ML dB x.1), dI x.2.1, dI x.2.2] : D)) (fun x : List Bool × Int × Int => ([] : List (Nm × OO))) [] (E := ⟨[c15, c16, c17f], [], []⟩) (m := false) (base := 0) (Env.ok_cons c15_ok (Env.ok_cons c16_ok (Env.ok_cons c17f_ok Env.ok_nil))) G_ok mix 300 6 Tryd.func5 (by kernel_rfl) rfl (by kernel_rfl) (by kernel_rfl) (by kernel_rfl) rfl ?_
  simp [Tryd.f5, hp]
  have hk := v16_ok l hp
  have hl := v15_ok l hp
  try simp [hk]
  repeat' (with_reducible first | apply and_rev | apply Exists.intro | intro _)
  all_goals try dsimp only
  all_goals try with_reducible rfl
  all_goals try rfl
  all_goals (first | done | omega | assumption | exact List.length_pos_iff.2 (by assumption) | (simp [*]; done) | (simp [*]; omega) | (simp [*, below_eq]; done) | (simp [*, below_eq]; omega) | (simp only [below_eq, Int.reduceLT]; omega) | trace_state)
open Classical in
noncomputable def q5 (l : List Int) : List Bool × Int × Int := if h : l.length ≤ 2097152 then Classical.choose (c5_ex l h) else default
theorem q5_sp (l : List Int) (hp : l.length ≤ 2097152) : (fun x : List Bool × Int × Int => x.1.length ≤ 7) (q5 l) ∧ PCo Tryd.prog 5 [encLU l] (Tab.of []) ((fun x : List Bool × Int × Int => (.tup [.sl false 1 (dB false) (ML dB x.1), dI x.2.1, dI x.2.2] : D)) (q5 l)) (Tab.of ((fun x : List Bool × Int × Int => ([] : List (Nm × OO))) (q5 l))) := by
  have e : q5 l = Classical.choose (c5_ex l hp) := by rw [q5, dif_pos hp]
  rw [e]
  exact Classical.choose_spec (c5_ex l hp)
noncomputable def v5 (l : List Int) : List Bool × Int × Int := q5 l
theorem v5_ok (l : List Int) (hp : l.length ≤ 2097152) : (fun x : List Bool × Int × Int => x.1.length ≤ 7) (v5 l) := (q5_sp l hp).1
noncomputable def c5 : Con := mkCon 5 false (α := (List Int)) (fun x => (fun (l : List Int) => ([encLU l] : List D)) x) (fun x => (fun (l : List Int) => ([] : List (Nm × OO))) x) (fun x => (fun (l : List Int) => l.length ≤ 2097152) x) (fun x => (fun (l : List Int) => (fun x : List Bool × Int × Int => (.tup [.sl false 1 (dB false) (ML dB x.1), dI x.2.1, dI x.2.2] : D)) (v5 l)) x) (fun x => (fun (l : List Int) => (fun x : List Bool × Int × Int => ([] : List (Nm × OO))) (v5 l)) x)
@[simp] theorem c5_f : c5.f = 5 := rfl
@[simp] theorem c5_own : c5.own = false := rfl
theorem c5_inj : ∀ u_ v_ : (List Int), ((fun x => (fun (l : List Int) => ([encLU l] : List D)) x) u_).map nz = ((fun x => (fun (l : List Int) => ([encLU l] : List D)) x) v_).map nz → (fun x => (fun (l : List Int) => ([] : List (Nm × OO))) x) u_ = (fun x => (fun (l : List Int) => ([] : List (Nm × OO))) x) v_ → u_ = v_ := by
  intro u_ v_ h h2_
  obtain l := u_
  obtain l' := v_
  simp [nz_lit, nz1_lit, nz_agg, nz_sl, nz1_sl, nz_sx, nz_el, nz1_el, nz_own, nz1_own, nz_ptr, nz_fn, nz_iface] at h h2_
  first | (simp [h, h2_]; done) | (obtain ⟨h3_, h4_⟩ := List.append_inj h2_ h.1; simp_all; done) | simp_all | grind
@[simp] theorem c5_fn (l : List Int) : c5.fn ([(.sl false 1 (.lit (.int .u8 0)) (ML dU l))]) ([]) = some (l.length ≤ 2097152, (fun x : List Bool × Int × Int => (.tup [.sl false 1 (dB false) (ML dB x.1), dI x.2.1, dI x.2.2] : D)) (v5 l), (fun x : List Bool × Int × Int => ([] : List (Nm × OO))) (v5 l)) :=
  mkCon_fn c5_inj (l : (List Int)) rfl rfl
theorem c5_ok : c5.ok Tryd.prog := mkCon_ok fun l hpre => (q5_sp l hpre).2
/-- loop.example/g03007/spec.DrawLastDay -/
theorem c12_ex (l : List Int) (hp : l.length ≤ 2097152) : ∃ x_ : List Bool × TFind, (fun x : List Bool × TFind => x.1.length ≤ 7) x_ ∧ PCo Tryd.prog 12 [encLU l] (Tab.of []) ((fun x : List Bool × TFind => (.tup [.sl false 1 (dB false) (ML dB x.1), encTFind x.2] : D)) x_) (Tab.of ((fun x : List Bool × TFind => ([] : List (Nm × OO))) x_)) := by
  refine pco_ex_of_run (fun x : List Bool × TFind => x.1.length ≤ 7) (fun x : List Bool × TFind => (.tup [.sl false 1 (dB false) (ML dB x.1), encTFind x.2] : D)) (fun x : List Bool × TFind => ([] : List (Nm × OO))) [] (E := ⟨[c16, c22, c23], [], []⟩) (m := false) (base := 0) (Env.ok_cons c16_ok (Env.ok_cons c22_ok (Env.ok_cons c23_ok Env.ok_nil))) G_ok mix 300 6 Tryd.func12 (by kernel_rfl) rfl (by kernel_rfl) (by kernel_rfl) (by kernel_rfl) rfl ?_
  simp [Tryd.f12, hp]
  have hk := v16_ok l hp
  have hl := v22_ok _ hk trivial
  have hc := cut_len hl
  simp only at hl
  simp [hk]
  repeat' (with_reducible first | apply and_rev | apply Exists.intro (⟨⟨?_, ?_, ?_, ?_, ?_⟩, ?_, ?_, ?_⟩ : TFind) | apply Exists.intro | intro _)
  all_goals try dsimp only
  all_goals try with_reducible rfl
  all_goals try rfl
  all_goals (first | done | omega | assumption | exact List.length_pos_iff.2 (by assumption) | (simp [*]; done) | (simp [*]; omega) | (simp [*, below_eq]; done) | (simp [*, below_eq]; omega) | (simp only [below_eq, Int.reduceLT]; omega) | trace_state)
open Classical in
noncomputable def q12 (l : List Int) : List Bool × TFind := if h : l.length ≤ 2097152 then Classical.choose (c12_ex l h) else default
theorem q12_sp (l : List Int) (hp : l.length ≤ 2097152) : (fun x : List Bool × TFind => x.1.length ≤ 7) (q12 l) ∧ PCo Tryd.prog 12 [encLU l] (Tab.of []) ((fun x : List Bool × TFind => (.tup [.sl false 1 (dB false) (ML dB x.1), encTFind x.2] : D)) (q12 l)) (Tab.of ((fun x : List Bool × TFind => ([] : List (Nm × OO))) (q12 l))) := by
  have e : q12 l = Classical.choose (c12_ex l hp) := by rw [q12, dif_pos hp]
  rw [e]
  exact Classical.choose_spec (c12_ex l hp)
noncomputable def v12 (l : List Int) : List Bool × TFind := q12 l
theorem v12_ok (l : List Int) (hp : l.length ≤ 2097152) : (fun x : List Bool × TFind => x.1.length ≤ 7) (v12 l) := (q12_sp l hp).1
noncomputable def c12 : Con := mkCon 12 false (α := (List Int)) (fun x => (fun (l : List Int) => ([encLU l] : List D)) x) (fun x => (fun (l : List Int) => ([] : List (Nm × OO))) x) (fun x => (fun (l : List Int) => l.length ≤ 2097152) x) (fun x => (fun (l : List Int) => (fun x : List Bool × TFind => (.tup [.sl false 1 (dB false) (ML dB x.1), encTFind x.2] : D)) (v12 l)) x) (fun x => (fun (l : List Int) => (fun x : List Bool × TFind => ([] : List (Nm × OO))) (v12 l)) x)
@[simp] theorem c12_f : c12.f = 12 := rfl
@[simp] theorem c12_own : c12.own = false := rfl
theorem c12_inj : ∀ u_ v_ : (List Int), ((fun x => (fun (l : List Int) => ([encLU l] : List D)) x) u_).map nz = ((fun x => (fun (l : List Int) => ([encLU l] : List D)) x) v_).map nz → (fun x => (fun (l : List Int) => ([] : List (Nm × OO))) x) u_ = (fun x => (fun (l : List Int) => ([] : List (Nm × OO))) x) v_ → u_ = v_ := by
  intro u_ v_ h h2_
  obtain l := u_
  obtain l' := v_
  simp [nz_lit, nz1_lit, nz_agg, nz_sl, nz1_sl, nz_sx, nz_el, nz1_el, nz_own, nz1_own, nz_ptr, nz_fn, nz_iface] at h h2_
  first | (simp [h, h2_]; done) | (obtain ⟨h3_, h4_⟩ := List.append_inj h2_ h.1; simp_all; done) | simp_all | grind
@[simp] theorem c12_fn (l : List Int) : c12.fn ([(.sl false 1 (.lit (.int .u8 0)) (ML dU l))]) ([]) = some (l.length ≤ 2097152, (fun x : List Bool × TFind => (.tup [.sl false 1 (dB false) (ML dB x.1), encTFind x.2] : D)) (v12 l), (fun x : List Bool × TFind => ([] : List (Nm × OO))) (v12 l)) :=
  mkCon_fn c12_inj (l : (List Int)) rfl rfl
theorem c12_ok : c12.ok Tryd.prog := mkCon_ok fun l hpre => (q12_sp l hpre).2

end Go.Proofs.YtdbhfkbfajljpaaDoor
