/- Contracts of the functions that the laws run. -/
import Derived.Test.YtdbhfkbfajljpaaDoorEngB
import Derived.Test.YtdbhfkbfajljpaaDoorEngB
import Derived.Test.YtdbhfkbfajljpaaDoordr00
import Derived.Test.YtdbhfkbfajljpaaDoorEngB
namespace Go.Proofs.YtdbhfkbfajljpaaDoor
open Go Go.Eng
set_option linter.unusedSimpArgs false
set_option linter.unusedVariables false
set_option maxRecDepth 10000
set_option maxHeartbeats 1000000
/-- loop.example/g03007/spec.l1Below -/
theorem c27_ex (c : TL1Cur) (n : Int) (hc : okCu c) (hp : True) : ∃ x_ : (Int) × TL1Cur, (fun x_ : (Int) × TL1Cur => okCu x_.2 ∧ (fun x : Int => 0 < n → 0 ≤ x ∧ x < n) x_.1) x_ ∧ PCo Tryd.prog 27 [.ptr (0, 0) 0, dI n] (Tab.of [((0, 0), .box (encTL1Cur c))]) ((fun x_ : (Int) × TL1Cur => (fun x : Int => (dI x : D)) x_.1) x_) (Tab.of ((fun x_ : (Int) × TL1Cur => (((0, 0), .box (encTL1Cur x_.2)) :: (fun x : Int => ([] : List (Nm × OO))) x_.1)) x_)) := by
  exact ⟨(cuV c n, cuN c n), ⟨okCu_cuN hc n, cuV_bd c n⟩, c27_z_pc c n hc⟩
open Classical in
noncomputable def q27 (c : TL1Cur) (n : Int) : (Int) × TL1Cur := if h : okCu c ∧ True then Classical.choose (c27_ex c n h.1 h.2) else (default, ⟨[], 0, 0⟩)
theorem q27_sp (c : TL1Cur) (n : Int) (hc : okCu c) (hp : True) : (fun x_ : (Int) × TL1Cur => okCu x_.2 ∧ (fun x : Int => 0 < n → 0 ≤ x ∧ x < n) x_.1) (q27 c n) ∧ PCo Tryd.prog 27 [.ptr (0, 0) 0, dI n] (Tab.of [((0, 0), .box (encTL1Cur c))]) ((fun x_ : (Int) × TL1Cur => (fun x : Int => (dI x : D)) x_.1) (q27 c n)) (Tab.of ((fun x_ : (Int) × TL1Cur => (((0, 0), .box (encTL1Cur x_.2)) :: (fun x : Int => ([] : List (Nm × OO))) x_.1)) (q27 c n))) := by
  have e : q27 c n = Classical.choose (c27_ex c n hc hp) := by rw [q27, dif_pos ⟨hc, hp⟩]
  rw [e]
  exact Classical.choose_spec (c27_ex c n hc hp)
noncomputable def v27 (c : TL1Cur) (n : Int) : Int := (q27 c n).1
noncomputable def n27 (c : TL1Cur) (n : Int) : TL1Cur := (q27 c n).2
open Classical in
@[simp] theorem n27_ok (c : TL1Cur) (n : Int) : okCu (n27 c n) := by
  by_cases h : okCu c ∧ True
  · exact (q27_sp c n h.1 h.2).1.1
  · rw [n27, q27, dif_neg h]; exact ⟨by simp, by simp, by simp⟩
theorem v27_ok (c : TL1Cur) (n : Int) (hc : okCu c) (hp : True) : (fun x : Int => 0 < n → 0 ≤ x ∧ x < n) (v27 c n) := (q27_sp c n hc hp).1.2
noncomputable def c27 : Con := mkCon 27 true (α := TL1Cur × Int) (fun x => (fun (c : TL1Cur) (n : Int) => ([.ptr (0, 0) 0, dI n] : List D)) x.1 x.2) (fun x => (fun (c : TL1Cur) (n : Int) => ([((0, 0), .box (encTL1Cur c))] : List (Nm × OO))) x.1 x.2) (fun x => (fun (c : TL1Cur) (n : Int) => okCu c ∧ True) x.1 x.2) (fun x => (fun (c : TL1Cur) (n : Int) => (fun x : Int => (dI x : D)) (v27 c n)) x.1 x.2) (fun x => (fun (c : TL1Cur) (n : Int) => (((0, 0), .box (encTL1Cur (n27 c n))) :: (fun x : Int => ([] : List (Nm × OO))) (v27 c n))) x.1 x.2)
@[simp] theorem c27_f : c27.f = 27 := rfl
@[simp] theorem c27_own : c27.own = true := rfl
theorem c27_inj : ∀ u_ v_ : TL1Cur × Int, ((fun x => (fun (c : TL1Cur) (n : Int) => ([.ptr (0, 0) 0, dI n] : List D)) x.1 x.2) u_).map nz = ((fun x => (fun (c : TL1Cur) (n : Int) => ([.ptr (0, 0) 0, dI n] : List D)) x.1 x.2) v_).map nz → (fun x => (fun (c : TL1Cur) (n : Int) => ([((0, 0), .box (encTL1Cur c))] : List (Nm × OO))) x.1 x.2) u_ = (fun x => (fun (c : TL1Cur) (n : Int) => ([((0, 0), .box (encTL1Cur c))] : List (Nm × OO))) x.1 x.2) v_ → u_ = v_ := by
  intro u_ v_ h h2_
  obtain ⟨⟨c_b_, c_i_, c_h_⟩, n⟩ := u_
  obtain ⟨⟨c_b_', c_i_', c_h_'⟩, n'⟩ := v_
  simp [nz_lit, nz1_lit, nz_agg, nz_sl, nz1_sl, nz_sx, nz_el, nz1_el, nz_own, nz1_own, nz_ptr, nz_fn, nz_iface] at h h2_
  first | (simp [h, h2_]; done) | (obtain ⟨h3_, h4_⟩ := List.append_inj h2_ h.1; simp_all; done) | simp_all | grind
@[simp] theorem c27_fn (c : TL1Cur) (n : Int) : c27.fn ([.ptr (0, 0) 0, .lit (.int .i64 n)]) ([((0, 0), .box (.agg [.sl false 1 (.lit (.int .u8 0)) (ML dU c.b_), .lit (.int .i64 c.i_), .lit (.int .i64 c.h_)]))]) = some (okCu c ∧ True, (fun x : Int => (dI x : D)) (v27 c n), (((0, 0), .box (encTL1Cur (n27 c n))) :: (fun x : Int => ([] : List (Nm × OO))) (v27 c n))) :=
  mkCon_fn c27_inj ((c, n) : TL1Cur × Int) rfl rfl
theorem c27_ok : c27.ok Tryd.prog := mkCon_ok fun ⟨c, n⟩ hpre => (q27_sp c n hpre.1 hpre.2).2
theorem below_bd (c : TL1Cur) (n : Int) (h : 0 < n) : 0 ≤ v27 c n ∧ v27 c n < n := by
  by_cases hc : okCu c
  · exact v27_ok c n hc trivial h
  · have e : v27 c n = 0 := by
      rw [v27, q27, dif_neg (fun h => hc h.1)]; rfl
    rw [e]; omega
noncomputable def wBelow (c : TL1Cur) (n : Int) : Int := v27 c n
theorem below_eq (c : TL1Cur) (n : Int) (h : 0 < n) : v27 c n = wBelow c n % n := by
  have := below_bd c n h
  rw [wBelow, Int.emod_eq_of_lt this.1 this.2]
/-- loop.example/g03007/spec.l1Once -/
theorem c29_ex (c : TL1Cur) (n : Int) (hc : okCu c) (hp : True) : ∃ x_ : (Bool) × TL1Cur, (fun x_ : (Bool) × TL1Cur => okCu x_.2 ∧ (fun x : Bool => True) x_.1) x_ ∧ PCo Tryd.prog 29 [.ptr (0, 0) 0, dI n] (Tab.of [((0, 0), .box (encTL1Cur c))]) ((fun x_ : (Bool) × TL1Cur => (fun x : Bool => (dB x : D)) x_.1) x_) (Tab.of ((fun x_ : (Bool) × TL1Cur => (((0, 0), .box (encTL1Cur x_.2)) :: (fun x : Bool => ([] : List (Nm × OO))) x_.1)) x_)) := by
  refine pco_ex_of_run (fun x_ : (Bool) × TL1Cur => okCu x_.2 ∧ (fun x : Bool => True) x_.1) (fun x_ : (Bool) × TL1Cur => (fun x : Bool => (dB x : D)) x_.1) (fun x_ : (Bool) × TL1Cur => (((0, 0), .box (encTL1Cur x_.2)) :: (fun x : Bool => ([] : List (Nm × OO))) x_.1)) [] (E := ⟨[c27], [], []⟩) (m := false) (base := 1000000) (Env.ok_cons c27_ok Env.ok_nil) G_ok mix 300 6 Tryd.func29 (by kernel_rfl) rfl (by kernel_rfl) (by kernel_rfl) (by kernel_rfl) rfl ?_
  simp [Tryd.f29, hc]
  by_cases h : v27 c n = 0
  · refine .inr ?_
    repeat' (with_reducible first | apply and_rev | apply Exists.intro | intro _)
    all_goals try dsimp only
    all_goals try with_reducible rfl
    all_goals try rfl
    all_goals (first | done | omega | assumption | exact List.length_pos_iff.2 (by assumption) | (simp [*]; done) | (simp [*]; omega) | (simp [*]; grind) | trace_state)
  · refine .inl ?_
    repeat' (with_reducible first | apply and_rev | apply Exists.intro | intro _)
    all_goals try dsimp only
    all_goals try with_reducible rfl
    all_goals try rfl
    all_goals (first | done | omega | assumption | exact List.length_pos_iff.2 (by assumption) | (simp [*]; done) | (simp [*]; omega) | (simp [*]; grind) | trace_state)
open Classical in
noncomputable def q29 (c : TL1Cur) (n : Int) : (Bool) × TL1Cur := if h : okCu c ∧ True then Classical.choose (c29_ex c n h.1 h.2) else (default, ⟨[], 0, 0⟩)
theorem q29_sp (c : TL1Cur) (n : Int) (hc : okCu c) (hp : True) : (fun x_ : (Bool) × TL1Cur => okCu x_.2 ∧ (fun x : Bool => True) x_.1) (q29 c n) ∧ PCo Tryd.prog 29 [.ptr (0, 0) 0, dI n] (Tab.of [((0, 0), .box (encTL1Cur c))]) ((fun x_ : (Bool) × TL1Cur => (fun x : Bool => (dB x : D)) x_.1) (q29 c n)) (Tab.of ((fun x_ : (Bool) × TL1Cur => (((0, 0), .box (encTL1Cur x_.2)) :: (fun x : Bool => ([] : List (Nm × OO))) x_.1)) (q29 c n))) := by
  have e : q29 c n = Classical.choose (c29_ex c n hc hp) := by rw [q29, dif_pos ⟨hc, hp⟩]
  rw [e]
  exact Classical.choose_spec (c29_ex c n hc hp)
noncomputable def v29 (c : TL1Cur) (n : Int) : Bool := (q29 c n).1
noncomputable def n29 (c : TL1Cur) (n : Int) : TL1Cur := (q29 c n).2
open Classical in
@[simp] theorem n29_ok (c : TL1Cur) (n : Int) : okCu (n29 c n) := by
  by_cases h : okCu c ∧ True
  · exact (q29_sp c n h.1 h.2).1.1
  · rw [n29, q29, dif_neg h]; exact ⟨by simp, by simp, by simp⟩
theorem v29_ok (c : TL1Cur) (n : Int) (hc : okCu c) (hp : True) : (fun x : Bool => True) (v29 c n) := (q29_sp c n hc hp).1.2
noncomputable def c29 : Con := mkCon 29 true (α := TL1Cur × Int) (fun x => (fun (c : TL1Cur) (n : Int) => ([.ptr (0, 0) 0, dI n] : List D)) x.1 x.2) (fun x => (fun (c : TL1Cur) (n : Int) => ([((0, 0), .box (encTL1Cur c))] : List (Nm × OO))) x.1 x.2) (fun x => (fun (c : TL1Cur) (n : Int) => okCu c ∧ True) x.1 x.2) (fun x => (fun (c : TL1Cur) (n : Int) => (fun x : Bool => (dB x : D)) (v29 c n)) x.1 x.2) (fun x => (fun (c : TL1Cur) (n : Int) => (((0, 0), .box (encTL1Cur (n29 c n))) :: (fun x : Bool => ([] : List (Nm × OO))) (v29 c n))) x.1 x.2)
@[simp] theorem c29_f : c29.f = 29 := rfl
@[simp] theorem c29_own : c29.own = true := rfl
theorem c29_inj : ∀ u_ v_ : TL1Cur × Int, ((fun x => (fun (c : TL1Cur) (n : Int) => ([.ptr (0, 0) 0, dI n] : List D)) x.1 x.2) u_).map nz = ((fun x => (fun (c : TL1Cur) (n : Int) => ([.ptr (0, 0) 0, dI n] : List D)) x.1 x.2) v_).map nz → (fun x => (fun (c : TL1Cur) (n : Int) => ([((0, 0), .box (encTL1Cur c))] : List (Nm × OO))) x.1 x.2) u_ = (fun x => (fun (c : TL1Cur) (n : Int) => ([((0, 0), .box (encTL1Cur c))] : List (Nm × OO))) x.1 x.2) v_ → u_ = v_ := by
  intro u_ v_ h h2_
  obtain ⟨⟨c_b_, c_i_, c_h_⟩, n⟩ := u_
  obtain ⟨⟨c_b_', c_i_', c_h_'⟩, n'⟩ := v_
  simp [nz_lit, nz1_lit, nz_agg, nz_sl, nz1_sl, nz_sx, nz_el, nz1_el, nz_own, nz1_own, nz_ptr, nz_fn, nz_iface] at h h2_
  first | (simp [h, h2_]; done) | (obtain ⟨h3_, h4_⟩ := List.append_inj h2_ h.1; simp_all; done) | simp_all | grind
@[simp] theorem c29_fn (c : TL1Cur) (n : Int) : c29.fn ([.ptr (0, 0) 0, .lit (.int .i64 n)]) ([((0, 0), .box (.agg [.sl false 1 (.lit (.int .u8 0)) (ML dU c.b_), .lit (.int .i64 c.i_), .lit (.int .i64 c.h_)]))]) = some (okCu c ∧ True, (fun x : Bool => (dB x : D)) (v29 c n), (((0, 0), .box (encTL1Cur (n29 c n))) :: (fun x : Bool => ([] : List (Nm × OO))) (v29 c n))) :=
  mkCon_fn c29_inj ((c, n) : TL1Cur × Int) rfl rfl
theorem c29_ok : c29.ok Tryd.prog := mkCon_ok fun ⟨c, n⟩ hpre => (q29_sp c n hpre.1 hpre.2).2
/-- loop.example/g03007/spec.l1Int -/
theorem c17_ex (c : TL1Cur) (l : List Int) (hc : okCu c) (hp : 0 < l.length ∧ l.length ≤ 1099511627776) : ∃ x_ : (Int) × TL1Cur, (fun x_ : (Int) × TL1Cur => okCu x_.2 ∧ (fun x : Int => x ∈ l) x_.1) x_ ∧ PCo Tryd.prog 17 [.ptr (0, 0) 0, encLI l] (Tab.of [((0, 0), .box (encTL1Cur c))]) ((fun x_ : (Int) × TL1Cur => (fun x : Int => (dI x : D)) x_.1) x_) (Tab.of ((fun x_ : (Int) × TL1Cur => (((0, 0), .box (encTL1Cur x_.2)) :: (fun x : Int => ([] : List (Nm × OO))) x_.1)) x_)) := by
  refine pco_ex_of_run (fun x_ : (Int) × TL1Cur => okCu x_.2 ∧ (fun x : Int => x ∈ l) x_.1) (fun x_ : (Int) × TL1Cur => (fun x : Int => (dI x : D)) x_.1) (fun x_ : (Int) × TL1Cur => (((0, 0), .box (encTL1Cur x_.2)) :: (fun x : Int => ([] : List (Nm × OO))) x_.1)) [] (E := ⟨[c27], [], []⟩) (m := false) (base := 1000000) (Env.ok_cons c27_ok Env.ok_nil) G_ok mix 300 6 Tryd.func17 (by kernel_rfl) rfl (by kernel_rfl) (by kernel_rfl) (by kernel_rfl) rfl ?_
  simp [Tryd.f17, hc, hp]
  have hb := v27_ok c l.length hc trivial (by omega)
  have hm : l[(v27 c l.length).toNat]?.getD 0 ∈ l := getD_mem (by omega)
  repeat' (with_reducible first | apply and_rev | apply Exists.intro | intro _)
  all_goals try dsimp only
  all_goals try with_reducible rfl
  all_goals try rfl
  all_goals (first | done | omega | assumption | exact List.length_pos_iff.2 (by assumption) | (simp [*]; done) | (simp [*]; omega) | (simp [*]; grind) | trace_state)
open Classical in
noncomputable def q17 (c : TL1Cur) (l : List Int) : (Int) × TL1Cur := if h : okCu c ∧ 0 < l.length ∧ l.length ≤ 1099511627776 then Classical.choose (c17_ex c l h.1 h.2) else (default, ⟨[], 0, 0⟩)
theorem q17_sp (c : TL1Cur) (l : List Int) (hc : okCu c) (hp : 0 < l.length ∧ l.length ≤ 1099511627776) : (fun x_ : (Int) × TL1Cur => okCu x_.2 ∧ (fun x : Int => x ∈ l) x_.1) (q17 c l) ∧ PCo Tryd.prog 17 [.ptr (0, 0) 0, encLI l] (Tab.of [((0, 0), .box (encTL1Cur c))]) ((fun x_ : (Int) × TL1Cur => (fun x : Int => (dI x : D)) x_.1) (q17 c l)) (Tab.of ((fun x_ : (Int) × TL1Cur => (((0, 0), .box (encTL1Cur x_.2)) :: (fun x : Int => ([] : List (Nm × OO))) x_.1)) (q17 c l))) := by
  have e : q17 c l = Classical.choose (c17_ex c l hc hp) := by rw [q17, dif_pos ⟨hc, hp⟩]
  rw [e]
  exact Classical.choose_spec (c17_ex c l hc hp)
noncomputable def v17 (c : TL1Cur) (l : List Int) : Int := (q17 c l).1
noncomputable def n17 (c : TL1Cur) (l : List Int) : TL1Cur := (q17 c l).2
open Classical in
@[simp] theorem n17_ok (c : TL1Cur) (l : List Int) : okCu (n17 c l) := by
  by_cases h : okCu c ∧ 0 < l.length ∧ l.length ≤ 1099511627776
  · exact (q17_sp c l h.1 h.2).1.1
  · rw [n17, q17, dif_neg h]; exact ⟨by simp, by simp, by simp⟩
theorem v17_ok (c : TL1Cur) (l : List Int) (hc : okCu c) (hp : 0 < l.length ∧ l.length ≤ 1099511627776) : (fun x : Int => x ∈ l) (v17 c l) := (q17_sp c l hc hp).1.2
noncomputable def c17 : Con := mkCon 17 true (α := TL1Cur × (List Int)) (fun x => (fun (c : TL1Cur) (l : List Int) => ([.ptr (0, 0) 0, encLI l] : List D)) x.1 x.2) (fun x => (fun (c : TL1Cur) (l : List Int) => ([((0, 0), .box (encTL1Cur c))] : List (Nm × OO))) x.1 x.2) (fun x => (fun (c : TL1Cur) (l : List Int) => okCu c ∧ 0 < l.length ∧ l.length ≤ 1099511627776) x.1 x.2) (fun x => (fun (c : TL1Cur) (l : List Int) => (fun x : Int => (dI x : D)) (v17 c l)) x.1 x.2) (fun x => (fun (c : TL1Cur) (l : List Int) => (((0, 0), .box (encTL1Cur (n17 c l))) :: (fun x : Int => ([] : List (Nm × OO))) (v17 c l))) x.1 x.2)
@[simp] theorem c17_f : c17.f = 17 := rfl
@[simp] theorem c17_own : c17.own = true := rfl
theorem c17_inj : ∀ u_ v_ : TL1Cur × (List Int), ((fun x => (fun (c : TL1Cur) (l : List Int) => ([.ptr (0, 0) 0, encLI l] : List D)) x.1 x.2) u_).map nz = ((fun x => (fun (c : TL1Cur) (l : List Int) => ([.ptr (0, 0) 0, encLI l] : List D)) x.1 x.2) v_).map nz → (fun x => (fun (c : TL1Cur) (l : List Int) => ([((0, 0), .box (encTL1Cur c))] : List (Nm × OO))) x.1 x.2) u_ = (fun x => (fun (c : TL1Cur) (l : List Int) => ([((0, 0), .box (encTL1Cur c))] : List (Nm × OO))) x.1 x.2) v_ → u_ = v_ := by
  intro u_ v_ h h2_
  obtain ⟨⟨c_b_, c_i_, c_h_⟩, l⟩ := u_
  obtain ⟨⟨c_b_', c_i_', c_h_'⟩, l'⟩ := v_
  simp [nz_lit, nz1_lit, nz_agg, nz_sl, nz1_sl, nz_sx, nz_el, nz1_el, nz_own, nz1_own, nz_ptr, nz_fn, nz_iface] at h h2_
  first | (simp [h, h2_]; done) | (obtain ⟨h3_, h4_⟩ := List.append_inj h2_ h.1; simp_all; done) | simp_all | grind
@[simp] theorem c17_fn (c : TL1Cur) (l : List Int) : c17.fn ([.ptr (0, 0) 0, (.sl false 1 (.lit (.int .i64 0)) (ML dI l))]) ([((0, 0), .box (.agg [.sl false 1 (.lit (.int .u8 0)) (ML dU c.b_), .lit (.int .i64 c.i_), .lit (.int .i64 c.h_)]))]) = some (okCu c ∧ 0 < l.length ∧ l.length ≤ 1099511627776, (fun x : Int => (dI x : D)) (v17 c l), (((0, 0), .box (encTL1Cur (n17 c l))) :: (fun x : Int => ([] : List (Nm × OO))) (v17 c l))) :=
  mkCon_fn c17_inj ((c, l) : TL1Cur × (List Int)) rfl rfl
theorem c17_ok : c17.ok Tryd.prog := mkCon_ok fun ⟨c, l⟩ hpre => (q17_sp c l hpre.1 hpre.2).2
/-- loop.example/g03007/spec.l1New -/
theorem c16_ex (l : List Int) (hp : l.length ≤ 2097152) : ∃ x_ : TL1Cur, (fun x : TL1Cur => okCu x) x_ ∧ PCo Tryd.prog 16 [encLU l] (Tab.of []) ((fun x : TL1Cur => (.ptr (0, 1) 0 : D)) x_) (Tab.of ((fun x : TL1Cur => ([((0, 1), .box (encTL1Cur x))] : List (Nm × OO))) x_)) := by
  exact ⟨newC l, okCu_new hp, c16f_pc l hp⟩
open Classical in
noncomputable def q16 (l : List Int) : TL1Cur := if h : l.length ≤ 2097152 then Classical.choose (c16_ex l h) else default
theorem q16_sp (l : List Int) (hp : l.length ≤ 2097152) : (fun x : TL1Cur => okCu x) (q16 l) ∧ PCo Tryd.prog 16 [encLU l] (Tab.of []) ((fun x : TL1Cur => (.ptr (0, 1) 0 : D)) (q16 l)) (Tab.of ((fun x : TL1Cur => ([((0, 1), .box (encTL1Cur x))] : List (Nm × OO))) (q16 l))) := by
  have e : q16 l = Classical.choose (c16_ex l hp) := by rw [q16, dif_pos hp]
  rw [e]
  exact Classical.choose_spec (c16_ex l hp)
noncomputable def v16 (l : List Int) : TL1Cur := q16 l
theorem v16_ok (l : List Int) (hp : l.length ≤ 2097152) : (fun x : TL1Cur => okCu x) (v16 l) := (q16_sp l hp).1
noncomputable def c16 : Con := mkCon 16 false (α := (List Int)) (fun x => (fun (l : List Int) => ([encLU l] : List D)) x) (fun x => (fun (l : List Int) => ([] : List (Nm × OO))) x) (fun x => (fun (l : List Int) => l.length ≤ 2097152) x) (fun x => (fun (l : List Int) => (fun x : TL1Cur => (.ptr (0, 1) 0 : D)) (v16 l)) x) (fun x => (fun (l : List Int) => (fun x : TL1Cur => ([((0, 1), .box (encTL1Cur x))] : List (Nm × OO))) (v16 l)) x)
@[simp] theorem c16_f : c16.f = 16 := rfl
@[simp] theorem c16_own : c16.own = false := rfl
theorem c16_inj : ∀ u_ v_ : (List Int), ((fun x => (fun (l : List Int) => ([encLU l] : List D)) x) u_).map nz = ((fun x => (fun (l : List Int) => ([encLU l] : List D)) x) v_).map nz → (fun x => (fun (l : List Int) => ([] : List (Nm × OO))) x) u_ = (fun x => (fun (l : List Int) => ([] : List (Nm × OO))) x) v_ → u_ = v_ := by
  intro u_ v_ h h2_
  obtain l := u_
  obtain l' := v_
  simp [nz_lit, nz1_lit, nz_agg, nz_sl, nz1_sl, nz_sx, nz_el, nz1_el, nz_own, nz1_own, nz_ptr, nz_fn, nz_iface] at h h2_
  first | (simp [h, h2_]; done) | (obtain ⟨h3_, h4_⟩ := List.append_inj h2_ h.1; simp_all; done) | simp_all | grind
@[simp] theorem c16_fn (l : List Int) : c16.fn ([(.sl false 1 (.lit (.int .u8 0)) (ML dU l))]) ([]) = some (l.length ≤ 2097152, (fun x : TL1Cur => (.ptr (0, 1) 0 : D)) (v16 l), (fun x : TL1Cur => ([((0, 1), .box (encTL1Cur x))] : List (Nm × OO))) (v16 l)) :=
  mkCon_fn c16_inj (l : (List Int)) rfl rfl
theorem c16_ok : c16.ok Tryd.prog := mkCon_ok fun l hpre => (q16_sp l hpre).2
@[simp] theorem l1Int_fn2 (c : TL1Cur) (a0 a1 : Int) : c17.fn [.ptr (0, 0) 0, .sl false 1 (.lit (.int .i64 0)) [.lit (.int .i64 a0), .lit (.int .i64 a1)]] [((0, 0), .box (.agg [.sl false 1 (.lit (.int .u8 0)) (ML dU c.b_), .lit (.int .i64 c.i_), .lit (.int .i64 c.h_)]))] = some (okCu c ∧ 0 < ([a0, a1] : List Int).length ∧ ([a0, a1] : List Int).length ≤ 1099511627776, dI (v17 c [a0, a1]), [((0, 0), .box (encTL1Cur (n17 c [a0, a1])))]) := c17_fn c [a0, a1]
@[simp] theorem l1Int_fn3 (c : TL1Cur) (a0 a1 a2 : Int) : c17.fn [.ptr (0, 0) 0, .sl false 1 (.lit (.int .i64 0)) [.lit (.int .i64 a0), .lit (.int .i64 a1), .lit (.int .i64 a2)]] [((0, 0), .box (.agg [.sl false 1 (.lit (.int .u8 0)) (ML dU c.b_), .lit (.int .i64 c.i_), .lit (.int .i64 c.h_)]))] = some (okCu c ∧ 0 < ([a0, a1, a2] : List Int).length ∧ ([a0, a1, a2] : List Int).length ≤ 1099511627776, dI (v17 c [a0, a1, a2]), [((0, 0), .box (encTL1Cur (n17 c [a0, a1, a2])))]) := c17_fn c [a0, a1, a2]
@[simp] theorem l1Int_fn4 (c : TL1Cur) (a0 a1 a2 a3 : Int) : c17.fn [.ptr (0, 0) 0, .sl false 1 (.lit (.int .i64 0)) [.lit (.int .i64 a0), .lit (.int .i64 a1), .lit (.int .i64 a2), .lit (.int .i64 a3)]] [((0, 0), .box (.agg [.sl false 1 (.lit (.int .u8 0)) (ML dU c.b_), .lit (.int .i64 c.i_), .lit (.int .i64 c.h_)]))] = some (okCu c ∧ 0 < ([a0, a1, a2, a3] : List Int).length ∧ ([a0, a1, a2, a3] : List Int).length ≤ 1099511627776, dI (v17 c [a0, a1, a2, a3]), [((0, 0), .box (encTL1Cur (n17 c [a0, a1, a2, a3])))]) := c17_fn c [a0, a1, a2, a3]
@[simp] theorem l1Int_fn5 (c : TL1Cur) (a0 a1 a2 a3 a4 : Int) : c17.fn [.ptr (0, 0) 0, .sl false 1 (.lit (.int .i64 0)) [.lit (.int .i64 a0), .lit (.int .i64 a1), .lit (.int .i64 a2), .lit (.int .i64 a3), .lit (.int .i64 a4)]] [((0, 0), .box (.agg [.sl false 1 (.lit (.int .u8 0)) (ML dU c.b_), .lit (.int .i64 c.i_), .lit (.int .i64 c.h_)]))] = some (okCu c ∧ 0 < ([a0, a1, a2, a3, a4] : List Int).length ∧ ([a0, a1, a2, a3, a4] : List Int).length ≤ 1099511627776, dI (v17 c [a0, a1, a2, a3, a4]), [((0, 0), .box (encTL1Cur (n17 c [a0, a1, a2, a3, a4])))]) := c17_fn c [a0, a1, a2, a3, a4]
@[simp] theorem l1Int_fn6 (c : TL1Cur) (a0 a1 a2 a3 a4 a5 : Int) : c17.fn [.ptr (0, 0) 0, .sl false 1 (.lit (.int .i64 0)) [.lit (.int .i64 a0), .lit (.int .i64 a1), .lit (.int .i64 a2), .lit (.int .i64 a3), .lit (.int .i64 a4), .lit (.int .i64 a5)]] [((0, 0), .box (.agg [.sl false 1 (.lit (.int .u8 0)) (ML dU c.b_), .lit (.int .i64 c.i_), .lit (.int .i64 c.h_)]))] = some (okCu c ∧ 0 < ([a0, a1, a2, a3, a4, a5] : List Int).length ∧ ([a0, a1, a2, a3, a4, a5] : List Int).length ≤ 1099511627776, dI (v17 c [a0, a1, a2, a3, a4, a5]), [((0, 0), .box (encTL1Cur (n17 c [a0, a1, a2, a3, a4, a5])))]) := c17_fn c [a0, a1, a2, a3, a4, a5]
@[simp] theorem l1Int_fn7 (c : TL1Cur) (a0 a1 a2 a3 a4 a5 a6 : Int) : c17.fn [.ptr (0, 0) 0, .sl false 1 (.lit (.int .i64 0)) [.lit (.int .i64 a0), .lit (.int .i64 a1), .lit (.int .i64 a2), .lit (.int .i64 a3), .lit (.int .i64 a4), .lit (.int .i64 a5), .lit (.int .i64 a6)]] [((0, 0), .box (.agg [.sl false 1 (.lit (.int .u8 0)) (ML dU c.b_), .lit (.int .i64 c.i_), .lit (.int .i64 c.h_)]))] = some (okCu c ∧ 0 < ([a0, a1, a2, a3, a4, a5, a6] : List Int).length ∧ ([a0, a1, a2, a3, a4, a5, a6] : List Int).length ≤ 1099511627776, dI (v17 c [a0, a1, a2, a3, a4, a5, a6]), [((0, 0), .box (encTL1Cur (n17 c [a0, a1, a2, a3, a4, a5, a6])))]) := c17_fn c [a0, a1, a2, a3, a4, a5, a6]
@[simp] theorem l1Int_fn8 (c : TL1Cur) (a0 a1 a2 a3 a4 a5 a6 a7 : Int) : c17.fn [.ptr (0, 0) 0, .sl false 1 (.lit (.int .i64 0)) [.lit (.int .i64 a0), .lit (.int .i64 a1), .lit (.int .i64 a2), .lit (.int .i64 a3), .lit (.int .i64 a4), .lit (.int .i64 a5), .lit (.int .i64 a6), .lit (.int .i64 a7)]] [((0, 0), .box (.agg [.sl false 1 (.lit (.int .u8 0)) (ML dU c.b_), .lit (.int .i64 c.i_), .lit (.int .i64 c.h_)]))] = some (okCu c ∧ 0 < ([a0, a1, a2, a3, a4, a5, a6, a7] : List Int).length ∧ ([a0, a1, a2, a3, a4, a5, a6, a7] : List Int).length ≤ 1099511627776, dI (v17 c [a0, a1, a2, a3, a4, a5, a6, a7]), [((0, 0), .box (encTL1Cur (n17 c [a0, a1, a2, a3, a4, a5, a6, a7])))]) := c17_fn c [a0, a1, a2, a3, a4, a5, a6, a7]
@[simp] theorem l1Int_fn9 (c : TL1Cur) (a0 a1 a2 a3 a4 a5 a6 a7 a8 : Int) : c17.fn [.ptr (0, 0) 0, .sl false 1 (.lit (.int .i64 0)) [.lit (.int .i64 a0), .lit (.int .i64 a1), .lit (.int .i64 a2), .lit (.int .i64 a3), .lit (.int .i64 a4), .lit (.int .i64 a5), .lit (.int .i64 a6), .lit (.int .i64 a7), .lit (.int .i64 a8)]] [((0, 0), .box (.agg [.sl false 1 (.lit (.int .u8 0)) (ML dU c.b_), .lit (.int .i64 c.i_), .lit (.int .i64 c.h_)]))] = some (okCu c ∧ 0 < ([a0, a1, a2, a3, a4, a5, a6, a7, a8] : List Int).length ∧ ([a0, a1, a2, a3, a4, a5, a6, a7, a8] : List Int).length ≤ 1099511627776, dI (v17 c [a0, a1, a2, a3, a4, a5, a6, a7, a8]), [((0, 0), .box (encTL1Cur (n17 c [a0, a1, a2, a3, a4, a5, a6, a7, a8])))]) := c17_fn c [a0, a1, a2, a3, a4, a5, a6, a7, a8]
@[simp] theorem l1Int_fn10 (c : TL1Cur) (a0 a1 a2 a3 a4 a5 a6 a7 a8 a9 : Int) : c17.fn [.ptr (0, 0) 0, .sl false 1 (.lit (.int .i64 0)) [.lit (.int .i64 a0), .lit (.int .i64 a1), .lit (.int .i64 a2), .lit (.int .i64 a3), .lit (.int .i64 a4), .lit (.int .i64 a5), .lit (.int .i64 a6), .lit (.int .i64 a7), .lit (.int .i64 a8), .lit (.int .i64 a9)]] [((0, 0), .box (.agg [.sl false 1 (.lit (.int .u8 0)) (ML dU c.b_), .lit (.int .i64 c.i_), .lit (.int .i64 c.h_)]))] = some (okCu c ∧ 0 < ([a0, a1, a2, a3, a4, a5, a6, a7, a8, a9] : List Int).length ∧ ([a0, a1, a2, a3, a4, a5, a6, a7, a8, a9] : List Int).length ≤ 1099511627776, dI (v17 c [a0, a1, a2, a3, a4, a5, a6, a7, a8, a9]), [((0, 0), .box (encTL1Cur (n17 c [a0, a1, a2, a3, a4, a5, a6, a7, a8, a9])))]) := c17_fn c [a0, a1, a2, a3, a4, a5, a6, a7, a8, a9]
@[simp] theorem l1Int_fn11 (c : TL1Cur) (a0 a1 a2 a3 a4 a5 a6 a7 a8 a9 a10 : Int) : c17.fn [.ptr (0, 0) 0, .sl false 1 (.lit (.int .i64 0)) [.lit (.int .i64 a0), .lit (.int .i64 a1), .lit (.int .i64 a2), .lit (.int .i64 a3), .lit (.int .i64 a4), .lit (.int .i64 a5), .lit (.int .i64 a6), .lit (.int .i64 a7), .lit (.int .i64 a8), .lit (.int .i64 a9), .lit (.int .i64 a10)]] [((0, 0), .box (.agg [.sl false 1 (.lit (.int .u8 0)) (ML dU c.b_), .lit (.int .i64 c.i_), .lit (.int .i64 c.h_)]))] = some (okCu c ∧ 0 < ([a0, a1, a2, a3, a4, a5, a6, a7, a8, a9, a10] : List Int).length ∧ ([a0, a1, a2, a3, a4, a5, a6, a7, a8, a9, a10] : List Int).length ≤ 1099511627776, dI (v17 c [a0, a1, a2, a3, a4, a5, a6, a7, a8, a9, a10]), [((0, 0), .box (encTL1Cur (n17 c [a0, a1, a2, a3, a4, a5, a6, a7, a8, a9, a10])))]) := c17_fn c [a0, a1, a2, a3, a4, a5, a6, a7, a8, a9, a10]
@[simp] theorem l1Int_fn12 (c : TL1Cur) (a0 a1 a2 a3 a4 a5 a6 a7 a8 a9 a10 a11 : Int) : c17.fn [.ptr (0, 0) 0, .sl false 1 (.lit (.int .i64 0)) [.lit (.int .i64 a0), .lit (.int .i64 a1), .lit (.int .i64 a2), .lit (.int .i64 a3), .lit (.int .i64 a4), .lit (.int .i64 a5), .lit (.int .i64 a6), .lit (.int .i64 a7), .lit (.int .i64 a8), .lit (.int .i64 a9), .lit (.int .i64 a10), .lit (.int .i64 a11)]] [((0, 0), .box (.agg [.sl false 1 (.lit (.int .u8 0)) (ML dU c.b_), .lit (.int .i64 c.i_), .lit (.int .i64 c.h_)]))] = some (okCu c ∧ 0 < ([a0, a1, a2, a3, a4, a5, a6, a7, a8, a9, a10, a11] : List Int).length ∧ ([a0, a1, a2, a3, a4, a5, a6, a7, a8, a9, a10, a11] : List Int).length ≤ 1099511627776, dI (v17 c [a0, a1, a2, a3, a4, a5, a6, a7, a8, a9, a10, a11]), [((0, 0), .box (encTL1Cur (n17 c [a0, a1, a2, a3, a4, a5, a6, a7, a8, a9, a10, a11])))]) := c17_fn c [a0, a1, a2, a3, a4, a5, a6, a7, a8, a9, a10, a11]
@[simp] theorem l1Int_fn13 (c : TL1Cur) (a0 a1 a2 a3 a4 a5 a6 a7 a8 a9 a10 a11 a12 : Int) : c17.fn [.ptr (0, 0) 0, .sl false 1 (.lit (.int .i64 0)) [.lit (.int .i64 a0), .lit (.int .i64 a1), .lit (.int .i64 a2), .lit (.int .i64 a3), .lit (.int .i64 a4), .lit (.int .i64 a5), .lit (.int .i64 a6), .lit (.int .i64 a7), .lit (.int .i64 a8), .lit (.int .i64 a9), .lit (.int .i64 a10), .lit (.int .i64 a11), .lit (.int .i64 a12)]] [((0, 0), .box (.agg [.sl false 1 (.lit (.int .u8 0)) (ML dU c.b_), .lit (.int .i64 c.i_), .lit (.int .i64 c.h_)]))] = some (okCu c ∧ 0 < ([a0, a1, a2, a3, a4, a5, a6, a7, a8, a9, a10, a11, a12] : List Int).length ∧ ([a0, a1, a2, a3, a4, a5, a6, a7, a8, a9, a10, a11, a12] : List Int).length ≤ 1099511627776, dI (v17 c [a0, a1, a2, a3, a4, a5, a6, a7, a8, a9, a10, a11, a12]), [((0, 0), .box (encTL1Cur (n17 c [a0, a1, a2, a3, a4, a5, a6, a7, a8, a9, a10, a11, a12])))]) := c17_fn c [a0, a1, a2, a3, a4, a5, a6, a7, a8, a9, a10, a11, a12]
@[simp] theorem l1Int_fn14 (c : TL1Cur) (a0 a1 a2 a3 a4 a5 a6 a7 a8 a9 a10 a11 a12 a13 : Int) : c17.fn [.ptr (0, 0) 0, .sl false 1 (.lit (.int .i64 0)) [.lit (.int .i64 a0), .lit (.int .i64 a1), .lit (.int .i64 a2), .lit (.int .i64 a3), .lit (.int .i64 a4), .lit (.int .i64 a5), .lit (.int .i64 a6), .lit (.int .i64 a7), .lit (.int .i64 a8), .lit (.int .i64 a9), .lit (.int .i64 a10), .lit (.int .i64 a11), .lit (.int .i64 a12), .lit (.int .i64 a13)]] [((0, 0), .box (.agg [.sl false 1 (.lit (.int .u8 0)) (ML dU c.b_), .lit (.int .i64 c.i_), .lit (.int .i64 c.h_)]))] = some (okCu c ∧ 0 < ([a0, a1, a2, a3, a4, a5, a6, a7, a8, a9, a10, a11, a12, a13] : List Int).length ∧ ([a0, a1, a2, a3, a4, a5, a6, a7, a8, a9, a10, a11, a12, a13] : List Int).length ≤ 1099511627776, dI (v17 c [a0, a1, a2, a3, a4, a5, a6, a7, a8, a9, a10, a11, a12, a13]), [((0, 0), .box (encTL1Cur (n17 c [a0, a1, a2, a3, a4, a5, a6, a7, a8, a9, a10, a11, a12, a13])))]) := c17_fn c [a0, a1, a2, a3, a4, a5, a6, a7, a8, a9, a10, a11, a12, a13]

end Go.Proofs.YtdbhfkbfajljpaaDoor
