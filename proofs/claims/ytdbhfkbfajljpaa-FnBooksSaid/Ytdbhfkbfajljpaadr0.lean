/- Contracts of the functions that the laws run. -/
import Derived.Test.YtdbhfkbfajljpaaEngB
import Derived.Test.YtdbhfkbfajljpaaEngB
import Derived.Test.Ytdbhfkbfajljpaadr00
import Derived.Test.YtdbhfkbfajljpaaEngB
namespace Go.Proofs.Ytdbhfkbfajljpaa
open Go Go.Eng
set_option linter.unusedSimpArgs false
set_option linter.unusedVariables false
set_option maxRecDepth 10000
set_option maxHeartbeats 1000000
/-- loop.example/g03007/spec.l1Below -/
theorem c32_ex (c : TL1Cur) (n : Int) (hc : okCu c) (hp : True) : ∃ x_ : (Int) × TL1Cur, (fun x_ : (Int) × TL1Cur => okCu x_.2 ∧ (fun x : Int => 0 < n → 0 ≤ x ∧ x < n) x_.1) x_ ∧ PCo Try.prog 32 [.ptr (0, 0) 0, dI n] (Tab.of [((0, 0), .box (encTL1Cur c))]) ((fun x_ : (Int) × TL1Cur => (fun x : Int => (dI x : D)) x_.1) x_) (Tab.of ((fun x_ : (Int) × TL1Cur => (((0, 0), .box (encTL1Cur x_.2)) :: (fun x : Int => ([] : List (Nm × OO))) x_.1)) x_)) := by
  exact ⟨(cuV c n, cuN c n), ⟨okCu_cuN hc n, cuV_bd c n⟩, c32_z_pc c n hc⟩
open Classical in
noncomputable def q32 (c : TL1Cur) (n : Int) : (Int) × TL1Cur := if h : okCu c ∧ True then Classical.choose (c32_ex c n h.1 h.2) else (default, ⟨[], 0, 0⟩)
theorem q32_sp (c : TL1Cur) (n : Int) (hc : okCu c) (hp : True) : (fun x_ : (Int) × TL1Cur => okCu x_.2 ∧ (fun x : Int => 0 < n → 0 ≤ x ∧ x < n) x_.1) (q32 c n) ∧ PCo Try.prog 32 [.ptr (0, 0) 0, dI n] (Tab.of [((0, 0), .box (encTL1Cur c))]) ((fun x_ : (Int) × TL1Cur => (fun x : Int => (dI x : D)) x_.1) (q32 c n)) (Tab.of ((fun x_ : (Int) × TL1Cur => (((0, 0), .box (encTL1Cur x_.2)) :: (fun x : Int => ([] : List (Nm × OO))) x_.1)) (q32 c n))) := by
  have e : q32 c n = Classical.choose (c32_ex c n hc hp) := by rw [q32, dif_pos ⟨hc, hp⟩]
  rw [e]
  exact Classical.choose_spec (c32_ex c n hc hp)
noncomputable def v32 (c : TL1Cur) (n : Int) : Int := (q32 c n).1
noncomputable def n32 (c : TL1Cur) (n : Int) : TL1Cur := (q32 c n).2
open Classical in
@[simp] theorem n32_ok (c : TL1Cur) (n : Int) : okCu (n32 c n) := by
  by_cases h : okCu c ∧ True
  · exact (q32_sp c n h.1 h.2).1.1
  · rw [n32, q32, dif_neg h]; exact ⟨by simp, by simp, by simp⟩
theorem v32_ok (c : TL1Cur) (n : Int) (hc : okCu c) (hp : True) : (fun x : Int => 0 < n → 0 ≤ x ∧ x < n) (v32 c n) := (q32_sp c n hc hp).1.2
noncomputable def c32 : Con := mkCon 32 true (α := TL1Cur × Int) (fun x => (fun (c : TL1Cur) (n : Int) => ([.ptr (0, 0) 0, dI n] : List D)) x.1 x.2) (fun x => (fun (c : TL1Cur) (n : Int) => ([((0, 0), .box (encTL1Cur c))] : List (Nm × OO))) x.1 x.2) (fun x => (fun (c : TL1Cur) (n : Int) => okCu c ∧ True) x.1 x.2) (fun x => (fun (c : TL1Cur) (n : Int) => (fun x : Int => (dI x : D)) (v32 c n)) x.1 x.2) (fun x => (fun (c : TL1Cur) (n : Int) => (((0, 0), .box (encTL1Cur (n32 c n))) :: (fun x : Int => ([] : List (Nm × OO))) (v32 c n))) x.1 x.2)
@[simp] theorem c32_f : c32.f = 32 := rfl
@[simp] theorem c32_own : c32.own = true := rfl
theorem c32_inj : ∀ u_ v_ : TL1Cur × Int, ((fun x => (fun (c : TL1Cur) (n : Int) => ([.ptr (0, 0) 0, dI n] : List D)) x.1 x.2) u_).map nz = ((fun x => (fun (c : TL1Cur) (n : Int) => ([.ptr (0, 0) 0, dI n] : List D)) x.1 x.2) v_).map nz → (fun x => (fun (c : TL1Cur) (n : Int) => ([((0, 0), .box (encTL1Cur c))] : List (Nm × OO))) x.1 x.2) u_ = (fun x => (fun (c : TL1Cur) (n : Int) => ([((0, 0), .box (encTL1Cur c))] : List (Nm × OO))) x.1 x.2) v_ → u_ = v_ := by
  intro u_ v_ h h2_
  obtain ⟨⟨c_b_, c_i_, c_h_⟩, n⟩ := u_
  obtain ⟨⟨c_b_', c_i_', c_h_'⟩, n'⟩ := v_
  simp [nz_lit, nz1_lit, nz_agg, nz_sl, nz1_sl, nz_sx, nz_el, nz1_el, nz_own, nz1_own, nz_ptr, nz_fn, nz_iface] at h h2_
  first | (simp [h, h2_]; done) | (obtain ⟨h3_, h4_⟩ := List.append_inj h2_ h.1; simp_all; done) | simp_all | grind
@[simp] theorem c32_fn (c : TL1Cur) (n : Int) : c32.fn ([.ptr (0, 0) 0, .lit (.int .i64 n)]) ([((0, 0), .box (.agg [.sl false 1 (.lit (.int .u8 0)) (ML dU c.b_), .lit (.int .i64 c.i_), .lit (.int .i64 c.h_)]))]) = some (okCu c ∧ True, (fun x : Int => (dI x : D)) (v32 c n), (((0, 0), .box (encTL1Cur (n32 c n))) :: (fun x : Int => ([] : List (Nm × OO))) (v32 c n))) :=
  mkCon_fn c32_inj ((c, n) : TL1Cur × Int) rfl rfl
theorem c32_ok : c32.ok Try.prog := mkCon_ok fun ⟨c, n⟩ hpre => (q32_sp c n hpre.1 hpre.2).2
theorem below_bd (c : TL1Cur) (n : Int) (h : 0 < n) : 0 ≤ v32 c n ∧ v32 c n < n := by
  by_cases hc : okCu c
  · exact v32_ok c n hc trivial h
  · have e : v32 c n = 0 := by
      rw [v32, q32, dif_neg (fun h => hc h.1)]; rfl
    rw [e]; omega
noncomputable def wBelow (c : TL1Cur) (n : Int) : Int := v32 c n
theorem below_eq (c : TL1Cur) (n : Int) (h : 0 < n) : v32 c n = wBelow c n % n := by
  have := below_bd c n h
  rw [wBelow, Int.emod_eq_of_lt this.1 this.2]
/-- loop.example/g03007/spec.l1Once -/
theorem c38_ex (c : TL1Cur) (n : Int) (hc : okCu c) (hp : True) : ∃ x_ : (Bool) × TL1Cur, (fun x_ : (Bool) × TL1Cur => okCu x_.2 ∧ (fun x : Bool => True) x_.1) x_ ∧ PCo Try.prog 38 [.ptr (0, 0) 0, dI n] (Tab.of [((0, 0), .box (encTL1Cur c))]) ((fun x_ : (Bool) × TL1Cur => (fun x : Bool => (dB x : D)) x_.1) x_) (Tab.of ((fun x_ : (Bool) × TL1Cur => (((0, 0), .box (encTL1Cur x_.2)) :: (fun x : Bool => ([] : List (Nm × OO))) x_.1)) x_)) := by
  refine pco_ex_of_run (fun x_ : (Bool) × TL1Cur => okCu x_.2 ∧ (fun x : Bool => True) x_.1) (fun x_ : (Bool) × TL1Cur => (fun x : Bool => (dB x : D)) x_.1) (fun x_ : (Bool) × TL1Cur => (((0, 0), .box (encTL1Cur x_.2)) :: (fun x : Bool => ([] : List (Nm × OO))) x_.1)) [] (E := ⟨[c32], [], []⟩) (m := false) (base := 1000000) (Env.ok_cons c32_ok Env.ok_nil) G_ok mix 300 6 Try.func38 (by kernel_rfl) rfl (by kernel_rfl) (by kernel_rfl) (by kernel_rfl) rfl ?_
  simp [Try.f38, hc]
  by_cases h : v32 c n = 0
  · refine .inr ?_
    repeat' (with_reducible first | apply and_rev | apply Exists.intro | intro _)
    all_goals try dsimp only
    all_goals try with_reducible rfl
    all_goals try rfl
    all_goals (first | done | omega | assumption | exact List.length_pos_iff.2 (by assumption) | (simp [*]; done) | (simp [*]; omega) | (simp [*]; grind) | trace_state)
  · refine .inl ?_
    repeat' (with_reducible first | apply and_rev | apply Exists.intro | intro _)
    all_goals try dsimp only
    all_goals try with_reducible rfl
    all_goals try rfl
    all_goals (first | done | omega | assumption | exact List.length_pos_iff.2 (by assumption) | (simp [*]; done) | (simp [*]; omega) | (simp [*]; grind) | trace_state)
open Classical in
noncomputable def q38 (c : TL1Cur) (n : Int) : (Bool) × TL1Cur := if h : okCu c ∧ True then Classical.choose (c38_ex c n h.1 h.2) else (default, ⟨[], 0, 0⟩)
theorem q38_sp (c : TL1Cur) (n : Int) (hc : okCu c) (hp : True) : (fun x_ : (Bool) × TL1Cur => okCu x_.2 ∧ (fun x : Bool => True) x_.1) (q38 c n) ∧ PCo Try.prog 38 [.ptr (0, 0) 0, dI n] (Tab.of [((0, 0), .box (encTL1Cur c))]) ((fun x_ : (Bool) × TL1Cur => (fun x : Bool => (dB x : D)) x_.1) (q38 c n)) (Tab.of ((fun x_ : (Bool) × TL1Cur => (((0, 0), .box (encTL1Cur x_.2)) :: (fun x : Bool => ([] : List (Nm × OO))) x_.1)) (q38 c n))) := by
  have e : q38 c n = Classical.choose (c38_ex c n hc hp) := by rw [q38, dif_pos ⟨hc, hp⟩]
  rw [e]
  exact Classical.choose_spec (c38_ex c n hc hp)
noncomputable def v38 (c : TL1Cur) (n : Int) : Bool := (q38 c n).1
noncomputable def n38 (c : TL1Cur) (n : Int) : TL1Cur := (q38 c n).2
open Classical in
@[simp] theorem n38_ok (c : TL1Cur) (n : Int) : okCu (n38 c n) := by
  by_cases h : okCu c ∧ True
  · exact (q38_sp c n h.1 h.2).1.1
  · rw [n38, q38, dif_neg h]; exact ⟨by simp, by simp, by simp⟩
theorem v38_ok (c : TL1Cur) (n : Int) (hc : okCu c) (hp : True) : (fun x : Bool => True) (v38 c n) := (q38_sp c n hc hp).1.2
noncomputable def c38 : Con := mkCon 38 true (α := TL1Cur × Int) (fun x => (fun (c : TL1Cur) (n : Int) => ([.ptr (0, 0) 0, dI n] : List D)) x.1 x.2) (fun x => (fun (c : TL1Cur) (n : Int) => ([((0, 0), .box (encTL1Cur c))] : List (Nm × OO))) x.1 x.2) (fun x => (fun (c : TL1Cur) (n : Int) => okCu c ∧ True) x.1 x.2) (fun x => (fun (c : TL1Cur) (n : Int) => (fun x : Bool => (dB x : D)) (v38 c n)) x.1 x.2) (fun x => (fun (c : TL1Cur) (n : Int) => (((0, 0), .box (encTL1Cur (n38 c n))) :: (fun x : Bool => ([] : List (Nm × OO))) (v38 c n))) x.1 x.2)
@[simp] theorem c38_f : c38.f = 38 := rfl
@[simp] theorem c38_own : c38.own = true := rfl
theorem c38_inj : ∀ u_ v_ : TL1Cur × Int, ((fun x => (fun (c : TL1Cur) (n : Int) => ([.ptr (0, 0) 0, dI n] : List D)) x.1 x.2) u_).map nz = ((fun x => (fun (c : TL1Cur) (n : Int) => ([.ptr (0, 0) 0, dI n] : List D)) x.1 x.2) v_).map nz → (fun x => (fun (c : TL1Cur) (n : Int) => ([((0, 0), .box (encTL1Cur c))] : List (Nm × OO))) x.1 x.2) u_ = (fun x => (fun (c : TL1Cur) (n : Int) => ([((0, 0), .box (encTL1Cur c))] : List (Nm × OO))) x.1 x.2) v_ → u_ = v_ := by
  intro u_ v_ h h2_
  obtain ⟨⟨c_b_, c_i_, c_h_⟩, n⟩ := u_
  obtain ⟨⟨c_b_', c_i_', c_h_'⟩, n'⟩ := v_
  simp [nz_lit, nz1_lit, nz_agg, nz_sl, nz1_sl, nz_sx, nz_el, nz1_el, nz_own, nz1_own, nz_ptr, nz_fn, nz_iface] at h h2_
  first | (simp [h, h2_]; done) | (obtain ⟨h3_, h4_⟩ := List.append_inj h2_ h.1; simp_all; done) | simp_all | grind
@[simp] theorem c38_fn (c : TL1Cur) (n : Int) : c38.fn ([.ptr (0, 0) 0, .lit (.int .i64 n)]) ([((0, 0), .box (.agg [.sl false 1 (.lit (.int .u8 0)) (ML dU c.b_), .lit (.int .i64 c.i_), .lit (.int .i64 c.h_)]))]) = some (okCu c ∧ True, (fun x : Bool => (dB x : D)) (v38 c n), (((0, 0), .box (encTL1Cur (n38 c n))) :: (fun x : Bool => ([] : List (Nm × OO))) (v38 c n))) :=
  mkCon_fn c38_inj ((c, n) : TL1Cur × Int) rfl rfl
theorem c38_ok : c38.ok Try.prog := mkCon_ok fun ⟨c, n⟩ hpre => (q38_sp c n hpre.1 hpre.2).2
/-- loop.example/g03007/spec.l1Int -/
theorem c41_ex (c : TL1Cur) (l : List Int) (hc : okCu c) (hp : 0 < l.length ∧ l.length ≤ 1099511627776) : ∃ x_ : (Int) × TL1Cur, (fun x_ : (Int) × TL1Cur => okCu x_.2 ∧ (fun x : Int => x ∈ l) x_.1) x_ ∧ PCo Try.prog 41 [.ptr (0, 0) 0, encLI l] (Tab.of [((0, 0), .box (encTL1Cur c))]) ((fun x_ : (Int) × TL1Cur => (fun x : Int => (dI x : D)) x_.1) x_) (Tab.of ((fun x_ : (Int) × TL1Cur => (((0, 0), .box (encTL1Cur x_.2)) :: (fun x : Int => ([] : List (Nm × OO))) x_.1)) x_)) := by
  refine pco_ex_of_run (fun x_ : (Int) × TL1Cur => okCu x_.2 ∧ (fun x : Int => x ∈ l) x_.1) (fun x_ : (Int) × TL1Cur => (fun x : Int => (dI x : D)) x_.1) (fun x_ : (Int) × TL1Cur => (((0, 0), .box (encTL1Cur x_.2)) :: (fun x : Int => ([] : List (Nm × OO))) x_.1)) [] (E := ⟨[c32], [], []⟩) (m := false) (base := 1000000) (Env.ok_cons c32_ok Env.ok_nil) G_ok mix 300 6 Try.func41 (by kernel_rfl) rfl (by kernel_rfl) (by kernel_rfl) (by kernel_rfl) rfl ?_
  simp [Try.f41, hc, hp]
  have hb := v32_ok c l.length hc trivial (by omega)
  have hm : l[(v32 c l.length).toNat]?.getD 0 ∈ l := getD_mem (by omega)
  repeat' (with_reducible first | apply and_rev | apply Exists.intro | intro _)
  all_goals try dsimp only
  all_goals try with_reducible rfl
  all_goals try rfl
  all_goals (first | done | omega | assumption | exact List.length_pos_iff.2 (by assumption) | (simp [*]; done) | (simp [*]; omega) | (simp [*]; grind) | trace_state)
open Classical in
noncomputable def q41 (c : TL1Cur) (l : List Int) : (Int) × TL1Cur := if h : okCu c ∧ 0 < l.length ∧ l.length ≤ 1099511627776 then Classical.choose (c41_ex c l h.1 h.2) else (default, ⟨[], 0, 0⟩)
theorem q41_sp (c : TL1Cur) (l : List Int) (hc : okCu c) (hp : 0 < l.length ∧ l.length ≤ 1099511627776) : (fun x_ : (Int) × TL1Cur => okCu x_.2 ∧ (fun x : Int => x ∈ l) x_.1) (q41 c l) ∧ PCo Try.prog 41 [.ptr (0, 0) 0, encLI l] (Tab.of [((0, 0), .box (encTL1Cur c))]) ((fun x_ : (Int) × TL1Cur => (fun x : Int => (dI x : D)) x_.1) (q41 c l)) (Tab.of ((fun x_ : (Int) × TL1Cur => (((0, 0), .box (encTL1Cur x_.2)) :: (fun x : Int => ([] : List (Nm × OO))) x_.1)) (q41 c l))) := by
  have e : q41 c l = Classical.choose (c41_ex c l hc hp) := by rw [q41, dif_pos ⟨hc, hp⟩]
  rw [e]
  exact Classical.choose_spec (c41_ex c l hc hp)
noncomputable def v41 (c : TL1Cur) (l : List Int) : Int := (q41 c l).1
noncomputable def n41 (c : TL1Cur) (l : List Int) : TL1Cur := (q41 c l).2
open Classical in
@[simp] theorem n41_ok (c : TL1Cur) (l : List Int) : okCu (n41 c l) := by
  by_cases h : okCu c ∧ 0 < l.length ∧ l.length ≤ 1099511627776
  · exact (q41_sp c l h.1 h.2).1.1
  · rw [n41, q41, dif_neg h]; exact ⟨by simp, by simp, by simp⟩
theorem v41_ok (c : TL1Cur) (l : List Int) (hc : okCu c) (hp : 0 < l.length ∧ l.length ≤ 1099511627776) : (fun x : Int => x ∈ l) (v41 c l) := (q41_sp c l hc hp).1.2
noncomputable def c41 : Con := mkCon 41 true (α := TL1Cur × (List Int)) (fun x => (fun (c : TL1Cur) (l : List Int) => ([.ptr (0, 0) 0, encLI l] : List D)) x.1 x.2) (fun x => (fun (c : TL1Cur) (l : List Int) => ([((0, 0), .box (encTL1Cur c))] : List (Nm × OO))) x.1 x.2) (fun x => (fun (c : TL1Cur) (l : List Int) => okCu c ∧ 0 < l.length ∧ l.length ≤ 1099511627776) x.1 x.2) (fun x => (fun (c : TL1Cur) (l : List Int) => (fun x : Int => (dI x : D)) (v41 c l)) x.1 x.2) (fun x => (fun (c : TL1Cur) (l : List Int) => (((0, 0), .box (encTL1Cur (n41 c l))) :: (fun x : Int => ([] : List (Nm × OO))) (v41 c l))) x.1 x.2)
@[simp] theorem c41_f : c41.f = 41 := rfl
@[simp] theorem c41_own : c41.own = true := rfl
theorem c41_inj : ∀ u_ v_ : TL1Cur × (List Int), ((fun x => (fun (c : TL1Cur) (l : List Int) => ([.ptr (0, 0) 0, encLI l] : List D)) x.1 x.2) u_).map nz = ((fun x => (fun (c : TL1Cur) (l : List Int) => ([.ptr (0, 0) 0, encLI l] : List D)) x.1 x.2) v_).map nz → (fun x => (fun (c : TL1Cur) (l : List Int) => ([((0, 0), .box (encTL1Cur c))] : List (Nm × OO))) x.1 x.2) u_ = (fun x => (fun (c : TL1Cur) (l : List Int) => ([((0, 0), .box (encTL1Cur c))] : List (Nm × OO))) x.1 x.2) v_ → u_ = v_ := by
  intro u_ v_ h h2_
  obtain ⟨⟨c_b_, c_i_, c_h_⟩, l⟩ := u_
  obtain ⟨⟨c_b_', c_i_', c_h_'⟩, l'⟩ := v_
  simp [nz_lit, nz1_lit, nz_agg, nz_sl, nz1_sl, nz_sx, nz_el, nz1_el, nz_own, nz1_own, nz_ptr, nz_fn, nz_iface] at h h2_
  first | (simp [h, h2_]; done) | (obtain ⟨h3_, h4_⟩ := List.append_inj h2_ h.1; simp_all; done) | simp_all | grind
@[simp] theorem c41_fn (c : TL1Cur) (l : List Int) : c41.fn ([.ptr (0, 0) 0, (.sl false 1 (.lit (.int .i64 0)) (ML dI l))]) ([((0, 0), .box (.agg [.sl false 1 (.lit (.int .u8 0)) (ML dU c.b_), .lit (.int .i64 c.i_), .lit (.int .i64 c.h_)]))]) = some (okCu c ∧ 0 < l.length ∧ l.length ≤ 1099511627776, (fun x : Int => (dI x : D)) (v41 c l), (((0, 0), .box (encTL1Cur (n41 c l))) :: (fun x : Int => ([] : List (Nm × OO))) (v41 c l))) :=
  mkCon_fn c41_inj ((c, l) : TL1Cur × (List Int)) rfl rfl
theorem c41_ok : c41.ok Try.prog := mkCon_ok fun ⟨c, l⟩ hpre => (q41_sp c l hpre.1 hpre.2).2
/-- loop.example/g03007/spec.l1New -/
theorem c30_ex (l : List Int) (hp : l.length ≤ 2097152) : ∃ x_ : TL1Cur, (fun x : TL1Cur => okCu x) x_ ∧ PCo Try.prog 30 [encLU l] (Tab.of []) ((fun x : TL1Cur => (.ptr (0, 1) 0 : D)) x_) (Tab.of ((fun x : TL1Cur => ([((0, 1), .box (encTL1Cur x))] : List (Nm × OO))) x_)) := by
  exact ⟨newC l, okCu_new hp, c30f_pc l hp⟩
open Classical in
noncomputable def q30 (l : List Int) : TL1Cur := if h : l.length ≤ 2097152 then Classical.choose (c30_ex l h) else default
theorem q30_sp (l : List Int) (hp : l.length ≤ 2097152) : (fun x : TL1Cur => okCu x) (q30 l) ∧ PCo Try.prog 30 [encLU l] (Tab.of []) ((fun x : TL1Cur => (.ptr (0, 1) 0 : D)) (q30 l)) (Tab.of ((fun x : TL1Cur => ([((0, 1), .box (encTL1Cur x))] : List (Nm × OO))) (q30 l))) := by
  have e : q30 l = Classical.choose (c30_ex l hp) := by rw [q30, dif_pos hp]
  rw [e]
  exact Classical.choose_spec (c30_ex l hp)
noncomputable def v30 (l : List Int) : TL1Cur := q30 l
theorem v30_ok (l : List Int) (hp : l.length ≤ 2097152) : (fun x : TL1Cur => okCu x) (v30 l) := (q30_sp l hp).1
noncomputable def c30 : Con := mkCon 30 false (α := (List Int)) (fun x => (fun (l : List Int) => ([encLU l] : List D)) x) (fun x => (fun (l : List Int) => ([] : List (Nm × OO))) x) (fun x => (fun (l : List Int) => l.length ≤ 2097152) x) (fun x => (fun (l : List Int) => (fun x : TL1Cur => (.ptr (0, 1) 0 : D)) (v30 l)) x) (fun x => (fun (l : List Int) => (fun x : TL1Cur => ([((0, 1), .box (encTL1Cur x))] : List (Nm × OO))) (v30 l)) x)
@[simp] theorem c30_f : c30.f = 30 := rfl
@[simp] theorem c30_own : c30.own = false := rfl
theorem c30_inj : ∀ u_ v_ : (List Int), ((fun x => (fun (l : List Int) => ([encLU l] : List D)) x) u_).map nz = ((fun x => (fun (l : List Int) => ([encLU l] : List D)) x) v_).map nz → (fun x => (fun (l : List Int) => ([] : List (Nm × OO))) x) u_ = (fun x => (fun (l : List Int) => ([] : List (Nm × OO))) x) v_ → u_ = v_ := by
  intro u_ v_ h h2_
  obtain l := u_
  obtain l' := v_
  simp [nz_lit, nz1_lit, nz_agg, nz_sl, nz1_sl, nz_sx, nz_el, nz1_el, nz_own, nz1_own, nz_ptr, nz_fn, nz_iface] at h h2_
  first | (simp [h, h2_]; done) | (obtain ⟨h3_, h4_⟩ := List.append_inj h2_ h.1; simp_all; done) | simp_all | grind
@[simp] theorem c30_fn (l : List Int) : c30.fn ([(.sl false 1 (.lit (.int .u8 0)) (ML dU l))]) ([]) = some (l.length ≤ 2097152, (fun x : TL1Cur => (.ptr (0, 1) 0 : D)) (v30 l), (fun x : TL1Cur => ([((0, 1), .box (encTL1Cur x))] : List (Nm × OO))) (v30 l)) :=
  mkCon_fn c30_inj (l : (List Int)) rfl rfl
theorem c30_ok : c30.ok Try.prog := mkCon_ok fun l hpre => (q30_sp l hpre).2
@[simp] theorem l1Int_fn2 (c : TL1Cur) (a0 a1 : Int) : c41.fn [.ptr (0, 0) 0, .sl false 1 (.lit (.int .i64 0)) [.lit (.int .i64 a0), .lit (.int .i64 a1)]] [((0, 0), .box (.agg [.sl false 1 (.lit (.int .u8 0)) (ML dU c.b_), .lit (.int .i64 c.i_), .lit (.int .i64 c.h_)]))] = some (okCu c ∧ 0 < ([a0, a1] : List Int).length ∧ ([a0, a1] : List Int).length ≤ 1099511627776, dI (v41 c [a0, a1]), [((0, 0), .box (encTL1Cur (n41 c [a0, a1])))]) := c41_fn c [a0, a1]
@[simp] theorem l1Int_fn3 (c : TL1Cur) (a0 a1 a2 : Int) : c41.fn [.ptr (0, 0) 0, .sl false 1 (.lit (.int .i64 0)) [.lit (.int .i64 a0), .lit (.int .i64 a1), .lit (.int .i64 a2)]] [((0, 0), .box (.agg [.sl false 1 (.lit (.int .u8 0)) (ML dU c.b_), .lit (.int .i64 c.i_), .lit (.int .i64 c.h_)]))] = some (okCu c ∧ 0 < ([a0, a1, a2] : List Int).length ∧ ([a0, a1, a2] : List Int).length ≤ 1099511627776, dI (v41 c [a0, a1, a2]), [((0, 0), .box (encTL1Cur (n41 c [a0, a1, a2])))]) := c41_fn c [a0, a1, a2]
@[simp] theorem l1Int_fn4 (c : TL1Cur) (a0 a1 a2 a3 : Int) : c41.fn [.ptr (0, 0) 0, .sl false 1 (.lit (.int .i64 0)) [.lit (.int .i64 a0), .lit (.int .i64 a1), .lit (.int .i64 a2), .lit (.int .i64 a3)]] [((0, 0), .box (.agg [.sl false 1 (.lit (.int .u8 0)) (ML dU c.b_), .lit (.int .i64 c.i_), .lit (.int .i64 c.h_)]))] = some (okCu c ∧ 0 < ([a0, a1, a2, a3] : List Int).length ∧ ([a0, a1, a2, a3] : List Int).length ≤ 1099511627776, dI (v41 c [a0, a1, a2, a3]), [((0, 0), .box (encTL1Cur (n41 c [a0, a1, a2, a3])))]) := c41_fn c [a0, a1, a2, a3]
@[simp] theorem l1Int_fn5 (c : TL1Cur) (a0 a1 a2 a3 a4 : Int) : c41.fn [.ptr (0, 0) 0, .sl false 1 (.lit (.int .i64 0)) [.lit (.int .i64 a0), .lit (.int .i64 a1), .lit (.int .i64 a2), .lit (.int .i64 a3), .lit (.int .i64 a4)]] [((0, 0), .box (.agg [.sl false 1 (.lit (.int .u8 0)) (ML dU c.b_), .lit (.int .i64 c.i_), .lit (.int .i64 c.h_)]))] = some (okCu c ∧ 0 < ([a0, a1, a2, a3, a4] : List Int).length ∧ ([a0, a1, a2, a3, a4] : List Int).length ≤ 1099511627776, dI (v41 c [a0, a1, a2, a3, a4]), [((0, 0), .box (encTL1Cur (n41 c [a0, a1, a2, a3, a4])))]) := c41_fn c [a0, a1, a2, a3, a4]
@[simp] theorem l1Int_fn6 (c : TL1Cur) (a0 a1 a2 a3 a4 a5 : Int) : c41.fn [.ptr (0, 0) 0, .sl false 1 (.lit (.int .i64 0)) [.lit (.int .i64 a0), .lit (.int .i64 a1), .lit (.int .i64 a2), .lit (.int .i64 a3), .lit (.int .i64 a4), .lit (.int .i64 a5)]] [((0, 0), .box (.agg [.sl false 1 (.lit (.int .u8 0)) (ML dU c.b_), .lit (.int .i64 c.i_), .lit (.int .i64 c.h_)]))] = some (okCu c ∧ 0 < ([a0, a1, a2, a3, a4, a5] : List Int).length ∧ ([a0, a1, a2, a3, a4, a5] : List Int).length ≤ 1099511627776, dI (v41 c [a0, a1, a2, a3, a4, a5]), [((0, 0), .box (encTL1Cur (n41 c [a0, a1, a2, a3, a4, a5])))]) := c41_fn c [a0, a1, a2, a3, a4, a5]
@[simp] theorem l1Int_fn7 (c : TL1Cur) (a0 a1 a2 a3 a4 a5 a6 : Int) : c41.fn [.ptr (0, 0) 0, .sl false 1 (.lit (.int .i64 0)) [.lit (.int .i64 a0), .lit (.int .i64 a1), .lit (.int .i64 a2), .lit (.int .i64 a3), .lit (.int .i64 a4), .lit (.int .i64 a5), .lit (.int .i64 a6)]] [((0, 0), .box (.agg [.sl false 1 (.lit (.int .u8 0)) (ML dU c.b_), .lit (.int .i64 c.i_), .lit (.int .i64 c.h_)]))] = some (okCu c ∧ 0 < ([a0, a1, a2, a3, a4, a5, a6] : List Int).length ∧ ([a0, a1, a2, a3, a4, a5, a6] : List Int).length ≤ 1099511627776, dI (v41 c [a0, a1, a2, a3, a4, a5, a6]), [((0, 0), .box (encTL1Cur (n41 c [a0, a1, a2, a3, a4, a5, a6])))]) := c41_fn c [a0, a1, a2, a3, a4, a5, a6]
@[simp] theorem l1Int_fn8 (c : TL1Cur) (a0 a1 a2 a3 a4 a5 a6 a7 : Int) : c41.fn [.ptr (0, 0) 0, .sl false 1 (.lit (.int .i64 0)) [.lit (.int .i64 a0), .lit (.int .i64 a1), .lit (.int .i64 a2), .lit (.int .i64 a3), .lit (.int .i64 a4), .lit (.int .i64 a5), .lit (.int .i64 a6), .lit (.int .i64 a7)]] [((0, 0), .box (.agg [.sl false 1 (.lit (.int .u8 0)) (ML dU c.b_), .lit (.int .i64 c.i_), .lit (.int .i64 c.h_)]))] = some (okCu c ∧ 0 < ([a0, a1, a2, a3, a4, a5, a6, a7] : List Int).length ∧ ([a0, a1, a2, a3, a4, a5, a6, a7] : List Int).length ≤ 1099511627776, dI (v41 c [a0, a1, a2, a3, a4, a5, a6, a7]), [((0, 0), .box (encTL1Cur (n41 c [a0, a1, a2, a3, a4, a5, a6, a7])))]) := c41_fn c [a0, a1, a2, a3, a4, a5, a6, a7]
@[simp] theorem l1Int_fn9 (c : TL1Cur) (a0 a1 a2 a3 a4 a5 a6 a7 a8 : Int) : c41.fn [.ptr (0, 0) 0, .sl false 1 (.lit (.int .i64 0)) [.lit (.int .i64 a0), .lit (.int .i64 a1), .lit (.int .i64 a2), .lit (.int .i64 a3), .lit (.int .i64 a4), .lit (.int .i64 a5), .lit (.int .i64 a6), .lit (.int .i64 a7), .lit (.int .i64 a8)]] [((0, 0), .box (.agg [.sl false 1 (.lit (.int .u8 0)) (ML dU c.b_), .lit (.int .i64 c.i_), .lit (.int .i64 c.h_)]))] = some (okCu c ∧ 0 < ([a0, a1, a2, a3, a4, a5, a6, a7, a8] : List Int).length ∧ ([a0, a1, a2, a3, a4, a5, a6, a7, a8] : List Int).length ≤ 1099511627776, dI (v41 c [a0, a1, a2, a3, a4, a5, a6, a7, a8]), [((0, 0), .box (encTL1Cur (n41 c [a0, a1, a2, a3, a4, a5, a6, a7, a8])))]) := c41_fn c [a0, a1, a2, a3, a4, a5, a6, a7, a8]
@[simp] theorem l1Int_fn10 (c : TL1Cur) (a0 a1 a2 a3 a4 a5 a6 a7 a8 a9 : Int) : c41.fn [.ptr (0, 0) 0, .sl false 1 (.lit (.int .i64 0)) [.lit (.int .i64 a0), .lit (.int .i64 a1), .lit (.int .i64 a2), .lit (.int .i64 a3), .lit (.int .i64 a4), .lit (.int .i64 a5), .lit (.int .i64 a6), .lit (.int .i64 a7), .lit (.int .i64 a8), .lit (.int .i64 a9)]] [((0, 0), .box (.agg [.sl false 1 (.lit (.int .u8 0)) (ML dU c.b_), .lit (.int .i64 c.i_), .lit (.int .i64 c.h_)]))] = some (okCu c ∧ 0 < ([a0, a1, a2, a3, a4, a5, a6, a7, a8, a9] : List Int).length ∧ ([a0, a1, a2, a3, a4, a5, a6, a7, a8, a9] : List Int).length ≤ 1099511627776, dI (v41 c [a0, a1, a2, a3, a4, a5, a6, a7, a8, a9]), [((0, 0), .box (encTL1Cur (n41 c [a0, a1, a2, a3, a4, a5, a6, a7, a8, a9])))]) := c41_fn c [a0, a1, a2, a3, a4, a5, a6, a7, a8, a9]
@[simp] theorem l1Int_fn11 (c : TL1Cur) (a0 a1 a2 a3 a4 a5 a6 a7 a8 a9 a10 : Int) : c41.fn [.ptr (0, 0) 0, .sl false 1 (.lit (.int .i64 0)) [.lit (.int .i64 a0), .lit (.int .i64 a1), .lit (.int .i64 a2), .lit (.int .i64 a3), .lit (.int .i64 a4), .lit (.int .i64 a5), .lit (.int .i64 a6), .lit (.int .i64 a7), .lit (.int .i64 a8), .lit (.int .i64 a9), .lit (.int .i64 a10)]] [((0, 0), .box (.agg [.sl false 1 (.lit (.int .u8 0)) (ML dU c.b_), .lit (.int .i64 c.i_), .lit (.int .i64 c.h_)]))] = some (okCu c ∧ 0 < ([a0, a1, a2, a3, a4, a5, a6, a7, a8, a9, a10] : List Int).length ∧ ([a0, a1, a2, a3, a4, a5, a6, a7, a8, a9, a10] : List Int).length ≤ 1099511627776, dI (v41 c [a0, a1, a2, a3, a4, a5, a6, a7, a8, a9, a10]), [((0, 0), .box (encTL1Cur (n41 c [a0, a1, a2, a3, a4, a5, a6, a7, a8, a9, a10])))]) := c41_fn c [a0, a1, a2, a3, a4, a5, a6, a7, a8, a9, a10]
@[simp] theorem l1Int_fn12 (c : TL1Cur) (a0 a1 a2 a3 a4 a5 a6 a7 a8 a9 a10 a11 : Int) : c41.fn [.ptr (0, 0) 0, .sl false 1 (.lit (.int .i64 0)) [.lit (.int .i64 a0), .lit (.int .i64 a1), .lit (.int .i64 a2), .lit (.int .i64 a3), .lit (.int .i64 a4), .lit (.int .i64 a5), .lit (.int .i64 a6), .lit (.int .i64 a7), .lit (.int .i64 a8), .lit (.int .i64 a9), .lit (.int .i64 a10), .lit (.int .i64 a11)]] [((0, 0), .box (.agg [.sl false 1 (.lit (.int .u8 0)) (ML dU c.b_), .lit (.int .i64 c.i_), .lit (.int .i64 c.h_)]))] = some (okCu c ∧ 0 < ([a0, a1, a2, a3, a4, a5, a6, a7, a8, a9, a10, a11] : List Int).length ∧ ([a0, a1, a2, a3, a4, a5, a6, a7, a8, a9, a10, a11] : List Int).length ≤ 1099511627776, dI (v41 c [a0, a1, a2, a3, a4, a5, a6, a7, a8, a9, a10, a11]), [((0, 0), .box (encTL1Cur (n41 c [a0, a1, a2, a3, a4, a5, a6, a7, a8, a9, a10, a11])))]) := c41_fn c [a0, a1, a2, a3, a4, a5, a6, a7, a8, a9, a10, a11]
@[simp] theorem l1Int_fn13 (c : TL1Cur) (a0 a1 a2 a3 a4 a5 a6 a7 a8 a9 a10 a11 a12 : Int) : c41.fn [.ptr (0, 0) 0, .sl false 1 (.lit (.int .i64 0)) [.lit (.int .i64 a0), .lit (.int .i64 a1), .lit (.int .i64 a2), .lit (.int .i64 a3), .lit (.int .i64 a4), .lit (.int .i64 a5), .lit (.int .i64 a6), .lit (.int .i64 a7), .lit (.int .i64 a8), .lit (.int .i64 a9), .lit (.int .i64 a10), .lit (.int .i64 a11), .lit (.int .i64 a12)]] [((0, 0), .box (.agg [.sl false 1 (.lit (.int .u8 0)) (ML dU c.b_), .lit (.int .i64 c.i_), .lit (.int .i64 c.h_)]))] = some (okCu c ∧ 0 < ([a0, a1, a2, a3, a4, a5, a6, a7, a8, a9, a10, a11, a12] : List Int).length ∧ ([a0, a1, a2, a3, a4, a5, a6, a7, a8, a9, a10, a11, a12] : List Int).length ≤ 1099511627776, dI (v41 c [a0, a1, a2, a3, a4, a5, a6, a7, a8, a9, a10, a11, a12]), [((0, 0), .box (encTL1Cur (n41 c [a0, a1, a2, a3, a4, a5, a6, a7, a8, a9, a10, a11, a12])))]) := c41_fn c [a0, a1, a2, a3, a4, a5, a6, a7, a8, a9, a10, a11, a12]
@[simp] theorem l1Int_fn14 (c : TL1Cur) (a0 a1 a2 a3 a4 a5 a6 a7 a8 a9 a10 a11 a12 a13 : Int) : c41.fn [.ptr (0, 0) 0, .sl false 1 (.lit (.int .i64 0)) [.lit (.int .i64 a0), .lit (.int .i64 a1), .lit (.int .i64 a2), .lit (.int .i64 a3), .lit (.int .i64 a4), .lit (.int .i64 a5), .lit (.int .i64 a6), .lit (.int .i64 a7), .lit (.int .i64 a8), .lit (.int .i64 a9), .lit (.int .i64 a10), .lit (.int .i64 a11), .lit (.int .i64 a12), .lit (.int .i64 a13)]] [((0, 0), .box (.agg [.sl false 1 (.lit (.int .u8 0)) (ML dU c.b_), .lit (.int .i64 c.i_), .lit (.int .i64 c.h_)]))] = some (okCu c ∧ 0 < ([a0, a1, a2, a3, a4, a5, a6, a7, a8, a9, a10, a11, a12, a13] : List Int).length ∧ ([a0, a1, a2, a3, a4, a5, a6, a7, a8, a9, a10, a11, a12, a13] : List Int).length ≤ 1099511627776, dI (v41 c [a0, a1, a2, a3, a4, a5, a6, a7, a8, a9, a10, a11, a12, a13]), [((0, 0), .box (encTL1Cur (n41 c [a0, a1, a2, a3, a4, a5, a6, a7, a8, a9, a10, a11, a12, a13])))]) := c41_fn c [a0, a1, a2, a3, a4, a5, a6, a7, a8, a9, a10, a11, a12, a13]

end Go.Proofs.Ytdbhfkbfajljpaa
