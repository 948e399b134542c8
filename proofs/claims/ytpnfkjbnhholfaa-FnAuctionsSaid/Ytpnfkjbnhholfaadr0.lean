/- Contracts of the functions that the laws run. -/
import Derived.Test.YtpnfkjbnhholfaaEngB
import Derived.Test.YtpnfkjbnhholfaaEngB
import Derived.Test.Ytpnfkjbnhholfaadr00
import Derived.Test.YtpnfkjbnhholfaaEngB
namespace Go.Proofs.Ytpnfkjbnhholfaa
open Go Go.Eng
set_option linter.unusedSimpArgs false
set_option linter.unusedVariables false
set_option maxRecDepth 10000
set_option maxHeartbeats 1000000
/-- loop.example/g03007/spec.l1Below -/
theorem c72_ex (c : TL1Cur) (n : Int) (hc : okCu c) (hp : True) : ∃ x_ : (Int) × TL1Cur, (fun x_ : (Int) × TL1Cur => okCu x_.2 ∧ (fun x : Int => 0 < n → 0 ≤ x ∧ x < n) x_.1) x_ ∧ PCo Try.prog 72 [.ptr (0, 0) 0, dI n] (Tab.of [((0, 0), .box (encTL1Cur c))]) ((fun x_ : (Int) × TL1Cur => (fun x : Int => (dI x : D)) x_.1) x_) (Tab.of ((fun x_ : (Int) × TL1Cur => (((0, 0), .box (encTL1Cur x_.2)) :: (fun x : Int => ([] : List (Nm × OO))) x_.1)) x_)) := by
  exact ⟨(bV c n, bN c n), ⟨okCu_bN hc n, bV_bd c n⟩, c72_z_pc c n hc⟩
open Classical in
noncomputable def q72 (c : TL1Cur) (n : Int) : (Int) × TL1Cur := if h : okCu c ∧ True then Classical.choose (c72_ex c n h.1 h.2) else (default, ⟨[], 0, 0⟩)
theorem q72_sp (c : TL1Cur) (n : Int) (hc : okCu c) (hp : True) : (fun x_ : (Int) × TL1Cur => okCu x_.2 ∧ (fun x : Int => 0 < n → 0 ≤ x ∧ x < n) x_.1) (q72 c n) ∧ PCo Try.prog 72 [.ptr (0, 0) 0, dI n] (Tab.of [((0, 0), .box (encTL1Cur c))]) ((fun x_ : (Int) × TL1Cur => (fun x : Int => (dI x : D)) x_.1) (q72 c n)) (Tab.of ((fun x_ : (Int) × TL1Cur => (((0, 0), .box (encTL1Cur x_.2)) :: (fun x : Int => ([] : List (Nm × OO))) x_.1)) (q72 c n))) := by
  have e : q72 c n = Classical.choose (c72_ex c n hc hp) := by rw [q72, dif_pos ⟨hc, hp⟩]
  rw [e]
  exact Classical.choose_spec (c72_ex c n hc hp)
noncomputable def v72 (c : TL1Cur) (n : Int) : Int := (q72 c n).1
noncomputable def n72 (c : TL1Cur) (n : Int) : TL1Cur := (q72 c n).2
open Classical in
@[simp] theorem n72_ok (c : TL1Cur) (n : Int) : okCu (n72 c n) := by
  by_cases h : okCu c ∧ True
  · exact (q72_sp c n h.1 h.2).1.1
  · rw [n72, q72, dif_neg h]; exact ⟨by simp, by simp, by simp⟩
theorem v72_ok (c : TL1Cur) (n : Int) (hc : okCu c) (hp : True) : (fun x : Int => 0 < n → 0 ≤ x ∧ x < n) (v72 c n) := (q72_sp c n hc hp).1.2
noncomputable def c72 : Con := mkCon 72 true (α := TL1Cur × Int) (fun x => (fun (c : TL1Cur) (n : Int) => ([.ptr (0, 0) 0, dI n] : List D)) x.1 x.2) (fun x => (fun (c : TL1Cur) (n : Int) => ([((0, 0), .box (encTL1Cur c))] : List (Nm × OO))) x.1 x.2) (fun x => (fun (c : TL1Cur) (n : Int) => okCu c ∧ True) x.1 x.2) (fun x => (fun (c : TL1Cur) (n : Int) => (fun x : Int => (dI x : D)) (v72 c n)) x.1 x.2) (fun x => (fun (c : TL1Cur) (n : Int) => (((0, 0), .box (encTL1Cur (n72 c n))) :: (fun x : Int => ([] : List (Nm × OO))) (v72 c n))) x.1 x.2)
@[simp] theorem c72_f : c72.f = 72 := rfl
@[simp] theorem c72_own : c72.own = true := rfl
theorem c72_inj : ∀ u_ v_ : TL1Cur × Int, ((fun x => (fun (c : TL1Cur) (n : Int) => ([.ptr (0, 0) 0, dI n] : List D)) x.1 x.2) u_).map nz = ((fun x => (fun (c : TL1Cur) (n : Int) => ([.ptr (0, 0) 0, dI n] : List D)) x.1 x.2) v_).map nz → (fun x => (fun (c : TL1Cur) (n : Int) => ([((0, 0), .box (encTL1Cur c))] : List (Nm × OO))) x.1 x.2) u_ = (fun x => (fun (c : TL1Cur) (n : Int) => ([((0, 0), .box (encTL1Cur c))] : List (Nm × OO))) x.1 x.2) v_ → u_ = v_ := by
  intro u_ v_ h h2_
  obtain ⟨⟨c_b_, c_i_, c_h_⟩, n⟩ := u_
  obtain ⟨⟨c_b_', c_i_', c_h_'⟩, n'⟩ := v_
  simp [nz_lit, nz1_lit, nz_agg, nz_sl, nz1_sl, nz_sx, nz_el, nz1_el, nz_own, nz1_own, nz_ptr, nz_fn, nz_iface] at h h2_
  first | (simp [h, h2_]; done) | (obtain ⟨h3_, h4_⟩ := List.append_inj h2_ h.1; simp_all; done) | simp_all | grind
@[simp] theorem c72_fn (c : TL1Cur) (n : Int) : c72.fn ([.ptr (0, 0) 0, .lit (.int .i64 n)]) ([((0, 0), .box (.agg [.sl false 1 (.lit (.int .u8 0)) (ML dU c.b_), .lit (.int .i64 c.i_), .lit (.int .i64 c.h_)]))]) = some (okCu c ∧ True, (fun x : Int => (dI x : D)) (v72 c n), (((0, 0), .box (encTL1Cur (n72 c n))) :: (fun x : Int => ([] : List (Nm × OO))) (v72 c n))) :=
  mkCon_fn c72_inj ((c, n) : TL1Cur × Int) rfl rfl
theorem c72_ok : c72.ok Try.prog := mkCon_ok fun ⟨c, n⟩ hpre => (q72_sp c n hpre.1 hpre.2).2
theorem below_bd (c : TL1Cur) (n : Int) (h : 0 < n) : 0 ≤ v72 c n ∧ v72 c n < n := by
  by_cases hc : okCu c
  · exact v72_ok c n hc trivial h
  · have e : v72 c n = 0 := by
      rw [v72, q72, dif_neg (fun h => hc h.1)]; rfl
    rw [e]; omega
noncomputable def wBelow (c : TL1Cur) (n : Int) : Int := v72 c n
theorem below_eq (c : TL1Cur) (n : Int) (h : 0 < n) : v72 c n = wBelow c n % n := by
  have := below_bd c n h
  rw [wBelow, Int.emod_eq_of_lt this.1 this.2]
/-- loop.example/g03007/spec.l1Once -/
theorem c71_ex (c : TL1Cur) (n : Int) (hc : okCu c) (hp : True) : ∃ x_ : (Bool) × TL1Cur, (fun x_ : (Bool) × TL1Cur => okCu x_.2 ∧ (fun x : Bool => True) x_.1) x_ ∧ PCo Try.prog 71 [.ptr (0, 0) 0, dI n] (Tab.of [((0, 0), .box (encTL1Cur c))]) ((fun x_ : (Bool) × TL1Cur => (fun x : Bool => (dB x : D)) x_.1) x_) (Tab.of ((fun x_ : (Bool) × TL1Cur => (((0, 0), .box (encTL1Cur x_.2)) :: (fun x : Bool => ([] : List (Nm × OO))) x_.1)) x_)) := by
  refine pco_ex_of_run (fun x_ : (Bool) × TL1Cur => okCu x_.2 ∧ (fun x : Bool => True) x_.1) (fun x_ : (Bool) × TL1Cur => (fun x : Bool => (dB x : D)) x_.1) (fun x_ : (Bool) × TL1Cur => (((0, 0), .box (encTL1Cur x_.2)) :: (fun x : Bool => ([] : List (Nm × OO))) x_.1)) [] (E := ⟨[c72], [], []⟩) (m := false) (base := 1000000) (Env.ok_cons c72_ok Env.ok_nil) G_ok mix 300 6 Try.func71 (by kernel_rfl) rfl (by kernel_rfl) (by kernel_rfl) (by kernel_rfl) rfl ?_
  simp [Try.f71, hc]
  by_cases h : v72 c n = 0
  · refine .inr ?_
    repeat' (with_reducible first | apply and_rev | apply Exists.intro | intro _)
    all_goals try dsimp only
    all_goals try with_reducible rfl
    all_goals try rfl
    all_goals (first | done | omega | assumption | (simp [*]; done) | (simp [*]; omega) | (simp [*]; grind) | trace_state)
  · refine .inl ?_
    repeat' (with_reducible first | apply and_rev | apply Exists.intro | intro _)
    all_goals try dsimp only
    all_goals try with_reducible rfl
    all_goals try rfl
    all_goals (first | done | omega | assumption | (simp [*]; done) | (simp [*]; omega) | (simp [*]; grind) | trace_state)
open Classical in
noncomputable def q71 (c : TL1Cur) (n : Int) : (Bool) × TL1Cur := if h : okCu c ∧ True then Classical.choose (c71_ex c n h.1 h.2) else (default, ⟨[], 0, 0⟩)
theorem q71_sp (c : TL1Cur) (n : Int) (hc : okCu c) (hp : True) : (fun x_ : (Bool) × TL1Cur => okCu x_.2 ∧ (fun x : Bool => True) x_.1) (q71 c n) ∧ PCo Try.prog 71 [.ptr (0, 0) 0, dI n] (Tab.of [((0, 0), .box (encTL1Cur c))]) ((fun x_ : (Bool) × TL1Cur => (fun x : Bool => (dB x : D)) x_.1) (q71 c n)) (Tab.of ((fun x_ : (Bool) × TL1Cur => (((0, 0), .box (encTL1Cur x_.2)) :: (fun x : Bool => ([] : List (Nm × OO))) x_.1)) (q71 c n))) := by
  have e : q71 c n = Classical.choose (c71_ex c n hc hp) := by rw [q71, dif_pos ⟨hc, hp⟩]
  rw [e]
  exact Classical.choose_spec (c71_ex c n hc hp)
noncomputable def v71 (c : TL1Cur) (n : Int) : Bool := (q71 c n).1
noncomputable def n71 (c : TL1Cur) (n : Int) : TL1Cur := (q71 c n).2
open Classical in
@[simp] theorem n71_ok (c : TL1Cur) (n : Int) : okCu (n71 c n) := by
  by_cases h : okCu c ∧ True
  · exact (q71_sp c n h.1 h.2).1.1
  · rw [n71, q71, dif_neg h]; exact ⟨by simp, by simp, by simp⟩
theorem v71_ok (c : TL1Cur) (n : Int) (hc : okCu c) (hp : True) : (fun x : Bool => True) (v71 c n) := (q71_sp c n hc hp).1.2
noncomputable def c71 : Con := mkCon 71 true (α := TL1Cur × Int) (fun x => (fun (c : TL1Cur) (n : Int) => ([.ptr (0, 0) 0, dI n] : List D)) x.1 x.2) (fun x => (fun (c : TL1Cur) (n : Int) => ([((0, 0), .box (encTL1Cur c))] : List (Nm × OO))) x.1 x.2) (fun x => (fun (c : TL1Cur) (n : Int) => okCu c ∧ True) x.1 x.2) (fun x => (fun (c : TL1Cur) (n : Int) => (fun x : Bool => (dB x : D)) (v71 c n)) x.1 x.2) (fun x => (fun (c : TL1Cur) (n : Int) => (((0, 0), .box (encTL1Cur (n71 c n))) :: (fun x : Bool => ([] : List (Nm × OO))) (v71 c n))) x.1 x.2)
@[simp] theorem c71_f : c71.f = 71 := rfl
@[simp] theorem c71_own : c71.own = true := rfl
theorem c71_inj : ∀ u_ v_ : TL1Cur × Int, ((fun x => (fun (c : TL1Cur) (n : Int) => ([.ptr (0, 0) 0, dI n] : List D)) x.1 x.2) u_).map nz = ((fun x => (fun (c : TL1Cur) (n : Int) => ([.ptr (0, 0) 0, dI n] : List D)) x.1 x.2) v_).map nz → (fun x => (fun (c : TL1Cur) (n : Int) => ([((0, 0), .box (encTL1Cur c))] : List (Nm × OO))) x.1 x.2) u_ = (fun x => (fun (c : TL1Cur) (n : Int) => ([((0, 0), .box (encTL1Cur c))] : List (Nm × OO))) x.1 x.2) v_ → u_ = v_ := by
  intro u_ v_ h h2_
  obtain ⟨⟨c_b_, c_i_, c_h_⟩, n⟩ := u_
  obtain ⟨⟨c_b_', c_i_', c_h_'⟩, n'⟩ := v_
  simp [nz_lit, nz1_lit, nz_agg, nz_sl, nz1_sl, nz_sx, nz_el, nz1_el, nz_own, nz1_own, nz_ptr, nz_fn, nz_iface] at h h2_
  first | (simp [h, h2_]; done) | (obtain ⟨h3_, h4_⟩ := List.append_inj h2_ h.1; simp_all; done) | simp_all | grind
@[simp] theorem c71_fn (c : TL1Cur) (n : Int) : c71.fn ([.ptr (0, 0) 0, .lit (.int .i64 n)]) ([((0, 0), .box (.agg [.sl false 1 (.lit (.int .u8 0)) (ML dU c.b_), .lit (.int .i64 c.i_), .lit (.int .i64 c.h_)]))]) = some (okCu c ∧ True, (fun x : Bool => (dB x : D)) (v71 c n), (((0, 0), .box (encTL1Cur (n71 c n))) :: (fun x : Bool => ([] : List (Nm × OO))) (v71 c n))) :=
  mkCon_fn c71_inj ((c, n) : TL1Cur × Int) rfl rfl
theorem c71_ok : c71.ok Try.prog := mkCon_ok fun ⟨c, n⟩ hpre => (q71_sp c n hpre.1 hpre.2).2
/-- loop.example/g03007/spec.l1Int -/
theorem c140_ex (c : TL1Cur) (l : List Int) (hc : okCu c) (hp : 0 < l.length ∧ l.length ≤ 1099511627776) : ∃ x_ : (Int) × TL1Cur, (fun x_ : (Int) × TL1Cur => okCu x_.2 ∧ (fun x : Int => x ∈ l) x_.1) x_ ∧ PCo Try.prog 140 [.ptr (0, 0) 0, encLI l] (Tab.of [((0, 0), .box (encTL1Cur c))]) ((fun x_ : (Int) × TL1Cur => (fun x : Int => (dI x : D)) x_.1) x_) (Tab.of ((fun x_ : (Int) × TL1Cur => (((0, 0), .box (encTL1Cur x_.2)) :: (fun x : Int => ([] : List (Nm × OO))) x_.1)) x_)) := by
  refine pco_ex_of_run (fun x_ : (Int) × TL1Cur => okCu x_.2 ∧ (fun x : Int => x ∈ l) x_.1) (fun x_ : (Int) × TL1Cur => (fun x : Int => (dI x : D)) x_.1) (fun x_ : (Int) × TL1Cur => (((0, 0), .box (encTL1Cur x_.2)) :: (fun x : Int => ([] : List (Nm × OO))) x_.1)) [] (E := ⟨[c72], [], []⟩) (m := false) (base := 1000000) (Env.ok_cons c72_ok Env.ok_nil) G_ok mix 300 6 Try.func140 (by kernel_rfl) rfl (by kernel_rfl) (by kernel_rfl) (by kernel_rfl) rfl ?_
  simp [Try.f140, hc, hp]
  have hb := v72_ok c l.length hc trivial (by omega)
  have hm : l[(v72 c l.length).toNat]?.getD 0 ∈ l := getD_mem (by omega)
  repeat' (with_reducible first | apply and_rev | apply Exists.intro | intro _)
  all_goals try dsimp only
  all_goals try with_reducible rfl
  all_goals try rfl
  all_goals (first | done | omega | assumption | (simp [*]; done) | (simp [*]; omega) | (simp [*]; grind) | trace_state)
open Classical in
noncomputable def q140 (c : TL1Cur) (l : List Int) : (Int) × TL1Cur := if h : okCu c ∧ 0 < l.length ∧ l.length ≤ 1099511627776 then Classical.choose (c140_ex c l h.1 h.2) else (default, ⟨[], 0, 0⟩)
theorem q140_sp (c : TL1Cur) (l : List Int) (hc : okCu c) (hp : 0 < l.length ∧ l.length ≤ 1099511627776) : (fun x_ : (Int) × TL1Cur => okCu x_.2 ∧ (fun x : Int => x ∈ l) x_.1) (q140 c l) ∧ PCo Try.prog 140 [.ptr (0, 0) 0, encLI l] (Tab.of [((0, 0), .box (encTL1Cur c))]) ((fun x_ : (Int) × TL1Cur => (fun x : Int => (dI x : D)) x_.1) (q140 c l)) (Tab.of ((fun x_ : (Int) × TL1Cur => (((0, 0), .box (encTL1Cur x_.2)) :: (fun x : Int => ([] : List (Nm × OO))) x_.1)) (q140 c l))) := by
  have e : q140 c l = Classical.choose (c140_ex c l hc hp) := by rw [q140, dif_pos ⟨hc, hp⟩]
  rw [e]
  exact Classical.choose_spec (c140_ex c l hc hp)
noncomputable def v140 (c : TL1Cur) (l : List Int) : Int := (q140 c l).1
noncomputable def n140 (c : TL1Cur) (l : List Int) : TL1Cur := (q140 c l).2
open Classical in
@[simp] theorem n140_ok (c : TL1Cur) (l : List Int) : okCu (n140 c l) := by
  by_cases h : okCu c ∧ 0 < l.length ∧ l.length ≤ 1099511627776
  · exact (q140_sp c l h.1 h.2).1.1
  · rw [n140, q140, dif_neg h]; exact ⟨by simp, by simp, by simp⟩
theorem v140_ok (c : TL1Cur) (l : List Int) (hc : okCu c) (hp : 0 < l.length ∧ l.length ≤ 1099511627776) : (fun x : Int => x ∈ l) (v140 c l) := (q140_sp c l hc hp).1.2
noncomputable def c140 : Con := mkCon 140 true (α := TL1Cur × (List Int)) (fun x => (fun (c : TL1Cur) (l : List Int) => ([.ptr (0, 0) 0, encLI l] : List D)) x.1 x.2) (fun x => (fun (c : TL1Cur) (l : List Int) => ([((0, 0), .box (encTL1Cur c))] : List (Nm × OO))) x.1 x.2) (fun x => (fun (c : TL1Cur) (l : List Int) => okCu c ∧ 0 < l.length ∧ l.length ≤ 1099511627776) x.1 x.2) (fun x => (fun (c : TL1Cur) (l : List Int) => (fun x : Int => (dI x : D)) (v140 c l)) x.1 x.2) (fun x => (fun (c : TL1Cur) (l : List Int) => (((0, 0), .box (encTL1Cur (n140 c l))) :: (fun x : Int => ([] : List (Nm × OO))) (v140 c l))) x.1 x.2)
@[simp] theorem c140_f : c140.f = 140 := rfl
@[simp] theorem c140_own : c140.own = true := rfl
theorem c140_inj : ∀ u_ v_ : TL1Cur × (List Int), ((fun x => (fun (c : TL1Cur) (l : List Int) => ([.ptr (0, 0) 0, encLI l] : List D)) x.1 x.2) u_).map nz = ((fun x => (fun (c : TL1Cur) (l : List Int) => ([.ptr (0, 0) 0, encLI l] : List D)) x.1 x.2) v_).map nz → (fun x => (fun (c : TL1Cur) (l : List Int) => ([((0, 0), .box (encTL1Cur c))] : List (Nm × OO))) x.1 x.2) u_ = (fun x => (fun (c : TL1Cur) (l : List Int) => ([((0, 0), .box (encTL1Cur c))] : List (Nm × OO))) x.1 x.2) v_ → u_ = v_ := by
  intro u_ v_ h h2_
  obtain ⟨⟨c_b_, c_i_, c_h_⟩, l⟩ := u_
  obtain ⟨⟨c_b_', c_i_', c_h_'⟩, l'⟩ := v_
  simp [nz_lit, nz1_lit, nz_agg, nz_sl, nz1_sl, nz_sx, nz_el, nz1_el, nz_own, nz1_own, nz_ptr, nz_fn, nz_iface] at h h2_
  first | (simp [h, h2_]; done) | (obtain ⟨h3_, h4_⟩ := List.append_inj h2_ h.1; simp_all; done) | simp_all | grind
@[simp] theorem c140_fn (c : TL1Cur) (l : List Int) : c140.fn ([.ptr (0, 0) 0, (.sl false 1 (.lit (.int .i64 0)) (ML dI l))]) ([((0, 0), .box (.agg [.sl false 1 (.lit (.int .u8 0)) (ML dU c.b_), .lit (.int .i64 c.i_), .lit (.int .i64 c.h_)]))]) = some (okCu c ∧ 0 < l.length ∧ l.length ≤ 1099511627776, (fun x : Int => (dI x : D)) (v140 c l), (((0, 0), .box (encTL1Cur (n140 c l))) :: (fun x : Int => ([] : List (Nm × OO))) (v140 c l))) :=
  mkCon_fn c140_inj ((c, l) : TL1Cur × (List Int)) rfl rfl
theorem c140_ok : c140.ok Try.prog := mkCon_ok fun ⟨c, l⟩ hpre => (q140_sp c l hpre.1 hpre.2).2
/-- loop.example/g03007/spec.l1New -/
theorem c68_ex (l : List Int) (hp : l.length ≤ 2097152) : ∃ x_ : TL1Cur, (fun x : TL1Cur => okCu x) x_ ∧ PCo Try.prog 68 [encLU l] (Tab.of []) ((fun x : TL1Cur => (.ptr (0, 1) 0 : D)) x_) (Tab.of ((fun x : TL1Cur => ([((0, 1), .box (encTL1Cur x))] : List (Nm × OO))) x_)) := by
  exact ⟨newC l, okCu_new hp, c68f_pc l hp⟩
open Classical in
noncomputable def q68 (l : List Int) : TL1Cur := if h : l.length ≤ 2097152 then Classical.choose (c68_ex l h) else default
theorem q68_sp (l : List Int) (hp : l.length ≤ 2097152) : (fun x : TL1Cur => okCu x) (q68 l) ∧ PCo Try.prog 68 [encLU l] (Tab.of []) ((fun x : TL1Cur => (.ptr (0, 1) 0 : D)) (q68 l)) (Tab.of ((fun x : TL1Cur => ([((0, 1), .box (encTL1Cur x))] : List (Nm × OO))) (q68 l))) := by
  have e : q68 l = Classical.choose (c68_ex l hp) := by rw [q68, dif_pos hp]
  rw [e]
  exact Classical.choose_spec (c68_ex l hp)
noncomputable def v68 (l : List Int) : TL1Cur := q68 l
theorem v68_ok (l : List Int) (hp : l.length ≤ 2097152) : (fun x : TL1Cur => okCu x) (v68 l) := (q68_sp l hp).1
noncomputable def c68 : Con := mkCon 68 false (α := (List Int)) (fun x => (fun (l : List Int) => ([encLU l] : List D)) x) (fun x => (fun (l : List Int) => ([] : List (Nm × OO))) x) (fun x => (fun (l : List Int) => l.length ≤ 2097152) x) (fun x => (fun (l : List Int) => (fun x : TL1Cur => (.ptr (0, 1) 0 : D)) (v68 l)) x) (fun x => (fun (l : List Int) => (fun x : TL1Cur => ([((0, 1), .box (encTL1Cur x))] : List (Nm × OO))) (v68 l)) x)
@[simp] theorem c68_f : c68.f = 68 := rfl
@[simp] theorem c68_own : c68.own = false := rfl
theorem c68_inj : ∀ u_ v_ : (List Int), ((fun x => (fun (l : List Int) => ([encLU l] : List D)) x) u_).map nz = ((fun x => (fun (l : List Int) => ([encLU l] : List D)) x) v_).map nz → (fun x => (fun (l : List Int) => ([] : List (Nm × OO))) x) u_ = (fun x => (fun (l : List Int) => ([] : List (Nm × OO))) x) v_ → u_ = v_ := by
  intro u_ v_ h h2_
  obtain l := u_
  obtain l' := v_
  simp [nz_lit, nz1_lit, nz_agg, nz_sl, nz1_sl, nz_sx, nz_el, nz1_el, nz_own, nz1_own, nz_ptr, nz_fn, nz_iface] at h h2_
  first | (simp [h, h2_]; done) | (obtain ⟨h3_, h4_⟩ := List.append_inj h2_ h.1; simp_all; done) | simp_all | grind
@[simp] theorem c68_fn (l : List Int) : c68.fn ([(.sl false 1 (.lit (.int .u8 0)) (ML dU l))]) ([]) = some (l.length ≤ 2097152, (fun x : TL1Cur => (.ptr (0, 1) 0 : D)) (v68 l), (fun x : TL1Cur => ([((0, 1), .box (encTL1Cur x))] : List (Nm × OO))) (v68 l)) :=
  mkCon_fn c68_inj (l : (List Int)) rfl rfl
theorem c68_ok : c68.ok Try.prog := mkCon_ok fun l hpre => (q68_sp l hpre).2
@[simp] theorem l1Int_fn2 (c : TL1Cur) (a0 a1 : Int) : c140.fn [.ptr (0, 0) 0, .sl false 1 (.lit (.int .i64 0)) [.lit (.int .i64 a0), .lit (.int .i64 a1)]] [((0, 0), .box (.agg [.sl false 1 (.lit (.int .u8 0)) (ML dU c.b_), .lit (.int .i64 c.i_), .lit (.int .i64 c.h_)]))] = some (okCu c ∧ 0 < ([a0, a1] : List Int).length ∧ ([a0, a1] : List Int).length ≤ 1099511627776, dI (v140 c [a0, a1]), [((0, 0), .box (encTL1Cur (n140 c [a0, a1])))]) := c140_fn c [a0, a1]
@[simp] theorem l1Int_fn3 (c : TL1Cur) (a0 a1 a2 : Int) : c140.fn [.ptr (0, 0) 0, .sl false 1 (.lit (.int .i64 0)) [.lit (.int .i64 a0), .lit (.int .i64 a1), .lit (.int .i64 a2)]] [((0, 0), .box (.agg [.sl false 1 (.lit (.int .u8 0)) (ML dU c.b_), .lit (.int .i64 c.i_), .lit (.int .i64 c.h_)]))] = some (okCu c ∧ 0 < ([a0, a1, a2] : List Int).length ∧ ([a0, a1, a2] : List Int).length ≤ 1099511627776, dI (v140 c [a0, a1, a2]), [((0, 0), .box (encTL1Cur (n140 c [a0, a1, a2])))]) := c140_fn c [a0, a1, a2]
@[simp] theorem l1Int_fn4 (c : TL1Cur) (a0 a1 a2 a3 : Int) : c140.fn [.ptr (0, 0) 0, .sl false 1 (.lit (.int .i64 0)) [.lit (.int .i64 a0), .lit (.int .i64 a1), .lit (.int .i64 a2), .lit (.int .i64 a3)]] [((0, 0), .box (.agg [.sl false 1 (.lit (.int .u8 0)) (ML dU c.b_), .lit (.int .i64 c.i_), .lit (.int .i64 c.h_)]))] = some (okCu c ∧ 0 < ([a0, a1, a2, a3] : List Int).length ∧ ([a0, a1, a2, a3] : List Int).length ≤ 1099511627776, dI (v140 c [a0, a1, a2, a3]), [((0, 0), .box (encTL1Cur (n140 c [a0, a1, a2, a3])))]) := c140_fn c [a0, a1, a2, a3]
@[simp] theorem l1Int_fn5 (c : TL1Cur) (a0 a1 a2 a3 a4 : Int) : c140.fn [.ptr (0, 0) 0, .sl false 1 (.lit (.int .i64 0)) [.lit (.int .i64 a0), .lit (.int .i64 a1), .lit (.int .i64 a2), .lit (.int .i64 a3), .lit (.int .i64 a4)]] [((0, 0), .box (.agg [.sl false 1 (.lit (.int .u8 0)) (ML dU c.b_), .lit (.int .i64 c.i_), .lit (.int .i64 c.h_)]))] = some (okCu c ∧ 0 < ([a0, a1, a2, a3, a4] : List Int).length ∧ ([a0, a1, a2, a3, a4] : List Int).length ≤ 1099511627776, dI (v140 c [a0, a1, a2, a3, a4]), [((0, 0), .box (encTL1Cur (n140 c [a0, a1, a2, a3, a4])))]) := c140_fn c [a0, a1, a2, a3, a4]
@[simp] theorem l1Int_fn6 (c : TL1Cur) (a0 a1 a2 a3 a4 a5 : Int) : c140.fn [.ptr (0, 0) 0, .sl false 1 (.lit (.int .i64 0)) [.lit (.int .i64 a0), .lit (.int .i64 a1), .lit (.int .i64 a2), .lit (.int .i64 a3), .lit (.int .i64 a4), .lit (.int .i64 a5)]] [((0, 0), .box (.agg [.sl false 1 (.lit (.int .u8 0)) (ML dU c.b_), .lit (.int .i64 c.i_), .lit (.int .i64 c.h_)]))] = some (okCu c ∧ 0 < ([a0, a1, a2, a3, a4, a5] : List Int).length ∧ ([a0, a1, a2, a3, a4, a5] : List Int).length ≤ 1099511627776, dI (v140 c [a0, a1, a2, a3, a4, a5]), [((0, 0), .box (encTL1Cur (n140 c [a0, a1, a2, a3, a4, a5])))]) := c140_fn c [a0, a1, a2, a3, a4, a5]
@[simp] theorem l1Int_fn7 (c : TL1Cur) (a0 a1 a2 a3 a4 a5 a6 : Int) : c140.fn [.ptr (0, 0) 0, .sl false 1 (.lit (.int .i64 0)) [.lit (.int .i64 a0), .lit (.int .i64 a1), .lit (.int .i64 a2), .lit (.int .i64 a3), .lit (.int .i64 a4), .lit (.int .i64 a5), .lit (.int .i64 a6)]] [((0, 0), .box (.agg [.sl false 1 (.lit (.int .u8 0)) (ML dU c.b_), .lit (.int .i64 c.i_), .lit (.int .i64 c.h_)]))] = some (okCu c ∧ 0 < ([a0, a1, a2, a3, a4, a5, a6] : List Int).length ∧ ([a0, a1, a2, a3, a4, a5, a6] : List Int).length ≤ 1099511627776, dI (v140 c [a0, a1, a2, a3, a4, a5, a6]), [((0, 0), .box (encTL1Cur (n140 c [a0, a1, a2, a3, a4, a5, a6])))]) := c140_fn c [a0, a1, a2, a3, a4, a5, a6]
@[simp] theorem l1Int_fn8 (c : TL1Cur) (a0 a1 a2 a3 a4 a5 a6 a7 : Int) : c140.fn [.ptr (0, 0) 0, .sl false 1 (.lit (.int .i64 0)) [.lit (.int .i64 a0), .lit (.int .i64 a1), .lit (.int .i64 a2), .lit (.int .i64 a3), .lit (.int .i64 a4), .lit (.int .i64 a5), .lit (.int .i64 a6), .lit (.int .i64 a7)]] [((0, 0), .box (.agg [.sl false 1 (.lit (.int .u8 0)) (ML dU c.b_), .lit (.int .i64 c.i_), .lit (.int .i64 c.h_)]))] = some (okCu c ∧ 0 < ([a0, a1, a2, a3, a4, a5, a6, a7] : List Int).length ∧ ([a0, a1, a2, a3, a4, a5, a6, a7] : List Int).length ≤ 1099511627776, dI (v140 c [a0, a1, a2, a3, a4, a5, a6, a7]), [((0, 0), .box (encTL1Cur (n140 c [a0, a1, a2, a3, a4, a5, a6, a7])))]) := c140_fn c [a0, a1, a2, a3, a4, a5, a6, a7]
@[simp] theorem l1Int_fn9 (c : TL1Cur) (a0 a1 a2 a3 a4 a5 a6 a7 a8 : Int) : c140.fn [.ptr (0, 0) 0, .sl false 1 (.lit (.int .i64 0)) [.lit (.int .i64 a0), .lit (.int .i64 a1), .lit (.int .i64 a2), .lit (.int .i64 a3), .lit (.int .i64 a4), .lit (.int .i64 a5), .lit (.int .i64 a6), .lit (.int .i64 a7), .lit (.int .i64 a8)]] [((0, 0), .box (.agg [.sl false 1 (.lit (.int .u8 0)) (ML dU c.b_), .lit (.int .i64 c.i_), .lit (.int .i64 c.h_)]))] = some (okCu c ∧ 0 < ([a0, a1, a2, a3, a4, a5, a6, a7, a8] : List Int).length ∧ ([a0, a1, a2, a3, a4, a5, a6, a7, a8] : List Int).length ≤ 1099511627776, dI (v140 c [a0, a1, a2, a3, a4, a5, a6, a7, a8]), [((0, 0), .box (encTL1Cur (n140 c [a0, a1, a2, a3, a4, a5, a6, a7, a8])))]) := c140_fn c [a0, a1, a2, a3, a4, a5, a6, a7, a8]
@[simp] theorem l1Int_fn10 (c : TL1Cur) (a0 a1 a2 a3 a4 a5 a6 a7 a8 a9 : Int) : c140.fn [.ptr (0, 0) 0, .sl false 1 (.lit (.int .i64 0)) [.lit (.int .i64 a0), .lit (.int .i64 a1), .lit (.int .i64 a2), .lit (.int .i64 a3), .lit (.int .i64 a4), .lit (.int .i64 a5), .lit (.int .i64 a6), .lit (.int .i64 a7), .lit (.int .i64 a8), .lit (.int .i64 a9)]] [((0, 0), .box (.agg [.sl false 1 (.lit (.int .u8 0)) (ML dU c.b_), .lit (.int .i64 c.i_), .lit (.int .i64 c.h_)]))] = some (okCu c ∧ 0 < ([a0, a1, a2, a3, a4, a5, a6, a7, a8, a9] : List Int).length ∧ ([a0, a1, a2, a3, a4, a5, a6, a7, a8, a9] : List Int).length ≤ 1099511627776, dI (v140 c [a0, a1, a2, a3, a4, a5, a6, a7, a8, a9]), [((0, 0), .box (encTL1Cur (n140 c [a0, a1, a2, a3, a4, a5, a6, a7, a8, a9])))]) := c140_fn c [a0, a1, a2, a3, a4, a5, a6, a7, a8, a9]
@[simp] theorem l1Int_fn11 (c : TL1Cur) (a0 a1 a2 a3 a4 a5 a6 a7 a8 a9 a10 : Int) : c140.fn [.ptr (0, 0) 0, .sl false 1 (.lit (.int .i64 0)) [.lit (.int .i64 a0), .lit (.int .i64 a1), .lit (.int .i64 a2), .lit (.int .i64 a3), .lit (.int .i64 a4), .lit (.int .i64 a5), .lit (.int .i64 a6), .lit (.int .i64 a7), .lit (.int .i64 a8), .lit (.int .i64 a9), .lit (.int .i64 a10)]] [((0, 0), .box (.agg [.sl false 1 (.lit (.int .u8 0)) (ML dU c.b_), .lit (.int .i64 c.i_), .lit (.int .i64 c.h_)]))] = some (okCu c ∧ 0 < ([a0, a1, a2, a3, a4, a5, a6, a7, a8, a9, a10] : List Int).length ∧ ([a0, a1, a2, a3, a4, a5, a6, a7, a8, a9, a10] : List Int).length ≤ 1099511627776, dI (v140 c [a0, a1, a2, a3, a4, a5, a6, a7, a8, a9, a10]), [((0, 0), .box (encTL1Cur (n140 c [a0, a1, a2, a3, a4, a5, a6, a7, a8, a9, a10])))]) := c140_fn c [a0, a1, a2, a3, a4, a5, a6, a7, a8, a9, a10]
@[simp] theorem l1Int_fn12 (c : TL1Cur) (a0 a1 a2 a3 a4 a5 a6 a7 a8 a9 a10 a11 : Int) : c140.fn [.ptr (0, 0) 0, .sl false 1 (.lit (.int .i64 0)) [.lit (.int .i64 a0), .lit (.int .i64 a1), .lit (.int .i64 a2), .lit (.int .i64 a3), .lit (.int .i64 a4), .lit (.int .i64 a5), .lit (.int .i64 a6), .lit (.int .i64 a7), .lit (.int .i64 a8), .lit (.int .i64 a9), .lit (.int .i64 a10), .lit (.int .i64 a11)]] [((0, 0), .box (.agg [.sl false 1 (.lit (.int .u8 0)) (ML dU c.b_), .lit (.int .i64 c.i_), .lit (.int .i64 c.h_)]))] = some (okCu c ∧ 0 < ([a0, a1, a2, a3, a4, a5, a6, a7, a8, a9, a10, a11] : List Int).length ∧ ([a0, a1, a2, a3, a4, a5, a6, a7, a8, a9, a10, a11] : List Int).length ≤ 1099511627776, dI (v140 c [a0, a1, a2, a3, a4, a5, a6, a7, a8, a9, a10, a11]), [((0, 0), .box (encTL1Cur (n140 c [a0, a1, a2, a3, a4, a5, a6, a7, a8, a9, a10, a11])))]) := c140_fn c [a0, a1, a2, a3, a4, a5, a6, a7, a8, a9, a10, a11]
@[simp] theorem l1Int_fn13 (c : TL1Cur) (a0 a1 a2 a3 a4 a5 a6 a7 a8 a9 a10 a11 a12 : Int) : c140.fn [.ptr (0, 0) 0, .sl false 1 (.lit (.int .i64 0)) [.lit (.int .i64 a0), .lit (.int .i64 a1), .lit (.int .i64 a2), .lit (.int .i64 a3), .lit (.int .i64 a4), .lit (.int .i64 a5), .lit (.int .i64 a6), .lit (.int .i64 a7), .lit (.int .i64 a8), .lit (.int .i64 a9), .lit (.int .i64 a10), .lit (.int .i64 a11), .lit (.int .i64 a12)]] [((0, 0), .box (.agg [.sl false 1 (.lit (.int .u8 0)) (ML dU c.b_), .lit (.int .i64 c.i_), .lit (.int .i64 c.h_)]))] = some (okCu c ∧ 0 < ([a0, a1, a2, a3, a4, a5, a6, a7, a8, a9, a10, a11, a12] : List Int).length ∧ ([a0, a1, a2, a3, a4, a5, a6, a7, a8, a9, a10, a11, a12] : List Int).length ≤ 1099511627776, dI (v140 c [a0, a1, a2, a3, a4, a5, a6, a7, a8, a9, a10, a11, a12]), [((0, 0), .box (encTL1Cur (n140 c [a0, a1, a2, a3, a4, a5, a6, a7, a8, a9, a10, a11, a12])))]) := c140_fn c [a0, a1, a2, a3, a4, a5, a6, a7, a8, a9, a10, a11, a12]
@[simp] theorem l1Int_fn14 (c : TL1Cur) (a0 a1 a2 a3 a4 a5 a6 a7 a8 a9 a10 a11 a12 a13 : Int) : c140.fn [.ptr (0, 0) 0, .sl false 1 (.lit (.int .i64 0)) [.lit (.int .i64 a0), .lit (.int .i64 a1), .lit (.int .i64 a2), .lit (.int .i64 a3), .lit (.int .i64 a4), .lit (.int .i64 a5), .lit (.int .i64 a6), .lit (.int .i64 a7), .lit (.int .i64 a8), .lit (.int .i64 a9), .lit (.int .i64 a10), .lit (.int .i64 a11), .lit (.int .i64 a12), .lit (.int .i64 a13)]] [((0, 0), .box (.agg [.sl false 1 (.lit (.int .u8 0)) (ML dU c.b_), .lit (.int .i64 c.i_), .lit (.int .i64 c.h_)]))] = some (okCu c ∧ 0 < ([a0, a1, a2, a3, a4, a5, a6, a7, a8, a9, a10, a11, a12, a13] : List Int).length ∧ ([a0, a1, a2, a3, a4, a5, a6, a7, a8, a9, a10, a11, a12, a13] : List Int).length ≤ 1099511627776, dI (v140 c [a0, a1, a2, a3, a4, a5, a6, a7, a8, a9, a10, a11, a12, a13]), [((0, 0), .box (encTL1Cur (n140 c [a0, a1, a2, a3, a4, a5, a6, a7, a8, a9, a10, a11, a12, a13])))]) := c140_fn c [a0, a1, a2, a3, a4, a5, a6, a7, a8, a9, a10, a11, a12, a13]

end Go.Proofs.Ytpnfkjbnhholfaa
