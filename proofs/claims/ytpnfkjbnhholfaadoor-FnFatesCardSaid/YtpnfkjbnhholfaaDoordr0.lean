/- Contracts of the functions that the laws run. -/
import Derived.Test.YtpnfkjbnhholfaaDoorEngB
import Derived.Test.YtpnfkjbnhholfaaDoorEngB
import Derived.Test.YtpnfkjbnhholfaaDoordr00
import Derived.Test.YtpnfkjbnhholfaaDoorEngB
namespace Go.Proofs.YtpnfkjbnhholfaaDoor
open Go Go.Eng
set_option linter.unusedSimpArgs false
set_option linter.unusedVariables false
set_option maxRecDepth 10000
set_option maxHeartbeats 1000000
/-- loop.example/g03007/spec.l1Below -/
theorem c52_ex (c : TL1Cur) (n : Int) (hc : okCu c) (hp : True) : ∃ x_ : (Int) × TL1Cur, (fun x_ : (Int) × TL1Cur => okCu x_.2 ∧ (fun x : Int => 0 < n → 0 ≤ x ∧ x < n) x_.1) x_ ∧ PCo Tryd.prog 52 [.ptr (0, 0) 0, dI n] (Tab.of [((0, 0), .box (encTL1Cur c))]) ((fun x_ : (Int) × TL1Cur => (fun x : Int => (dI x : D)) x_.1) x_) (Tab.of ((fun x_ : (Int) × TL1Cur => (((0, 0), .box (encTL1Cur x_.2)) :: (fun x : Int => ([] : List (Nm × OO))) x_.1)) x_)) := by
  exact ⟨(bV c n, bN c n), ⟨okCu_bN hc n, bV_bd c n⟩, c52_z_pc c n hc⟩
open Classical in
noncomputable def q52 (c : TL1Cur) (n : Int) : (Int) × TL1Cur := if h : okCu c ∧ True then Classical.choose (c52_ex c n h.1 h.2) else (default, ⟨[], 0, 0⟩)
theorem q52_sp (c : TL1Cur) (n : Int) (hc : okCu c) (hp : True) : (fun x_ : (Int) × TL1Cur => okCu x_.2 ∧ (fun x : Int => 0 < n → 0 ≤ x ∧ x < n) x_.1) (q52 c n) ∧ PCo Tryd.prog 52 [.ptr (0, 0) 0, dI n] (Tab.of [((0, 0), .box (encTL1Cur c))]) ((fun x_ : (Int) × TL1Cur => (fun x : Int => (dI x : D)) x_.1) (q52 c n)) (Tab.of ((fun x_ : (Int) × TL1Cur => (((0, 0), .box (encTL1Cur x_.2)) :: (fun x : Int => ([] : List (Nm × OO))) x_.1)) (q52 c n))) := by
  have e : q52 c n = Classical.choose (c52_ex c n hc hp) := by rw [q52, dif_pos ⟨hc, hp⟩]
  rw [e]
  exact Classical.choose_spec (c52_ex c n hc hp)
noncomputable def v52 (c : TL1Cur) (n : Int) : Int := (q52 c n).1
noncomputable def n52 (c : TL1Cur) (n : Int) : TL1Cur := (q52 c n).2
open Classical in
@[simp] theorem n52_ok (c : TL1Cur) (n : Int) : okCu (n52 c n) := by
  by_cases h : okCu c ∧ True
  · exact (q52_sp c n h.1 h.2).1.1
  · rw [n52, q52, dif_neg h]; exact ⟨by simp, by simp, by simp⟩
theorem v52_ok (c : TL1Cur) (n : Int) (hc : okCu c) (hp : True) : (fun x : Int => 0 < n → 0 ≤ x ∧ x < n) (v52 c n) := (q52_sp c n hc hp).1.2
noncomputable def c52 : Con := mkCon 52 true (α := TL1Cur × Int) (fun x => (fun (c : TL1Cur) (n : Int) => ([.ptr (0, 0) 0, dI n] : List D)) x.1 x.2) (fun x => (fun (c : TL1Cur) (n : Int) => ([((0, 0), .box (encTL1Cur c))] : List (Nm × OO))) x.1 x.2) (fun x => (fun (c : TL1Cur) (n : Int) => okCu c ∧ True) x.1 x.2) (fun x => (fun (c : TL1Cur) (n : Int) => (fun x : Int => (dI x : D)) (v52 c n)) x.1 x.2) (fun x => (fun (c : TL1Cur) (n : Int) => (((0, 0), .box (encTL1Cur (n52 c n))) :: (fun x : Int => ([] : List (Nm × OO))) (v52 c n))) x.1 x.2)
@[simp] theorem c52_f : c52.f = 52 := rfl
@[simp] theorem c52_own : c52.own = true := rfl
theorem c52_inj : ∀ u_ v_ : TL1Cur × Int, ((fun x => (fun (c : TL1Cur) (n : Int) => ([.ptr (0, 0) 0, dI n] : List D)) x.1 x.2) u_).map nz = ((fun x => (fun (c : TL1Cur) (n : Int) => ([.ptr (0, 0) 0, dI n] : List D)) x.1 x.2) v_).map nz → (fun x => (fun (c : TL1Cur) (n : Int) => ([((0, 0), .box (encTL1Cur c))] : List (Nm × OO))) x.1 x.2) u_ = (fun x => (fun (c : TL1Cur) (n : Int) => ([((0, 0), .box (encTL1Cur c))] : List (Nm × OO))) x.1 x.2) v_ → u_ = v_ := by
  intro u_ v_ h h2_
  obtain ⟨⟨c_b_, c_i_, c_h_⟩, n⟩ := u_
  obtain ⟨⟨c_b_', c_i_', c_h_'⟩, n'⟩ := v_
  simp [nz_lit, nz1_lit, nz_agg, nz_sl, nz1_sl, nz_sx, nz_el, nz1_el, nz_own, nz1_own, nz_ptr, nz_fn, nz_iface] at h h2_
  first | (simp [h, h2_]; done) | (obtain ⟨h3_, h4_⟩ := List.append_inj h2_ h.1; simp_all; done) | simp_all | grind
@[simp] theorem c52_fn (c : TL1Cur) (n : Int) : c52.fn ([.ptr (0, 0) 0, .lit (.int .i64 n)]) ([((0, 0), .box (.agg [.sl false 1 (.lit (.int .u8 0)) (ML dU c.b_), .lit (.int .i64 c.i_), .lit (.int .i64 c.h_)]))]) = some (okCu c ∧ True, (fun x : Int => (dI x : D)) (v52 c n), (((0, 0), .box (encTL1Cur (n52 c n))) :: (fun x : Int => ([] : List (Nm × OO))) (v52 c n))) :=
  mkCon_fn c52_inj ((c, n) : TL1Cur × Int) rfl rfl
theorem c52_ok : c52.ok Tryd.prog := mkCon_ok fun ⟨c, n⟩ hpre => (q52_sp c n hpre.1 hpre.2).2
theorem below_bd (c : TL1Cur) (n : Int) (h : 0 < n) : 0 ≤ v52 c n ∧ v52 c n < n := by
  by_cases hc : okCu c
  · exact v52_ok c n hc trivial h
  · have e : v52 c n = 0 := by
      rw [v52, q52, dif_neg (fun h => hc h.1)]; rfl
    rw [e]; omega
noncomputable def wBelow (c : TL1Cur) (n : Int) : Int := v52 c n
theorem below_eq (c : TL1Cur) (n : Int) (h : 0 < n) : v52 c n = wBelow c n % n := by
  have := below_bd c n h
  rw [wBelow, Int.emod_eq_of_lt this.1 this.2]
/-- loop.example/g03007/spec.l1Once -/
theorem c37_ex (c : TL1Cur) (n : Int) (hc : okCu c) (hp : True) : ∃ x_ : (Bool) × TL1Cur, (fun x_ : (Bool) × TL1Cur => okCu x_.2 ∧ (fun x : Bool => True) x_.1) x_ ∧ PCo Tryd.prog 37 [.ptr (0, 0) 0, dI n] (Tab.of [((0, 0), .box (encTL1Cur c))]) ((fun x_ : (Bool) × TL1Cur => (fun x : Bool => (dB x : D)) x_.1) x_) (Tab.of ((fun x_ : (Bool) × TL1Cur => (((0, 0), .box (encTL1Cur x_.2)) :: (fun x : Bool => ([] : List (Nm × OO))) x_.1)) x_)) := by
  refine pco_ex_of_run (fun x_ : (Bool) × TL1Cur => okCu x_.2 ∧ (fun x : Bool => True) x_.1) (fun x_ : (Bool) × TL1Cur => (fun x : Bool => (dB x : D)) x_.1) (fun x_ : (Bool) × TL1Cur => (((0, 0), .box (encTL1Cur x_.2)) :: (fun x : Bool => ([] : List (Nm × OO))) x_.1)) [] (E := ⟨[c52], [], []⟩) (m := false) (base := 1000000) (Env.ok_cons c52_ok Env.ok_nil) G_ok mix 300 6 Tryd.func37 (by kernel_rfl) rfl (by kernel_rfl) (by kernel_rfl) (by kernel_rfl) rfl ?_
  simp [Tryd.f37, hc]
  by_cases h : v52 c n = 0
  · refine .inr ?_
    repeat' (with_reducible first | apply and_rev | apply Exists.intro | intro _)
    all_goals try dsimp only
    all_goals try with_reducible rfl
    all_goals try rfl
    all_goals (first | done | omega | assumption | exact List.length_pos_iff.2 (by assumption) | (simp [*]; done) | (simp [*]; omega) | (simp [*]; grind) | trace_state)
  · refine .inl ?_
    repeat' (with_reducible first | apply and_rev | apply Exists.intro | intro _)
    all_goals try dsimp only
    all_goals try with_reducible rfl
    all_goals try rfl
    all_goals (first | done | omega | assumption | exact List.length_pos_iff.2 (by assumption) | (simp [*]; done) | (simp [*]; omega) | (simp [*]; grind) | trace_state)
open Classical in
noncomputable def q37 (c : TL1Cur) (n : Int) : (Bool) × TL1Cur := if h : okCu c ∧ True then Classical.choose (c37_ex c n h.1 h.2) else (default, ⟨[], 0, 0⟩)
theorem q37_sp (c : TL1Cur) (n : Int) (hc : okCu c) (hp : True) : (fun x_ : (Bool) × TL1Cur => okCu x_.2 ∧ (fun x : Bool => True) x_.1) (q37 c n) ∧ PCo Tryd.prog 37 [.ptr (0, 0) 0, dI n] (Tab.of [((0, 0), .box (encTL1Cur c))]) ((fun x_ : (Bool) × TL1Cur => (fun x : Bool => (dB x : D)) x_.1) (q37 c n)) (Tab.of ((fun x_ : (Bool) × TL1Cur => (((0, 0), .box (encTL1Cur x_.2)) :: (fun x : Bool => ([] : List (Nm × OO))) x_.1)) (q37 c n))) := by
  have e : q37 c n = Classical.choose (c37_ex c n hc hp) := by rw [q37, dif_pos ⟨hc, hp⟩]
  rw [e]
  exact Classical.choose_spec (c37_ex c n hc hp)
noncomputable def v37 (c : TL1Cur) (n : Int) : Bool := (q37 c n).1
noncomputable def n37 (c : TL1Cur) (n : Int) : TL1Cur := (q37 c n).2
open Classical in
@[simp] theorem n37_ok (c : TL1Cur) (n : Int) : okCu (n37 c n) := by
  by_cases h : okCu c ∧ True
  · exact (q37_sp c n h.1 h.2).1.1
  · rw [n37, q37, dif_neg h]; exact ⟨by simp, by simp, by simp⟩
theorem v37_ok (c : TL1Cur) (n : Int) (hc : okCu c) (hp : True) : (fun x : Bool => True) (v37 c n) := (q37_sp c n hc hp).1.2
noncomputable def c37 : Con := mkCon 37 true (α := TL1Cur × Int) (fun x => (fun (c : TL1Cur) (n : Int) => ([.ptr (0, 0) 0, dI n] : List D)) x.1 x.2) (fun x => (fun (c : TL1Cur) (n : Int) => ([((0, 0), .box (encTL1Cur c))] : List (Nm × OO))) x.1 x.2) (fun x => (fun (c : TL1Cur) (n : Int) => okCu c ∧ True) x.1 x.2) (fun x => (fun (c : TL1Cur) (n : Int) => (fun x : Bool => (dB x : D)) (v37 c n)) x.1 x.2) (fun x => (fun (c : TL1Cur) (n : Int) => (((0, 0), .box (encTL1Cur (n37 c n))) :: (fun x : Bool => ([] : List (Nm × OO))) (v37 c n))) x.1 x.2)
@[simp] theorem c37_f : c37.f = 37 := rfl
@[simp] theorem c37_own : c37.own = true := rfl
theorem c37_inj : ∀ u_ v_ : TL1Cur × Int, ((fun x => (fun (c : TL1Cur) (n : Int) => ([.ptr (0, 0) 0, dI n] : List D)) x.1 x.2) u_).map nz = ((fun x => (fun (c : TL1Cur) (n : Int) => ([.ptr (0, 0) 0, dI n] : List D)) x.1 x.2) v_).map nz → (fun x => (fun (c : TL1Cur) (n : Int) => ([((0, 0), .box (encTL1Cur c))] : List (Nm × OO))) x.1 x.2) u_ = (fun x => (fun (c : TL1Cur) (n : Int) => ([((0, 0), .box (encTL1Cur c))] : List (Nm × OO))) x.1 x.2) v_ → u_ = v_ := by
  intro u_ v_ h h2_
  obtain ⟨⟨c_b_, c_i_, c_h_⟩, n⟩ := u_
  obtain ⟨⟨c_b_', c_i_', c_h_'⟩, n'⟩ := v_
  simp [nz_lit, nz1_lit, nz_agg, nz_sl, nz1_sl, nz_sx, nz_el, nz1_el, nz_own, nz1_own, nz_ptr, nz_fn, nz_iface] at h h2_
  first | (simp [h, h2_]; done) | (obtain ⟨h3_, h4_⟩ := List.append_inj h2_ h.1; simp_all; done) | simp_all | grind
@[simp] theorem c37_fn (c : TL1Cur) (n : Int) : c37.fn ([.ptr (0, 0) 0, .lit (.int .i64 n)]) ([((0, 0), .box (.agg [.sl false 1 (.lit (.int .u8 0)) (ML dU c.b_), .lit (.int .i64 c.i_), .lit (.int .i64 c.h_)]))]) = some (okCu c ∧ True, (fun x : Bool => (dB x : D)) (v37 c n), (((0, 0), .box (encTL1Cur (n37 c n))) :: (fun x : Bool => ([] : List (Nm × OO))) (v37 c n))) :=
  mkCon_fn c37_inj ((c, n) : TL1Cur × Int) rfl rfl
theorem c37_ok : c37.ok Tryd.prog := mkCon_ok fun ⟨c, n⟩ hpre => (q37_sp c n hpre.1 hpre.2).2
/-- loop.example/g03007/spec.l1Int -/
theorem c38_ex (c : TL1Cur) (l : List Int) (hc : okCu c) (hp : 0 < l.length ∧ l.length ≤ 1099511627776) : ∃ x_ : (Int) × TL1Cur, (fun x_ : (Int) × TL1Cur => okCu x_.2 ∧ (fun x : Int => x ∈ l) x_.1) x_ ∧ PCo Tryd.prog 38 [.ptr (0, 0) 0, encLI l] (Tab.of [((0, 0), .box (encTL1Cur c))]) ((fun x_ : (Int) × TL1Cur => (fun x : Int => (dI x : D)) x_.1) x_) (Tab.of ((fun x_ : (Int) × TL1Cur => (((0, 0), .box (encTL1Cur x_.2)) :: (fun x : Int => ([] : List (Nm × OO))) x_.1)) x_)) := by
  refine pco_ex_of_run (fun x_ : (Int) × TL1Cur => okCu x_.2 ∧ (fun x : Int => x ∈ l) x_.1) (fun x_ : (Int) × TL1Cur => (fun x : Int => (dI x : D)) x_.1) (fun x_ : (Int) × TL1Cur => (((0, 0), .box (encTL1Cur x_.2)) :: (fun x : Int => ([] : List (Nm × OO))) x_.1)) [] (E := ⟨[c52], [], []⟩) (m := false) (base := 1000000) (Env.ok_cons c52_ok Env.ok_nil) G_ok mix 300 6 Tryd.func38 (by kernel_rfl) rfl (by kernel_rfl) (by kernel_rfl) (by kernel_rfl) rfl ?_
  simp [Tryd.f38, hc, hp]
  have hb := v52_ok c l.length hc trivial (by omega)
  have hm : l[(v52 c l.length).toNat]?.getD 0 ∈ l := getD_mem (by omega)
  repeat' (with_reducible first | apply and_rev | apply Exists.intro | intro _)
  all_goals try dsimp only
  all_goals try with_reducible rfl
  all_goals try rfl
  all_goals (first | done | omega | assumption | exact List.length_pos_iff.2 (by assumption) | (simp [*]; done) | (simp [*]; omega) | (simp [*]; grind) | trace_state)
open Classical in
noncomputable def q38 (c : TL1Cur) (l : List Int) : (Int) × TL1Cur := if h : okCu c ∧ 0 < l.length ∧ l.length ≤ 1099511627776 then Classical.choose (c38_ex c l h.1 h.2) else (default, ⟨[], 0, 0⟩)
theorem q38_sp (c : TL1Cur) (l : List Int) (hc : okCu c) (hp : 0 < l.length ∧ l.length ≤ 1099511627776) : (fun x_ : (Int) × TL1Cur => okCu x_.2 ∧ (fun x : Int => x ∈ l) x_.1) (q38 c l) ∧ PCo Tryd.prog 38 [.ptr (0, 0) 0, encLI l] (Tab.of [((0, 0), .box (encTL1Cur c))]) ((fun x_ : (Int) × TL1Cur => (fun x : Int => (dI x : D)) x_.1) (q38 c l)) (Tab.of ((fun x_ : (Int) × TL1Cur => (((0, 0), .box (encTL1Cur x_.2)) :: (fun x : Int => ([] : List (Nm × OO))) x_.1)) (q38 c l))) := by
  have e : q38 c l = Classical.choose (c38_ex c l hc hp) := by rw [q38, dif_pos ⟨hc, hp⟩]
  rw [e]
  exact Classical.choose_spec (c38_ex c l hc hp)
noncomputable def v38 (c : TL1Cur) (l : List Int) : Int := (q38 c l).1
noncomputable def n38 (c : TL1Cur) (l : List Int) : TL1Cur := (q38 c l).2
open Classical in
@[simp] theorem n38_ok (c : TL1Cur) (l : List Int) : okCu (n38 c l) := by
  by_cases h : okCu c ∧ 0 < l.length ∧ l.length ≤ 1099511627776
  · exact (q38_sp c l h.1 h.2).1.1
  · rw [n38, q38, dif_neg h]; exact ⟨by simp, by simp, by simp⟩
theorem v38_ok (c : TL1Cur) (l : List Int) (hc : okCu c) (hp : 0 < l.length ∧ l.length ≤ 1099511627776) : (fun x : Int => x ∈ l) (v38 c l) := (q38_sp c l hc hp).1.2
noncomputable def c38 : Con := mkCon 38 true (α := TL1Cur × (List Int)) (fun x => (fun (c : TL1Cur) (l : List Int) => ([.ptr (0, 0) 0, encLI l] : List D)) x.1 x.2) (fun x => (fun (c : TL1Cur) (l : List Int) => ([((0, 0), .box (encTL1Cur c))] : List (Nm × OO))) x.1 x.2) (fun x => (fun (c : TL1Cur) (l : List Int) => okCu c ∧ 0 < l.length ∧ l.length ≤ 1099511627776) x.1 x.2) (fun x => (fun (c : TL1Cur) (l : List Int) => (fun x : Int => (dI x : D)) (v38 c l)) x.1 x.2) (fun x => (fun (c : TL1Cur) (l : List Int) => (((0, 0), .box (encTL1Cur (n38 c l))) :: (fun x : Int => ([] : List (Nm × OO))) (v38 c l))) x.1 x.2)
@[simp] theorem c38_f : c38.f = 38 := rfl
@[simp] theorem c38_own : c38.own = true := rfl
theorem c38_inj : ∀ u_ v_ : TL1Cur × (List Int), ((fun x => (fun (c : TL1Cur) (l : List Int) => ([.ptr (0, 0) 0, encLI l] : List D)) x.1 x.2) u_).map nz = ((fun x => (fun (c : TL1Cur) (l : List Int) => ([.ptr (0, 0) 0, encLI l] : List D)) x.1 x.2) v_).map nz → (fun x => (fun (c : TL1Cur) (l : List Int) => ([((0, 0), .box (encTL1Cur c))] : List (Nm × OO))) x.1 x.2) u_ = (fun x => (fun (c : TL1Cur) (l : List Int) => ([((0, 0), .box (encTL1Cur c))] : List (Nm × OO))) x.1 x.2) v_ → u_ = v_ := by
  intro u_ v_ h h2_
  obtain ⟨⟨c_b_, c_i_, c_h_⟩, l⟩ := u_
  obtain ⟨⟨c_b_', c_i_', c_h_'⟩, l'⟩ := v_
  simp [nz_lit, nz1_lit, nz_agg, nz_sl, nz1_sl, nz_sx, nz_el, nz1_el, nz_own, nz1_own, nz_ptr, nz_fn, nz_iface] at h h2_
  first | (simp [h, h2_]; done) | (obtain ⟨h3_, h4_⟩ := List.append_inj h2_ h.1; simp_all; done) | simp_all | grind
@[simp] theorem c38_fn (c : TL1Cur) (l : List Int) : c38.fn ([.ptr (0, 0) 0, (.sl false 1 (.lit (.int .i64 0)) (ML dI l))]) ([((0, 0), .box (.agg [.sl false 1 (.lit (.int .u8 0)) (ML dU c.b_), .lit (.int .i64 c.i_), .lit (.int .i64 c.h_)]))]) = some (okCu c ∧ 0 < l.length ∧ l.length ≤ 1099511627776, (fun x : Int => (dI x : D)) (v38 c l), (((0, 0), .box (encTL1Cur (n38 c l))) :: (fun x : Int => ([] : List (Nm × OO))) (v38 c l))) :=
  mkCon_fn c38_inj ((c, l) : TL1Cur × (List Int)) rfl rfl
theorem c38_ok : c38.ok Tryd.prog := mkCon_ok fun ⟨c, l⟩ hpre => (q38_sp c l hpre.1 hpre.2).2
/-- loop.example/g03007/spec.l1New -/
theorem c25_ex (l : List Int) (hp : l.length ≤ 2097152) : ∃ x_ : TL1Cur, (fun x : TL1Cur => okCu x) x_ ∧ PCo Tryd.prog 25 [encLU l] (Tab.of []) ((fun x : TL1Cur => (.ptr (0, 1) 0 : D)) x_) (Tab.of ((fun x : TL1Cur => ([((0, 1), .box (encTL1Cur x))] : List (Nm × OO))) x_)) := by
  exact ⟨newC l, okCu_new hp, c25f_pc l hp⟩
open Classical in
noncomputable def q25 (l : List Int) : TL1Cur := if h : l.length ≤ 2097152 then Classical.choose (c25_ex l h) else default
theorem q25_sp (l : List Int) (hp : l.length ≤ 2097152) : (fun x : TL1Cur => okCu x) (q25 l) ∧ PCo Tryd.prog 25 [encLU l] (Tab.of []) ((fun x : TL1Cur => (.ptr (0, 1) 0 : D)) (q25 l)) (Tab.of ((fun x : TL1Cur => ([((0, 1), .box (encTL1Cur x))] : List (Nm × OO))) (q25 l))) := by
  have e : q25 l = Classical.choose (c25_ex l hp) := by rw [q25, dif_pos hp]
  rw [e]
  exact Classical.choose_spec (c25_ex l hp)
noncomputable def v25 (l : List Int) : TL1Cur := q25 l
theorem v25_ok (l : List Int) (hp : l.length ≤ 2097152) : (fun x : TL1Cur => okCu x) (v25 l) := (q25_sp l hp).1
noncomputable def c25 : Con := mkCon 25 false (α := (List Int)) (fun x => (fun (l : List Int) => ([encLU l] : List D)) x) (fun x => (fun (l : List Int) => ([] : List (Nm × OO))) x) (fun x => (fun (l : List Int) => l.length ≤ 2097152) x) (fun x => (fun (l : List Int) => (fun x : TL1Cur => (.ptr (0, 1) 0 : D)) (v25 l)) x) (fun x => (fun (l : List Int) => (fun x : TL1Cur => ([((0, 1), .box (encTL1Cur x))] : List (Nm × OO))) (v25 l)) x)
@[simp] theorem c25_f : c25.f = 25 := rfl
@[simp] theorem c25_own : c25.own = false := rfl
theorem c25_inj : ∀ u_ v_ : (List Int), ((fun x => (fun (l : List Int) => ([encLU l] : List D)) x) u_).map nz = ((fun x => (fun (l : List Int) => ([encLU l] : List D)) x) v_).map nz → (fun x => (fun (l : List Int) => ([] : List (Nm × OO))) x) u_ = (fun x => (fun (l : List Int) => ([] : List (Nm × OO))) x) v_ → u_ = v_ := by
  intro u_ v_ h h2_
  obtain l := u_
  obtain l' := v_
  simp [nz_lit, nz1_lit, nz_agg, nz_sl, nz1_sl, nz_sx, nz_el, nz1_el, nz_own, nz1_own, nz_ptr, nz_fn, nz_iface] at h h2_
  first | (simp [h, h2_]; done) | (obtain ⟨h3_, h4_⟩ := List.append_inj h2_ h.1; simp_all; done) | simp_all | grind
@[simp] theorem c25_fn (l : List Int) : c25.fn ([(.sl false 1 (.lit (.int .u8 0)) (ML dU l))]) ([]) = some (l.length ≤ 2097152, (fun x : TL1Cur => (.ptr (0, 1) 0 : D)) (v25 l), (fun x : TL1Cur => ([((0, 1), .box (encTL1Cur x))] : List (Nm × OO))) (v25 l)) :=
  mkCon_fn c25_inj (l : (List Int)) rfl rfl
theorem c25_ok : c25.ok Tryd.prog := mkCon_ok fun l hpre => (q25_sp l hpre).2
@[simp] theorem l1Int_fn2 (c : TL1Cur) (a0 a1 : Int) : c38.fn [.ptr (0, 0) 0, .sl false 1 (.lit (.int .i64 0)) [.lit (.int .i64 a0), .lit (.int .i64 a1)]] [((0, 0), .box (.agg [.sl false 1 (.lit (.int .u8 0)) (ML dU c.b_), .lit (.int .i64 c.i_), .lit (.int .i64 c.h_)]))] = some (okCu c ∧ 0 < ([a0, a1] : List Int).length ∧ ([a0, a1] : List Int).length ≤ 1099511627776, dI (v38 c [a0, a1]), [((0, 0), .box (encTL1Cur (n38 c [a0, a1])))]) := c38_fn c [a0, a1]
@[simp] theorem l1Int_fn3 (c : TL1Cur) (a0 a1 a2 : Int) : c38.fn [.ptr (0, 0) 0, .sl false 1 (.lit (.int .i64 0)) [.lit (.int .i64 a0), .lit (.int .i64 a1), .lit (.int .i64 a2)]] [((0, 0), .box (.agg [.sl false 1 (.lit (.int .u8 0)) (ML dU c.b_), .lit (.int .i64 c.i_), .lit (.int .i64 c.h_)]))] = some (okCu c ∧ 0 < ([a0, a1, a2] : List Int).length ∧ ([a0, a1, a2] : List Int).length ≤ 1099511627776, dI (v38 c [a0, a1, a2]), [((0, 0), .box (encTL1Cur (n38 c [a0, a1, a2])))]) := c38_fn c [a0, a1, a2]
@[simp] theorem l1Int_fn4 (c : TL1Cur) (a0 a1 a2 a3 : Int) : c38.fn [.ptr (0, 0) 0, .sl false 1 (.lit (.int .i64 0)) [.lit (.int .i64 a0), .lit (.int .i64 a1), .lit (.int .i64 a2), .lit (.int .i64 a3)]] [((0, 0), .box (.agg [.sl false 1 (.lit (.int .u8 0)) (ML dU c.b_), .lit (.int .i64 c.i_), .lit (.int .i64 c.h_)]))] = some (okCu c ∧ 0 < ([a0, a1, a2, a3] : List Int).length ∧ ([a0, a1, a2, a3] : List Int).length ≤ 1099511627776, dI (v38 c [a0, a1, a2, a3]), [((0, 0), .box (encTL1Cur (n38 c [a0, a1, a2, a3])))]) := c38_fn c [a0, a1, a2, a3]
@[simp] theorem l1Int_fn5 (c : TL1Cur) (a0 a1 a2 a3 a4 : Int) : c38.fn [.ptr (0, 0) 0, .sl false 1 (.lit (.int .i64 0)) [.lit (.int .i64 a0), .lit (.int .i64 a1), .lit (.int .i64 a2), .lit (.int .i64 a3), .lit (.int .i64 a4)]] [((0, 0), .box (.agg [.sl false 1 (.lit (.int .u8 0)) (ML dU c.b_), .lit (.int .i64 c.i_), .lit (.int .i64 c.h_)]))] = some (okCu c ∧ 0 < ([a0, a1, a2, a3, a4] : List Int).length ∧ ([a0, a1, a2, a3, a4] : List Int).length ≤ 1099511627776, dI (v38 c [a0, a1, a2, a3, a4]), [((0, 0), .box (encTL1Cur (n38 c [a0, a1, a2, a3, a4])))]) := c38_fn c [a0, a1, a2, a3, a4]
@[simp] theorem l1Int_fn6 (c : TL1Cur) (a0 a1 a2 a3 a4 a5 : Int) : c38.fn [.ptr (0, 0) 0, .sl false 1 (.lit (.int .i64 0)) [.lit (.int .i64 a0), .lit (.int .i64 a1), .lit (.int .i64 a2), .lit (.int .i64 a3), .lit (.int .i64 a4), .lit (.int .i64 a5)]] [((0, 0), .box (.agg [.sl false 1 (.lit (.int .u8 0)) (ML dU c.b_), .lit (.int .i64 c.i_), .lit (.int .i64 c.h_)]))] = some (okCu c ∧ 0 < ([a0, a1, a2, a3, a4, a5] : List Int).length ∧ ([a0, a1, a2, a3, a4, a5] : List Int).length ≤ 1099511627776, dI (v38 c [a0, a1, a2, a3, a4, a5]), [((0, 0), .box (encTL1Cur (n38 c [a0, a1, a2, a3, a4, a5])))]) := c38_fn c [a0, a1, a2, a3, a4, a5]
@[simp] theorem l1Int_fn7 (c : TL1Cur) (a0 a1 a2 a3 a4 a5 a6 : Int) : c38.fn [.ptr (0, 0) 0, .sl false 1 (.lit (.int .i64 0)) [.lit (.int .i64 a0), .lit (.int .i64 a1), .lit (.int .i64 a2), .lit (.int .i64 a3), .lit (.int .i64 a4), .lit (.int .i64 a5), .lit (.int .i64 a6)]] [((0, 0), .box (.agg [.sl false 1 (.lit (.int .u8 0)) (ML dU c.b_), .lit (.int .i64 c.i_), .lit (.int .i64 c.h_)]))] = some (okCu c ∧ 0 < ([a0, a1, a2, a3, a4, a5, a6] : List Int).length ∧ ([a0, a1, a2, a3, a4, a5, a6] : List Int).length ≤ 1099511627776, dI (v38 c [a0, a1, a2, a3, a4, a5, a6]), [((0, 0), .box (encTL1Cur (n38 c [a0, a1, a2, a3, a4, a5, a6])))]) := c38_fn c [a0, a1, a2, a3, a4, a5, a6]
@[simp] theorem l1Int_fn8 (c : TL1Cur) (a0 a1 a2 a3 a4 a5 a6 a7 : Int) : c38.fn [.ptr (0, 0) 0, .sl false 1 (.lit (.int .i64 0)) [.lit (.int .i64 a0), .lit (.int .i64 a1), .lit (.int .i64 a2), .lit (.int .i64 a3), .lit (.int .i64 a4), .lit (.int .i64 a5), .lit (.int .i64 a6), .lit (.int .i64 a7)]] [((0, 0), .box (.agg [.sl false 1 (.lit (.int .u8 0)) (ML dU c.b_), .lit (.int .i64 c.i_), .lit (.int .i64 c.h_)]))] = some (okCu c ∧ 0 < ([a0, a1, a2, a3, a4, a5, a6, a7] : List Int).length ∧ ([a0, a1, a2, a3, a4, a5, a6, a7] : List Int).length ≤ 1099511627776, dI (v38 c [a0, a1, a2, a3, a4, a5, a6, a7]), [((0, 0), .box (encTL1Cur (n38 c [a0, a1, a2, a3, a4, a5, a6, a7])))]) := c38_fn c [a0, a1, a2, a3, a4, a5, a6, a7]
@[simp] theorem l1Int_fn9 (c : TL1Cur) (a0 a1 a2 a3 a4 a5 a6 a7 a8 : Int) : c38.fn [.ptr (0, 0) 0, .sl false 1 (.lit (.int .i64 0)) [.lit (.int .i64 a0), .lit (.int .i64 a1), .lit (.int .i64 a2), .lit (.int .i64 a3), .lit (.int .i64 a4), .lit (.int .i64 a5), .lit (.int .i64 a6), .lit (.int .i64 a7), .lit (.int .i64 a8)]] [((0, 0), .box (.agg [.sl false 1 (.lit (.int .u8 0)) (ML dU c.b_), .lit (.int .i64 c.i_), .lit (.int .i64 c.h_)]))] = some (okCu c ∧ 0 < ([a0, a1, a2, a3, a4, a5, a6, a7, a8] : List Int).length ∧ ([a0, a1, a2, a3, a4, a5, a6, a7, a8] : List Int).length ≤ 1099511627776, dI (v38 c [a0, a1, a2, a3, a4, a5, a6, a7, a8]), [((0, 0), .box (encTL1Cur (n38 c [a0, a1, a2, a3, a4, a5, a6, a7, a8])))]) := c38_fn c [a0, a1, a2, a3, a4, a5, a6, a7, a8]
@[simp] theorem l1Int_fn10 (c : TL1Cur) (a0 a1 a2 a3 a4 a5 a6 a7 a8 a9 : Int) : c38.fn [.ptr (0, 0) 0, .sl false 1 (.lit (.int .i64 0)) [.lit (.int .i64 a0), .lit (.int .i64 a1), .lit (.int .i64 a2), .lit (.int .i64 a3), .lit (.int .i64 a4), .lit (.int .i64 a5), .lit (.int .i64 a6), .lit (.int .i64 a7), .lit (.int .i64 a8), .lit (.int .i64 a9)]] [((0, 0), .box (.agg [.sl false 1 (.lit (.int .u8 0)) (ML dU c.b_), .lit (.int .i64 c.i_), .lit (.int .i64 c.h_)]))] = some (okCu c ∧ 0 < ([a0, a1, a2, a3, a4, a5, a6, a7, a8, a9] : List Int).length ∧ ([a0, a1, a2, a3, a4, a5, a6, a7, a8, a9] : List Int).length ≤ 1099511627776, dI (v38 c [a0, a1, a2, a3, a4, a5, a6, a7, a8, a9]), [((0, 0), .box (encTL1Cur (n38 c [a0, a1, a2, a3, a4, a5, a6, a7, a8, a9])))]) := c38_fn c [a0, a1, a2, a3, a4, a5, a6, a7, a8, a9]
@[simp] theorem l1Int_fn11 (c : TL1Cur) (a0 a1 a2 a3 a4 a5 a6 a7 a8 a9 a10 : Int) : c38.fn [.ptr (0, 0) 0, .sl false 1 (.lit (.int .i64 0)) [.lit (.int .i64 a0), .lit (.int .i64 a1), .lit (.int .i64 a2), .lit (.int .i64 a3), .lit (.int .i64 a4), .lit (.int .i64 a5), .lit (.int .i64 a6), .lit (.int .i64 a7), .lit (.int .i64 a8), .lit (.int .i64 a9), .lit (.int .i64 a10)]] [((0, 0), .box (.agg [.sl false 1 (.lit (.int .u8 0)) (ML dU c.b_), .lit (.int .i64 c.i_), .lit (.int .i64 c.h_)]))] = some (okCu c ∧ 0 < ([a0, a1, a2, a3, a4, a5, a6, a7, a8, a9, a10] : List Int).length ∧ ([a0, a1, a2, a3, a4, a5, a6, a7, a8, a9, a10] : List Int).length ≤ 1099511627776, dI (v38 c [a0, a1, a2, a3, a4, a5, a6, a7, a8, a9, a10]), [((0, 0), .box (encTL1Cur (n38 c [a0, a1, a2, a3, a4, a5, a6, a7, a8, a9, a10])))]) := c38_fn c [a0, a1, a2, a3, a4, a5, a6, a7, a8, a9, a10]
@[simp] theorem l1Int_fn12 (c : TL1Cur) (a0 a1 a2 a3 a4 a5 a6 a7 a8 a9 a10 a11 : Int) : c38.fn [.ptr (0, 0) 0, .sl false 1 (.lit (.int .i64 0)) [.lit (.int .i64 a0), .lit (.int .i64 a1), .lit (.int .i64 a2), .lit (.int .i64 a3), .lit (.int .i64 a4), .lit (.int .i64 a5), .lit (.int .i64 a6), .lit (.int .i64 a7), .lit (.int .i64 a8), .lit (.int .i64 a9), .lit (.int .i64 a10), .lit (.int .i64 a11)]] [((0, 0), .box (.agg [.sl false 1 (.lit (.int .u8 0)) (ML dU c.b_), .lit (.int .i64 c.i_), .lit (.int .i64 c.h_)]))] = some (okCu c ∧ 0 < ([a0, a1, a2, a3, a4, a5, a6, a7, a8, a9, a10, a11] : List Int).length ∧ ([a0, a1, a2, a3, a4, a5, a6, a7, a8, a9, a10, a11] : List Int).length ≤ 1099511627776, dI (v38 c [a0, a1, a2, a3, a4, a5, a6, a7, a8, a9, a10, a11]), [((0, 0), .box (encTL1Cur (n38 c [a0, a1, a2, a3, a4, a5, a6, a7, a8, a9, a10, a11])))]) := c38_fn c [a0, a1, a2, a3, a4, a5, a6, a7, a8, a9, a10, a11]
@[simp] theorem l1Int_fn13 (c : TL1Cur) (a0 a1 a2 a3 a4 a5 a6 a7 a8 a9 a10 a11 a12 : Int) : c38.fn [.ptr (0, 0) 0, .sl false 1 (.lit (.int .i64 0)) [.lit (.int .i64 a0), .lit (.int .i64 a1), .lit (.int .i64 a2), .lit (.int .i64 a3), .lit (.int .i64 a4), .lit (.int .i64 a5), .lit (.int .i64 a6), .lit (.int .i64 a7), .lit (.int .i64 a8), .lit (.int .i64 a9), .lit (.int .i64 a10), .lit (.int .i64 a11), .lit (.int .i64 a12)]] [((0, 0), .box (.agg [.sl false 1 (.lit (.int .u8 0)) (ML dU c.b_), .lit (.int .i64 c.i_), .lit (.int .i64 c.h_)]))] = some (okCu c ∧ 0 < ([a0, a1, a2, a3, a4, a5, a6, a7, a8, a9, a10, a11, a12] : List Int).length ∧ ([a0, a1, a2, a3, a4, a5, a6, a7, a8, a9, a10, a11, a12] : List Int).length ≤ 1099511627776, dI (v38 c [a0, a1, a2, a3, a4, a5, a6, a7, a8, a9, a10, a11, a12]), [((0, 0), .box (encTL1Cur (n38 c [a0, a1, a2, a3, a4, a5, a6, a7, a8, a9, a10, a11, a12])))]) := c38_fn c [a0, a1, a2, a3, a4, a5, a6, a7, a8, a9, a10, a11, a12]
@[simp] theorem l1Int_fn14 (c : TL1Cur) (a0 a1 a2 a3 a4 a5 a6 a7 a8 a9 a10 a11 a12 a13 : Int) : c38.fn [.ptr (0, 0) 0, .sl false 1 (.lit (.int .i64 0)) [.lit (.int .i64 a0), .lit (.int .i64 a1), .lit (.int .i64 a2), .lit (.int .i64 a3), .lit (.int .i64 a4), .lit (.int .i64 a5), .lit (.int .i64 a6), .lit (.int .i64 a7), .lit (.int .i64 a8), .lit (.int .i64 a9), .lit (.int .i64 a10), .lit (.int .i64 a11), .lit (.int .i64 a12), .lit (.int .i64 a13)]] [((0, 0), .box (.agg [.sl false 1 (.lit (.int .u8 0)) (ML dU c.b_), .lit (.int .i64 c.i_), .lit (.int .i64 c.h_)]))] = some (okCu c ∧ 0 < ([a0, a1, a2, a3, a4, a5, a6, a7, a8, a9, a10, a11, a12, a13] : List Int).length ∧ ([a0, a1, a2, a3, a4, a5, a6, a7, a8, a9, a10, a11, a12, a13] : List Int).length ≤ 1099511627776, dI (v38 c [a0, a1, a2, a3, a4, a5, a6, a7, a8, a9, a10, a11, a12, a13]), [((0, 0), .box (encTL1Cur (n38 c [a0, a1, a2, a3, a4, a5, a6, a7, a8, a9, a10, a11, a12, a13])))]) := c38_fn c [a0, a1, a2, a3, a4, a5, a6, a7, a8, a9, a10, a11, a12, a13]

end Go.Proofs.YtpnfkjbnhholfaaDoor
