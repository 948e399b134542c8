/- Contracts of the functions that the laws run. -/
import Derived.Test.YtpnfkjbnhholfaaEngB
import Derived.Test.YtpnfkjbnhholfaaEngB
import Derived.Test.Ytpnfkjbnhholfaadr4
import Derived.Test.Ytpnfkjbnhholfaach19s
import Derived.Test.YtpnfkjbnhholfaaEngB
namespace Go.Proofs.Ytpnfkjbnhholfaa
open Go Go.Eng
set_option linter.unusedSimpArgs false
set_option linter.unusedVariables false
set_option maxRecDepth 10000
set_option maxHeartbeats 1000000
/-- loop.example/g03007/spec.l1Int -/
theorem c140f_ex (c : TL1Cur) (l : List Int) (hc : okCu c) (hp : 0 < l.length ∧ l.length ≤ 1099511627776) : ∃ x_ : (Int) × TL1Cur, (fun x_ : (Int) × TL1Cur => okCu x_.2 ∧ (fun x : Int => x ∈ l) x_.1) x_ ∧ PCo Try.prog 140 [.ptr (0, 0) 0, .own (1, 0) 1 0 l.length] (Tab.of [((0, 0), .box (encTL1Cur c)), ((1, 0), .arr false 1 (dI 0) (ML dI l))]) ((fun x_ : (Int) × TL1Cur => (fun x : Int => (dI x : D)) x_.1) x_) (Tab.of ((fun x_ : (Int) × TL1Cur => (((0, 0), .box (encTL1Cur x_.2)) :: (fun x : Int => ([((1, 0), .arr false 1 (dI 0) (ML dI l))] : List (Nm × OO))) x_.1)) x_)) := by
  refine pco_ex_of_run (fun x_ : (Int) × TL1Cur => okCu x_.2 ∧ (fun x : Int => x ∈ l) x_.1) (fun x_ : (Int) × TL1Cur => (fun x : Int => (dI x : D)) x_.1) (fun x_ : (Int) × TL1Cur => (((0, 0), .box (encTL1Cur x_.2)) :: (fun x : Int => ([((1, 0), .arr false 1 (dI 0) (ML dI l))] : List (Nm × OO))) x_.1)) [] (E := ⟨[c72], [], []⟩) (m := false) (base := 0) (Env.ok_cons c72_ok Env.ok_nil) G_ok mix 300 6 Try.func140 (by kernel_rfl) rfl (by kernel_rfl) (by kernel_rfl) (by kernel_rfl) rfl ?_
  simp [Try.f140, hc, hp]
  have hb := v72_ok c l.length hc trivial (by omega)
  have hm : l[(v72 c l.length).toNat]?.getD 0 ∈ l := getD_mem (by omega)
  repeat' (with_reducible first | apply and_rev | apply Exists.intro | intro _)
  all_goals try dsimp only
  all_goals try with_reducible rfl
  all_goals try rfl
  all_goals (first | done | omega | assumption | exact List.length_pos_iff.2 (by assumption) | (simp [*]; done) | (simp [*]; omega) | (simp [*, below_eq]; done) | (simp [*, below_eq]; omega) | (simp only [below_eq, Int.reduceLT]; omega) | trace_state)
open Classical in
noncomputable def q140f (c : TL1Cur) (l : List Int) : (Int) × TL1Cur := if h : okCu c ∧ 0 < l.length ∧ l.length ≤ 1099511627776 then Classical.choose (c140f_ex c l h.1 h.2) else (default, ⟨[], 0, 0⟩)
theorem q140f_sp (c : TL1Cur) (l : List Int) (hc : okCu c) (hp : 0 < l.length ∧ l.length ≤ 1099511627776) : (fun x_ : (Int) × TL1Cur => okCu x_.2 ∧ (fun x : Int => x ∈ l) x_.1) (q140f c l) ∧ PCo Try.prog 140 [.ptr (0, 0) 0, .own (1, 0) 1 0 l.length] (Tab.of [((0, 0), .box (encTL1Cur c)), ((1, 0), .arr false 1 (dI 0) (ML dI l))]) ((fun x_ : (Int) × TL1Cur => (fun x : Int => (dI x : D)) x_.1) (q140f c l)) (Tab.of ((fun x_ : (Int) × TL1Cur => (((0, 0), .box (encTL1Cur x_.2)) :: (fun x : Int => ([((1, 0), .arr false 1 (dI 0) (ML dI l))] : List (Nm × OO))) x_.1)) (q140f c l))) := by
  have e : q140f c l = Classical.choose (c140f_ex c l hc hp) := by rw [q140f, dif_pos ⟨hc, hp⟩]
  rw [e]
  exact Classical.choose_spec (c140f_ex c l hc hp)
noncomputable def v140f (c : TL1Cur) (l : List Int) : Int := (q140f c l).1
noncomputable def n140f (c : TL1Cur) (l : List Int) : TL1Cur := (q140f c l).2
open Classical in
@[simp] theorem n140f_ok (c : TL1Cur) (l : List Int) : okCu (n140f c l) := by
  by_cases h : okCu c ∧ 0 < l.length ∧ l.length ≤ 1099511627776
  · exact (q140f_sp c l h.1 h.2).1.1
  · rw [n140f, q140f, dif_neg h]; exact ⟨by simp, by simp, by simp⟩
theorem v140f_ok (c : TL1Cur) (l : List Int) (hc : okCu c) (hp : 0 < l.length ∧ l.length ≤ 1099511627776) : (fun x : Int => x ∈ l) (v140f c l) := (q140f_sp c l hc hp).1.2
noncomputable def c140f : Con := mkCon 140 true (α := TL1Cur × (List Int)) (fun x => (fun (c : TL1Cur) (l : List Int) => ([.ptr (0, 0) 0, .own (1, 0) 1 0 l.length] : List D)) x.1 x.2) (fun x => (fun (c : TL1Cur) (l : List Int) => ([((0, 0), .box (encTL1Cur c)), ((1, 0), .arr false 1 (dI 0) (ML dI l))] : List (Nm × OO))) x.1 x.2) (fun x => (fun (c : TL1Cur) (l : List Int) => okCu c ∧ 0 < l.length ∧ l.length ≤ 1099511627776) x.1 x.2) (fun x => (fun (c : TL1Cur) (l : List Int) => (fun x : Int => (dI x : D)) (v140f c l)) x.1 x.2) (fun x => (fun (c : TL1Cur) (l : List Int) => (((0, 0), .box (encTL1Cur (n140f c l))) :: (fun x : Int => ([((1, 0), .arr false 1 (dI 0) (ML dI l))] : List (Nm × OO))) (v140f c l))) x.1 x.2)
@[simp] theorem c140f_f : c140f.f = 140 := rfl
@[simp] theorem c140f_own : c140f.own = true := rfl
theorem c140f_inj : ∀ u_ v_ : TL1Cur × (List Int), ((fun x => (fun (c : TL1Cur) (l : List Int) => ([.ptr (0, 0) 0, .own (1, 0) 1 0 l.length] : List D)) x.1 x.2) u_).map nz = ((fun x => (fun (c : TL1Cur) (l : List Int) => ([.ptr (0, 0) 0, .own (1, 0) 1 0 l.length] : List D)) x.1 x.2) v_).map nz → (fun x => (fun (c : TL1Cur) (l : List Int) => ([((0, 0), .box (encTL1Cur c)), ((1, 0), .arr false 1 (dI 0) (ML dI l))] : List (Nm × OO))) x.1 x.2) u_ = (fun x => (fun (c : TL1Cur) (l : List Int) => ([((0, 0), .box (encTL1Cur c)), ((1, 0), .arr false 1 (dI 0) (ML dI l))] : List (Nm × OO))) x.1 x.2) v_ → u_ = v_ := by
  intro u_ v_ h h2_
  obtain ⟨⟨c_b_, c_i_, c_h_⟩, l⟩ := u_
  obtain ⟨⟨c_b_', c_i_', c_h_'⟩, l'⟩ := v_
  simp [nz_lit, nz1_lit, nz_agg, nz_sl, nz1_sl, nz_sx, nz_el, nz1_el, nz_own, nz1_own, nz_ptr, nz_fn, nz_iface] at h h2_
  first | (simp [h, h2_]; done) | (obtain ⟨h3_, h4_⟩ := List.append_inj h2_ h.1; simp_all; done) | simp_all | grind
@[simp] theorem c140f_fn (c : TL1Cur) (l : List Int) : c140f.fn ([.ptr (0, 0) 0, .own (1, 0) 1 0 l.length]) ([((0, 0), .box (.agg [.sl false 1 (.lit (.int .u8 0)) (ML dU c.b_), .lit (.int .i64 c.i_), .lit (.int .i64 c.h_)])), ((1, 0), .arr false 1 (.lit (.int .i64 0)) (ML dI l))]) = some (okCu c ∧ 0 < l.length ∧ l.length ≤ 1099511627776, (fun x : Int => (dI x : D)) (v140f c l), (((0, 0), .box (encTL1Cur (n140f c l))) :: (fun x : Int => ([((1, 0), .arr false 1 (dI 0) (ML dI l))] : List (Nm × OO))) (v140f c l))) :=
  mkCon_fn c140f_inj ((c, l) : TL1Cur × (List Int)) rfl rfl
theorem c140f_ok : c140f.ok Try.prog := mkCon_ok fun ⟨c, l⟩ hpre => (q140f_sp c l hpre.1 hpre.2).2
@[simp] theorem l1Int_fb2 (c : TL1Cur) (a0 a1 : Int) : c140f.fn [.ptr (0, 0) 0, .own (1, 0) 1 0 2] [((0, 0), .box (.agg [.sl false 1 (.lit (.int .u8 0)) (ML dU c.b_), .lit (.int .i64 c.i_), .lit (.int .i64 c.h_)])), ((1, 0), .arr false 1 (.lit (.int .i64 0)) [.lit (.int .i64 a0), .lit (.int .i64 a1)])] = some (okCu c ∧ 0 < ([a0, a1] : List Int).length ∧ ([a0, a1] : List Int).length ≤ 1099511627776, dI (v140f c [a0, a1]), [((0, 0), .box (encTL1Cur (n140f c [a0, a1]))), ((1, 0), .arr false 1 (dI 0) (ML dI [a0, a1]))]) := c140f_fn c [a0, a1]
@[simp] theorem l1Int_fb3 (c : TL1Cur) (a0 a1 a2 : Int) : c140f.fn [.ptr (0, 0) 0, .own (1, 0) 1 0 3] [((0, 0), .box (.agg [.sl false 1 (.lit (.int .u8 0)) (ML dU c.b_), .lit (.int .i64 c.i_), .lit (.int .i64 c.h_)])), ((1, 0), .arr false 1 (.lit (.int .i64 0)) [.lit (.int .i64 a0), .lit (.int .i64 a1), .lit (.int .i64 a2)])] = some (okCu c ∧ 0 < ([a0, a1, a2] : List Int).length ∧ ([a0, a1, a2] : List Int).length ≤ 1099511627776, dI (v140f c [a0, a1, a2]), [((0, 0), .box (encTL1Cur (n140f c [a0, a1, a2]))), ((1, 0), .arr false 1 (dI 0) (ML dI [a0, a1, a2]))]) := c140f_fn c [a0, a1, a2]
@[simp] theorem l1Int_fb4 (c : TL1Cur) (a0 a1 a2 a3 : Int) : c140f.fn [.ptr (0, 0) 0, .own (1, 0) 1 0 4] [((0, 0), .box (.agg [.sl false 1 (.lit (.int .u8 0)) (ML dU c.b_), .lit (.int .i64 c.i_), .lit (.int .i64 c.h_)])), ((1, 0), .arr false 1 (.lit (.int .i64 0)) [.lit (.int .i64 a0), .lit (.int .i64 a1), .lit (.int .i64 a2), .lit (.int .i64 a3)])] = some (okCu c ∧ 0 < ([a0, a1, a2, a3] : List Int).length ∧ ([a0, a1, a2, a3] : List Int).length ≤ 1099511627776, dI (v140f c [a0, a1, a2, a3]), [((0, 0), .box (encTL1Cur (n140f c [a0, a1, a2, a3]))), ((1, 0), .arr false 1 (dI 0) (ML dI [a0, a1, a2, a3]))]) := c140f_fn c [a0, a1, a2, a3]
@[simp] theorem l1Int_fb5 (c : TL1Cur) (a0 a1 a2 a3 a4 : Int) : c140f.fn [.ptr (0, 0) 0, .own (1, 0) 1 0 5] [((0, 0), .box (.agg [.sl false 1 (.lit (.int .u8 0)) (ML dU c.b_), .lit (.int .i64 c.i_), .lit (.int .i64 c.h_)])), ((1, 0), .arr false 1 (.lit (.int .i64 0)) [.lit (.int .i64 a0), .lit (.int .i64 a1), .lit (.int .i64 a2), .lit (.int .i64 a3), .lit (.int .i64 a4)])] = some (okCu c ∧ 0 < ([a0, a1, a2, a3, a4] : List Int).length ∧ ([a0, a1, a2, a3, a4] : List Int).length ≤ 1099511627776, dI (v140f c [a0, a1, a2, a3, a4]), [((0, 0), .box (encTL1Cur (n140f c [a0, a1, a2, a3, a4]))), ((1, 0), .arr false 1 (dI 0) (ML dI [a0, a1, a2, a3, a4]))]) := c140f_fn c [a0, a1, a2, a3, a4]
@[simp] theorem l1Int_fb6 (c : TL1Cur) (a0 a1 a2 a3 a4 a5 : Int) : c140f.fn [.ptr (0, 0) 0, .own (1, 0) 1 0 6] [((0, 0), .box (.agg [.sl false 1 (.lit (.int .u8 0)) (ML dU c.b_), .lit (.int .i64 c.i_), .lit (.int .i64 c.h_)])), ((1, 0), .arr false 1 (.lit (.int .i64 0)) [.lit (.int .i64 a0), .lit (.int .i64 a1), .lit (.int .i64 a2), .lit (.int .i64 a3), .lit (.int .i64 a4), .lit (.int .i64 a5)])] = some (okCu c ∧ 0 < ([a0, a1, a2, a3, a4, a5] : List Int).length ∧ ([a0, a1, a2, a3, a4, a5] : List Int).length ≤ 1099511627776, dI (v140f c [a0, a1, a2, a3, a4, a5]), [((0, 0), .box (encTL1Cur (n140f c [a0, a1, a2, a3, a4, a5]))), ((1, 0), .arr false 1 (dI 0) (ML dI [a0, a1, a2, a3, a4, a5]))]) := c140f_fn c [a0, a1, a2, a3, a4, a5]
@[simp] theorem l1Int_fb7 (c : TL1Cur) (a0 a1 a2 a3 a4 a5 a6 : Int) : c140f.fn [.ptr (0, 0) 0, .own (1, 0) 1 0 7] [((0, 0), .box (.agg [.sl false 1 (.lit (.int .u8 0)) (ML dU c.b_), .lit (.int .i64 c.i_), .lit (.int .i64 c.h_)])), ((1, 0), .arr false 1 (.lit (.int .i64 0)) [.lit (.int .i64 a0), .lit (.int .i64 a1), .lit (.int .i64 a2), .lit (.int .i64 a3), .lit (.int .i64 a4), .lit (.int .i64 a5), .lit (.int .i64 a6)])] = some (okCu c ∧ 0 < ([a0, a1, a2, a3, a4, a5, a6] : List Int).length ∧ ([a0, a1, a2, a3, a4, a5, a6] : List Int).length ≤ 1099511627776, dI (v140f c [a0, a1, a2, a3, a4, a5, a6]), [((0, 0), .box (encTL1Cur (n140f c [a0, a1, a2, a3, a4, a5, a6]))), ((1, 0), .arr false 1 (dI 0) (ML dI [a0, a1, a2, a3, a4, a5, a6]))]) := c140f_fn c [a0, a1, a2, a3, a4, a5, a6]
@[simp] theorem l1Int_fb8 (c : TL1Cur) (a0 a1 a2 a3 a4 a5 a6 a7 : Int) : c140f.fn [.ptr (0, 0) 0, .own (1, 0) 1 0 8] [((0, 0), .box (.agg [.sl false 1 (.lit (.int .u8 0)) (ML dU c.b_), .lit (.int .i64 c.i_), .lit (.int .i64 c.h_)])), ((1, 0), .arr false 1 (.lit (.int .i64 0)) [.lit (.int .i64 a0), .lit (.int .i64 a1), .lit (.int .i64 a2), .lit (.int .i64 a3), .lit (.int .i64 a4), .lit (.int .i64 a5), .lit (.int .i64 a6), .lit (.int .i64 a7)])] = some (okCu c ∧ 0 < ([a0, a1, a2, a3, a4, a5, a6, a7] : List Int).length ∧ ([a0, a1, a2, a3, a4, a5, a6, a7] : List Int).length ≤ 1099511627776, dI (v140f c [a0, a1, a2, a3, a4, a5, a6, a7]), [((0, 0), .box (encTL1Cur (n140f c [a0, a1, a2, a3, a4, a5, a6, a7]))), ((1, 0), .arr false 1 (dI 0) (ML dI [a0, a1, a2, a3, a4, a5, a6, a7]))]) := c140f_fn c [a0, a1, a2, a3, a4, a5, a6, a7]
/-- loop.example/g03007/spec.l19Any -/
theorem c139_ex (c : TL1Cur) (hc : okCu c) (hp : True) : ∃ x_ : (List TBid) × TL1Cur, (fun x_ : (List TBid) × TL1Cur => okCu x_.2 ∧ (fun x : List TBid => x.length ≤ 6) x_.1) x_ ∧ PCo Try.prog 139 [.ptr (0, 0) 0] (Tab.of [((0, 0), .box (encTL1Cur c))]) ((fun x_ : (List TBid) × TL1Cur => (fun x : List TBid => (.own (0, 1) 3 0 x.length : D)) x_.1) x_) (Tab.of ((fun x_ : (List TBid) × TL1Cur => (((0, 0), .box (encTL1Cur x_.2)) :: (fun x : List TBid => ([((0, 1), .arr false 3 yTBid (ML encTBid x))] : List (Nm × OO))) x_.1)) x_)) := by
  refine pco_ex_of_run (fun x_ : (List TBid) × TL1Cur => okCu x_.2 ∧ (fun x : List TBid => x.length ≤ 6) x_.1) (fun x_ : (List TBid) × TL1Cur => (fun x : List TBid => (.own (0, 1) 3 0 x.length : D)) x_.1) (fun x_ : (List TBid) × TL1Cur => (((0, 0), .box (encTL1Cur x_.2)) :: (fun x : List TBid => ([((0, 1), .arr false 3 yTBid (ML encTBid x))] : List (Nm × OO))) x_.1)) [] (E := ⟨[c72, c140f, c185], [], []⟩) (m := false) (base := 0) (Env.ok_cons c72_ok (Env.ok_cons c140f_ok (Env.ok_cons c185_ok Env.ok_nil))) G_ok mix 300 6 Try.func139 (by kernel_rfl) rfl (by kernel_rfl) (by kernel_rfl) (by kernel_rfl) rfl ?_
  simp [Try.f139, hc]
  refine loop_inv (fun p : Nat × List TBid × TL1Cur => p.1 ≤ 6 ∧ p.2.1.length = p.1 ∧ okCu p.2.2) (fun p => [(0, .ptr (0, 0) 0), (3, .own (0, 1) 3 0 p.2.1.length), (4, dI ((p.1 : Int) + 1))]) (fun p => [((0, 0), .box (encTL1Cur p.2.2)), ((0, 1), .arr false 3 yTBid (ML encTBid p.2.1))]) 2 (fun p => 7 - p.1) (0, [], c) 400 (by simp) (by simp [hc]) (by simp) ?_
  rintro ⟨p, l, d⟩ ⟨hp, hl, hk⟩
  simp only at hp hl hk
  have hb := below_bd d 7 (by omega)
  simp [hk]
  refine ⟨fun h => ?_, fun h => ?_⟩
  · skip
    repeat' (with_reducible first | apply And.intro | intro _)
    all_goals try (first | omega | assumption | (simp; done) | (simp only [below_eq, Int.reduceLT]; omega))
    refine Again.mk (p + 1, ?_, ?_) ?hinv ?hle ?hmu
    case hle =>
      simp
      repeat' (with_reducible first | apply and_rev | intro _)
      all_goals try dsimp only
      all_goals try with_reducible rfl
      all_goals try rfl
      all_goals (first | done | omega | (simp [*]; done) | (simp; omega) | trace_state)
    case hinv => (simp [*]; try (first | done | omega | (repeat' (with_reducible apply And.intro)) <;> (first | omega | assumption | trace_state)))
    case hmu => (simp; try omega)
  · have hbl : 0 < l.length → 0 ≤ v72 (n72 d 7) l.length ∧ v72 (n72 d 7) l.length < l.length ∧ (v72 (n72 d 7) l.length).toNat < l.length := fun h0 => by
      have := below_bd (n72 d 7) l.length (by omega)
      omega
    repeat' (with_reducible first | apply and_rev | apply Exists.intro | intro _)
    all_goals try dsimp only
    all_goals try with_reducible rfl
    all_goals try rfl
    all_goals (first | done | omega | assumption | exact List.length_pos_iff.2 (by assumption) | (simp [*]; done) | (simp [*]; omega) | (simp [*, below_eq]; done) | (simp [*, below_eq]; omega) | (simp only [below_eq, Int.reduceLT]; omega) | trace_state)
open Classical in
noncomputable def q139 (c : TL1Cur) : (List TBid) × TL1Cur := if h : okCu c ∧ True then Classical.choose (c139_ex c  h.1 h.2) else (default, ⟨[], 0, 0⟩)
theorem q139_sp (c : TL1Cur) (hc : okCu c) (hp : True) : (fun x_ : (List TBid) × TL1Cur => okCu x_.2 ∧ (fun x : List TBid => x.length ≤ 6) x_.1) (q139 c ) ∧ PCo Try.prog 139 [.ptr (0, 0) 0] (Tab.of [((0, 0), .box (encTL1Cur c))]) ((fun x_ : (List TBid) × TL1Cur => (fun x : List TBid => (.own (0, 1) 3 0 x.length : D)) x_.1) (q139 c )) (Tab.of ((fun x_ : (List TBid) × TL1Cur => (((0, 0), .box (encTL1Cur x_.2)) :: (fun x : List TBid => ([((0, 1), .arr false 3 yTBid (ML encTBid x))] : List (Nm × OO))) x_.1)) (q139 c ))) := by
  have e : q139 c  = Classical.choose (c139_ex c  hc hp) := by rw [q139, dif_pos ⟨hc, hp⟩]
  rw [e]
  exact Classical.choose_spec (c139_ex c  hc hp)
noncomputable def v139 (c : TL1Cur) : List TBid := (q139 c ).1
noncomputable def n139 (c : TL1Cur) : TL1Cur := (q139 c ).2
open Classical in
@[simp] theorem n139_ok (c : TL1Cur) : okCu (n139 c ) := by
  by_cases h : okCu c ∧ True
  · exact (q139_sp c  h.1 h.2).1.1
  · rw [n139, q139, dif_neg h]; exact ⟨by simp, by simp, by simp⟩
theorem v139_ok (c : TL1Cur) (hc : okCu c) (hp : True) : (fun x : List TBid => x.length ≤ 6) (v139 c ) := (q139_sp c  hc hp).1.2
noncomputable def c139 : Con := mkCon 139 true (α := TL1Cur) (fun x => (fun (c : TL1Cur) => ([.ptr (0, 0) 0] : List D)) x) (fun x => (fun (c : TL1Cur) => ([((0, 0), .box (encTL1Cur c))] : List (Nm × OO))) x) (fun x => (fun (c : TL1Cur) => okCu c ∧ True) x) (fun x => (fun (c : TL1Cur) => (fun x : List TBid => (.own (0, 1) 3 0 x.length : D)) (v139 c )) x) (fun x => (fun (c : TL1Cur) => (((0, 0), .box (encTL1Cur (n139 c ))) :: (fun x : List TBid => ([((0, 1), .arr false 3 yTBid (ML encTBid x))] : List (Nm × OO))) (v139 c ))) x)
@[simp] theorem c139_f : c139.f = 139 := rfl
@[simp] theorem c139_own : c139.own = true := rfl
theorem c139_inj : ∀ u_ v_ : TL1Cur, ((fun x => (fun (c : TL1Cur) => ([.ptr (0, 0) 0] : List D)) x) u_).map nz = ((fun x => (fun (c : TL1Cur) => ([.ptr (0, 0) 0] : List D)) x) v_).map nz → (fun x => (fun (c : TL1Cur) => ([((0, 0), .box (encTL1Cur c))] : List (Nm × OO))) x) u_ = (fun x => (fun (c : TL1Cur) => ([((0, 0), .box (encTL1Cur c))] : List (Nm × OO))) x) v_ → u_ = v_ := by
  intro u_ v_ h h2_
  obtain ⟨c_b_, c_i_, c_h_⟩ := u_
  obtain ⟨c_b_', c_i_', c_h_'⟩ := v_
  simp [nz_lit, nz1_lit, nz_agg, nz_sl, nz1_sl, nz_sx, nz_el, nz1_el, nz_own, nz1_own, nz_ptr, nz_fn, nz_iface] at h h2_
  first | (simp [h, h2_]; done) | (obtain ⟨h3_, h4_⟩ := List.append_inj h2_ h.1; simp_all; done) | simp_all | grind
@[simp] theorem c139_fn (c : TL1Cur) : c139.fn ([.ptr (0, 0) 0]) ([((0, 0), .box (.agg [.sl false 1 (.lit (.int .u8 0)) (ML dU c.b_), .lit (.int .i64 c.i_), .lit (.int .i64 c.h_)]))]) = some (okCu c ∧ True, (fun x : List TBid => (.own (0, 1) 3 0 x.length : D)) (v139 c ), (((0, 0), .box (encTL1Cur (n139 c ))) :: (fun x : List TBid => ([((0, 1), .arr false 3 yTBid (ML encTBid x))] : List (Nm × OO))) (v139 c ))) :=
  mkCon_fn c139_inj (c : TL1Cur) rfl rfl
theorem c139_ok : c139.ok Try.prog := mkCon_ok fun c hpre => (q139_sp c  hpre.1 hpre.2).2
/-- loop.example/g03007/spec.DrawAreBids -/
theorem c133_ex (l : List Int) (hp : l.length ≤ 2097152) : ∃ x_ : List TBid, (fun x : List TBid => x.length ≤ 6) x_ ∧ PCo Try.prog 133 [encLU l] (Tab.of []) ((fun x : List TBid => (.sl false 3 yTBid (ML encTBid x) : D)) x_) (Tab.of ((fun x : List TBid => ([] : List (Nm × OO))) x_)) := by
  refine pco_ex_of_run (fun x : List TBid => x.length ≤ 6) (fun x : List TBid => (.sl false 3 yTBid (ML encTBid x) : D)) (fun x : List TBid => ([] : List (Nm × OO))) [] (E := ⟨[c68, c139], [], []⟩) (m := false) (base := 0) (Env.ok_cons c68_ok (Env.ok_cons c139_ok Env.ok_nil)) G_ok mix 300 6 Try.func133 (by kernel_rfl) rfl (by kernel_rfl) (by kernel_rfl) (by kernel_rfl) rfl ?_
  simp [Try.f133, hp]
  have hk := v68_ok l hp
  have hl := v139_ok _ hk trivial
  simp [hk]
  repeat' (with_reducible first | apply and_rev | apply Exists.intro | intro _)
  all_goals try dsimp only
  all_goals try with_reducible rfl
  all_goals try rfl
  all_goals (first | done | omega | assumption | exact List.length_pos_iff.2 (by assumption) | (simp [*]; done) | (simp [*]; omega) | (simp [*, below_eq]; done) | (simp [*, below_eq]; omega) | (simp only [below_eq, Int.reduceLT]; omega) | trace_state)
open Classical in
noncomputable def q133 (l : List Int) : List TBid := if h : l.length ≤ 2097152 then Classical.choose (c133_ex l h) else default
theorem q133_sp (l : List Int) (hp : l.length ≤ 2097152) : (fun x : List TBid => x.length ≤ 6) (q133 l) ∧ PCo Try.prog 133 [encLU l] (Tab.of []) ((fun x : List TBid => (.sl false 3 yTBid (ML encTBid x) : D)) (q133 l)) (Tab.of ((fun x : List TBid => ([] : List (Nm × OO))) (q133 l))) := by
  have e : q133 l = Classical.choose (c133_ex l hp) := by rw [q133, dif_pos hp]
  rw [e]
  exact Classical.choose_spec (c133_ex l hp)
noncomputable def v133 (l : List Int) : List TBid := q133 l
theorem v133_ok (l : List Int) (hp : l.length ≤ 2097152) : (fun x : List TBid => x.length ≤ 6) (v133 l) := (q133_sp l hp).1
noncomputable def c133 : Con := mkCon 133 false (α := (List Int)) (fun x => (fun (l : List Int) => ([encLU l] : List D)) x) (fun x => (fun (l : List Int) => ([] : List (Nm × OO))) x) (fun x => (fun (l : List Int) => l.length ≤ 2097152) x) (fun x => (fun (l : List Int) => (fun x : List TBid => (.sl false 3 yTBid (ML encTBid x) : D)) (v133 l)) x) (fun x => (fun (l : List Int) => (fun x : List TBid => ([] : List (Nm × OO))) (v133 l)) x)
@[simp] theorem c133_f : c133.f = 133 := rfl
@[simp] theorem c133_own : c133.own = false := rfl
theorem c133_inj : ∀ u_ v_ : (List Int), ((fun x => (fun (l : List Int) => ([encLU l] : List D)) x) u_).map nz = ((fun x => (fun (l : List Int) => ([encLU l] : List D)) x) v_).map nz → (fun x => (fun (l : List Int) => ([] : List (Nm × OO))) x) u_ = (fun x => (fun (l : List Int) => ([] : List (Nm × OO))) x) v_ → u_ = v_ := by
  intro u_ v_ h h2_
  obtain l := u_
  obtain l' := v_
  simp [nz_lit, nz1_lit, nz_agg, nz_sl, nz1_sl, nz_sx, nz_el, nz1_el, nz_own, nz1_own, nz_ptr, nz_fn, nz_iface] at h h2_
  first | (simp [h, h2_]; done) | (obtain ⟨h3_, h4_⟩ := List.append_inj h2_ h.1; simp_all; done) | simp_all | grind
@[simp] theorem c133_fn (l : List Int) : c133.fn ([(.sl false 1 (.lit (.int .u8 0)) (ML dU l))]) ([]) = some (l.length ≤ 2097152, (fun x : List TBid => (.sl false 3 yTBid (ML encTBid x) : D)) (v133 l), (fun x : List TBid => ([] : List (Nm × OO))) (v133 l)) :=
  mkCon_fn c133_inj (l : (List Int)) rfl rfl
theorem c133_ok : c133.ok Try.prog := mkCon_ok fun l hpre => (q133_sp l hpre).2
/-- loop.example/g03007/spec.DrawWinner -/
theorem c58_ex (l : List Int) (hp : l.length ≤ 2097152) : ∃ x_ : List TBid, (fun x : List TBid => x.length ≤ 6) x_ ∧ PCo Try.prog 58 [encLU l] (Tab.of []) ((fun x : List TBid => (.sl false 3 yTBid (ML encTBid x) : D)) x_) (Tab.of ((fun x : List TBid => ([] : List (Nm × OO))) x_)) := by
  refine pco_ex_of_run (fun x : List TBid => x.length ≤ 6) (fun x : List TBid => (.sl false 3 yTBid (ML encTBid x) : D)) (fun x : List TBid => ([] : List (Nm × OO))) [] (E := ⟨[c133], [], []⟩) (m := false) (base := 0) (Env.ok_cons c133_ok Env.ok_nil) G_ok mix 300 6 Try.func58 (by kernel_rfl) rfl (by kernel_rfl) (by kernel_rfl) (by kernel_rfl) rfl ?_
  simp [Try.f58, hp]
  have hl := v133_ok l hp
  repeat' (with_reducible first | apply and_rev | apply Exists.intro | intro _)
  all_goals try dsimp only
  all_goals try with_reducible rfl
  all_goals try rfl
  all_goals (first | done | omega | assumption | exact List.length_pos_iff.2 (by assumption) | (simp [*]; done) | (simp [*]; omega) | (simp [*, below_eq]; done) | (simp [*, below_eq]; omega) | (simp only [below_eq, Int.reduceLT]; omega) | trace_state)
open Classical in
noncomputable def q58 (l : List Int) : List TBid := if h : l.length ≤ 2097152 then Classical.choose (c58_ex l h) else default
theorem q58_sp (l : List Int) (hp : l.length ≤ 2097152) : (fun x : List TBid => x.length ≤ 6) (q58 l) ∧ PCo Try.prog 58 [encLU l] (Tab.of []) ((fun x : List TBid => (.sl false 3 yTBid (ML encTBid x) : D)) (q58 l)) (Tab.of ((fun x : List TBid => ([] : List (Nm × OO))) (q58 l))) := by
  have e : q58 l = Classical.choose (c58_ex l hp) := by rw [q58, dif_pos hp]
  rw [e]
  exact Classical.choose_spec (c58_ex l hp)
noncomputable def v58 (l : List Int) : List TBid := q58 l
theorem v58_ok (l : List Int) (hp : l.length ≤ 2097152) : (fun x : List TBid => x.length ≤ 6) (v58 l) := (q58_sp l hp).1
noncomputable def c58 : Con := mkCon 58 false (α := (List Int)) (fun x => (fun (l : List Int) => ([encLU l] : List D)) x) (fun x => (fun (l : List Int) => ([] : List (Nm × OO))) x) (fun x => (fun (l : List Int) => l.length ≤ 2097152) x) (fun x => (fun (l : List Int) => (fun x : List TBid => (.sl false 3 yTBid (ML encTBid x) : D)) (v58 l)) x) (fun x => (fun (l : List Int) => (fun x : List TBid => ([] : List (Nm × OO))) (v58 l)) x)
@[simp] theorem c58_f : c58.f = 58 := rfl
@[simp] theorem c58_own : c58.own = false := rfl
theorem c58_inj : ∀ u_ v_ : (List Int), ((fun x => (fun (l : List Int) => ([encLU l] : List D)) x) u_).map nz = ((fun x => (fun (l : List Int) => ([encLU l] : List D)) x) v_).map nz → (fun x => (fun (l : List Int) => ([] : List (Nm × OO))) x) u_ = (fun x => (fun (l : List Int) => ([] : List (Nm × OO))) x) v_ → u_ = v_ := by
  intro u_ v_ h h2_
  obtain l := u_
  obtain l' := v_
  simp [nz_lit, nz1_lit, nz_agg, nz_sl, nz1_sl, nz_sx, nz_el, nz1_el, nz_own, nz1_own, nz_ptr, nz_fn, nz_iface] at h h2_
  first | (simp [h, h2_]; done) | (obtain ⟨h3_, h4_⟩ := List.append_inj h2_ h.1; simp_all; done) | simp_all | grind
@[simp] theorem c58_fn (l : List Int) : c58.fn ([(.sl false 1 (.lit (.int .u8 0)) (ML dU l))]) ([]) = some (l.length ≤ 2097152, (fun x : List TBid => (.sl false 3 yTBid (ML encTBid x) : D)) (v58 l), (fun x : List TBid => ([] : List (Nm × OO))) (v58 l)) :=
  mkCon_fn c58_inj (l : (List Int)) rfl rfl
theorem c58_ok : c58.ok Try.prog := mkCon_ok fun l hpre => (q58_sp l hpre).2
/-- loop.example/g03007/spec.DrawHighestBids -/
theorem c64_ex (l : List Int) (hp : l.length ≤ 2097152) : ∃ x_ : List TBid × Int, (fun x : List TBid × Int => x.1.length ≤ 6 ∧ -1 ≤ x.2 ∧ x.2 ≤ 7) x_ ∧ PCo Try.prog 64 [encLU l] (Tab.of []) ((fun x : List TBid × Int => (.tup [.sl false 3 yTBid (ML encTBid x.1), dI x.2] : D)) x_) (Tab.of ((fun x : List TBid × Int => ([] : List (Nm × OO))) x_)) := by
  refine pco_ex_of_run (fun x : List TBid × Int => x.1.length ≤ 6 ∧ -1 ≤ x.2 ∧ x.2 ≤ 7) (fun x : List TBid × Int => (.tup [.sl false 3 yTBid (ML encTBid x.1), dI x.2] : D)) (fun x : List TBid × Int => ([] : List (Nm × OO))) [] (E := ⟨[c68, c72, c139], [], []⟩) (m := false) (base := 0) (Env.ok_cons c68_ok (Env.ok_cons c72_ok (Env.ok_cons c139_ok Env.ok_nil))) G_ok mix 300 6 Try.func64 (by kernel_rfl) rfl (by kernel_rfl) (by kernel_rfl) (by kernel_rfl) rfl ?_
  simp [Try.f64, hp]
  have hk := v68_ok l hp
  have hl := v139_ok _ hk trivial
  simp [hk]
  repeat' (with_reducible first | apply and_rev | apply Exists.intro | intro _)
  all_goals try dsimp only
  all_goals try with_reducible rfl
  all_goals try rfl
  all_goals (first | done | omega | assumption | exact List.length_pos_iff.2 (by assumption) | (simp [*]; done) | (simp [*]; omega) | (simp [*, below_eq]; done) | (simp [*, below_eq]; omega) | (simp only [below_eq, Int.reduceLT]; omega) | trace_state)
open Classical in
noncomputable def q64 (l : List Int) : List TBid × Int := if h : l.length ≤ 2097152 then Classical.choose (c64_ex l h) else default
theorem q64_sp (l : List Int) (hp : l.length ≤ 2097152) : (fun x : List TBid × Int => x.1.length ≤ 6 ∧ -1 ≤ x.2 ∧ x.2 ≤ 7) (q64 l) ∧ PCo Try.prog 64 [encLU l] (Tab.of []) ((fun x : List TBid × Int => (.tup [.sl false 3 yTBid (ML encTBid x.1), dI x.2] : D)) (q64 l)) (Tab.of ((fun x : List TBid × Int => ([] : List (Nm × OO))) (q64 l))) := by
  have e : q64 l = Classical.choose (c64_ex l hp) := by rw [q64, dif_pos hp]
  rw [e]
  exact Classical.choose_spec (c64_ex l hp)
noncomputable def v64 (l : List Int) : List TBid × Int := q64 l
theorem v64_ok (l : List Int) (hp : l.length ≤ 2097152) : (fun x : List TBid × Int => x.1.length ≤ 6 ∧ -1 ≤ x.2 ∧ x.2 ≤ 7) (v64 l) := (q64_sp l hp).1
noncomputable def c64 : Con := mkCon 64 false (α := (List Int)) (fun x => (fun (l : List Int) => ([encLU l] : List D)) x) (fun x => (fun (l : List Int) => ([] : List (Nm × OO))) x) (fun x => (fun (l : List Int) => l.length ≤ 2097152) x) (fun x => (fun (l : List Int) => (fun x : List TBid × Int => (.tup [.sl false 3 yTBid (ML encTBid x.1), dI x.2] : D)) (v64 l)) x) (fun x => (fun (l : List Int) => (fun x : List TBid × Int => ([] : List (Nm × OO))) (v64 l)) x)
@[simp] theorem c64_f : c64.f = 64 := rfl
@[simp] theorem c64_own : c64.own = false := rfl
theorem c64_inj : ∀ u_ v_ : (List Int), ((fun x => (fun (l : List Int) => ([encLU l] : List D)) x) u_).map nz = ((fun x => (fun (l : List Int) => ([encLU l] : List D)) x) v_).map nz → (fun x => (fun (l : List Int) => ([] : List (Nm × OO))) x) u_ = (fun x => (fun (l : List Int) => ([] : List (Nm × OO))) x) v_ → u_ = v_ := by
  intro u_ v_ h h2_
  obtain l := u_
  obtain l' := v_
  simp [nz_lit, nz1_lit, nz_agg, nz_sl, nz1_sl, nz_sx, nz_el, nz1_el, nz_own, nz1_own, nz_ptr, nz_fn, nz_iface] at h h2_
  first | (simp [h, h2_]; done) | (obtain ⟨h3_, h4_⟩ := List.append_inj h2_ h.1; simp_all; done) | simp_all | grind
@[simp] theorem c64_fn (l : List Int) : c64.fn ([(.sl false 1 (.lit (.int .u8 0)) (ML dU l))]) ([]) = some (l.length ≤ 2097152, (fun x : List TBid × Int => (.tup [.sl false 3 yTBid (ML encTBid x.1), dI x.2] : D)) (v64 l), (fun x : List TBid × Int => ([] : List (Nm × OO))) (v64 l)) :=
  mkCon_fn c64_inj (l : (List Int)) rfl rfl
theorem c64_ok : c64.ok Try.prog := mkCon_ok fun l hpre => (q64_sp l hpre).2
/-- loop.example/g03007/spec.DrawIsOpened -/
theorem c65_ex (l : List Int) (hp : l.length ≤ 2097152) : ∃ x_ : TBid × Int, (fun x : TBid × Int => True) x_ ∧ PCo Try.prog 65 [encLU l] (Tab.of []) ((fun x : TBid × Int => (.tup [encTBid x.1, dI x.2] : D)) x_) (Tab.of ((fun x : TBid × Int => ([] : List (Nm × OO))) x_)) := by
  refine pco_ex_of_run (fun x : TBid × Int => True) (fun x : TBid × Int => (.tup [encTBid x.1, dI x.2] : D)) (fun x : TBid × Int => ([] : List (Nm × OO))) [] (E := ⟨[c68, c139, c140], [], []⟩) (m := false) (base := 1000000) (Env.ok_cons c68_ok (Env.ok_cons c139_ok (Env.ok_cons c140_ok Env.ok_nil))) G_ok mix 300 6 Try.func65 (by kernel_rfl) rfl (by kernel_rfl) (by kernel_rfl) (by kernel_rfl) rfl ?_
  simp [Try.f65, hp]
  have hk := v68_ok l hp
  have hl := v139_ok _ hk trivial
  simp [hk]
  repeat' (with_reducible first | apply and_rev | apply Exists.intro (⟨?_, ?_, ?_⟩ : TBid) | apply Exists.intro | intro _)
  all_goals try dsimp only
  all_goals try with_reducible rfl
  all_goals try rfl
  all_goals (first | done | omega | assumption | exact List.length_pos_iff.2 (by assumption) | (simp [*]; done) | (simp [*]; omega) | (simp [*, below_eq]; done) | (simp [*, below_eq]; omega) | (simp only [below_eq, Int.reduceLT]; omega) | trace_state)
open Classical in
noncomputable def q65 (l : List Int) : TBid × Int := if h : l.length ≤ 2097152 then Classical.choose (c65_ex l h) else default
theorem q65_sp (l : List Int) (hp : l.length ≤ 2097152) : (fun x : TBid × Int => True) (q65 l) ∧ PCo Try.prog 65 [encLU l] (Tab.of []) ((fun x : TBid × Int => (.tup [encTBid x.1, dI x.2] : D)) (q65 l)) (Tab.of ((fun x : TBid × Int => ([] : List (Nm × OO))) (q65 l))) := by
  have e : q65 l = Classical.choose (c65_ex l hp) := by rw [q65, dif_pos hp]
  rw [e]
  exact Classical.choose_spec (c65_ex l hp)
noncomputable def v65 (l : List Int) : TBid × Int := q65 l
theorem v65_ok (l : List Int) (hp : l.length ≤ 2097152) : (fun x : TBid × Int => True) (v65 l) := (q65_sp l hp).1
noncomputable def c65 : Con := mkCon 65 false (α := (List Int)) (fun x => (fun (l : List Int) => ([encLU l] : List D)) x) (fun x => (fun (l : List Int) => ([] : List (Nm × OO))) x) (fun x => (fun (l : List Int) => l.length ≤ 2097152) x) (fun x => (fun (l : List Int) => (fun x : TBid × Int => (.tup [encTBid x.1, dI x.2] : D)) (v65 l)) x) (fun x => (fun (l : List Int) => (fun x : TBid × Int => ([] : List (Nm × OO))) (v65 l)) x)
@[simp] theorem c65_f : c65.f = 65 := rfl
@[simp] theorem c65_own : c65.own = false := rfl
theorem c65_inj : ∀ u_ v_ : (List Int), ((fun x => (fun (l : List Int) => ([encLU l] : List D)) x) u_).map nz = ((fun x => (fun (l : List Int) => ([encLU l] : List D)) x) v_).map nz → (fun x => (fun (l : List Int) => ([] : List (Nm × OO))) x) u_ = (fun x => (fun (l : List Int) => ([] : List (Nm × OO))) x) v_ → u_ = v_ := by
  intro u_ v_ h h2_
  obtain l := u_
  obtain l' := v_
  simp [nz_lit, nz1_lit, nz_agg, nz_sl, nz1_sl, nz_sx, nz_el, nz1_el, nz_own, nz1_own, nz_ptr, nz_fn, nz_iface] at h h2_
  first | (simp [h, h2_]; done) | (obtain ⟨h3_, h4_⟩ := List.append_inj h2_ h.1; simp_all; done) | simp_all | grind
@[simp] theorem c65_fn (l : List Int) : c65.fn ([(.sl false 1 (.lit (.int .u8 0)) (ML dU l))]) ([]) = some (l.length ≤ 2097152, (fun x : TBid × Int => (.tup [encTBid x.1, dI x.2] : D)) (v65 l), (fun x : TBid × Int => ([] : List (Nm × OO))) (v65 l)) :=
  mkCon_fn c65_inj (l : (List Int)) rfl rfl
theorem c65_ok : c65.ok Try.prog := mkCon_ok fun l hpre => (q65_sp l hpre).2

end Go.Proofs.Ytpnfkjbnhholfaa
