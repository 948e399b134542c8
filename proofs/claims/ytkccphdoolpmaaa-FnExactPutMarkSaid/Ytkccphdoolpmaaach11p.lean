/- Contracts of the functions that the laws run. -/
import Derived.Test.Ytkccphdoolpmaaach11
import Derived.Test.YtkccphdoolpmaaaEngB
namespace Go.Proofs.Ytkccphdoolpmaaa
open Go Go.Eng
set_option linter.unusedSimpArgs false
set_option linter.unusedVariables false
set_option maxRecDepth 10000
set_option maxHeartbeats 1000000
abbrev mk_TMark : Int → TMark := fun n => ⟨n, n + 1⟩
/-- loop.example/g03007/laws.markMarkS -/
noncomputable def c42 : Con := mkCon 42 true (α := (List TMark) × Int) (fun x => (fun (l : List TMark) (k : Int) => ([.own (0, 0) 2 0 l.length, dI k] : List D)) x.1 x.2) (fun x => (fun (l : List TMark) (k : Int) => ([((0, 0), .arr false 2 yTMark (ML encTMark l))] : List (Nm × OO))) x.1 x.2) (fun x => (fun (l : List TMark) (k : Int) => l.length ≤ 1099511627776 ∧ 0 ≤ k ∧ k ≤ 1152921504606846976) x.1 x.2) (fun x => (fun (l : List TMark) (k : Int) => (dI (k + 2 * l.length) : D)) x.1 x.2) (fun x => (fun (l : List TMark) (k : Int) => ([((0, 0), .arr false 2 yTMark (ML encTMark (mkL mk_TMark 2 k l.length)))] : List (Nm × OO))) x.1 x.2)
@[simp] theorem c42_f : c42.f = 42 := rfl
@[simp] theorem c42_own : c42.own = true := rfl
theorem c42_inj : ∀ u_ v_ : (List TMark) × Int, ((fun x => (fun (l : List TMark) (k : Int) => ([.own (0, 0) 2 0 l.length, dI k] : List D)) x.1 x.2) u_).map nz = ((fun x => (fun (l : List TMark) (k : Int) => ([.own (0, 0) 2 0 l.length, dI k] : List D)) x.1 x.2) v_).map nz → (fun x => (fun (l : List TMark) (k : Int) => ([((0, 0), .arr false 2 yTMark (ML encTMark l))] : List (Nm × OO))) x.1 x.2) u_ = (fun x => (fun (l : List TMark) (k : Int) => ([((0, 0), .arr false 2 yTMark (ML encTMark l))] : List (Nm × OO))) x.1 x.2) v_ → u_ = v_ := by
  intro u_ v_ h h2_
  obtain ⟨l, k⟩ := u_
  obtain ⟨l', k'⟩ := v_
  simp [nz_lit, nz1_lit, nz_agg, nz_sl, nz1_sl, nz_sx, nz_el, nz1_el, nz_own, nz1_own, nz_ptr, nz_fn, nz_iface] at h h2_
  first | (simp [h, h2_]; done) | simp_all | grind
@[simp] theorem c42_fn (l : List TMark) (k : Int) : c42.fn ([.own (0, 0) 2 0 l.length, dI k]) ([((0, 0), .arr false 2 yTMark (ML encTMark l))]) = some (l.length ≤ 1099511627776 ∧ 0 ≤ k ∧ k ≤ 1152921504606846976, dI (k + 2 * l.length), [((0, 0), .arr false 2 yTMark (ML encTMark (mkL mk_TMark 2 k l.length)))]) :=
  mkCon_fn c42_inj ((l, k) : (List TMark) × Int) rfl rfl
theorem c42_pc (l : List TMark) (k : Int) (hpre : l.length ≤ 1099511627776 ∧ 0 ≤ k ∧ k ≤ 1152921504606846976) : PCo Try.prog 42 ([.own (0, 0) 2 0 l.length, dI k]) (Tab.of ([((0, 0), .arr false 2 yTMark (ML encTMark l))])) (dI (k + 2 * l.length)) (Tab.of ([((0, 0), .arr false 2 yTMark (ML encTMark (mkL mk_TMark 2 k l.length)))])) := by
  refine pco_of_run [] (E := ⟨[], []⟩) (m := false) (base := 0) Env.ok_nil G_ok mix 300 6 Try.func42 (by kernel_rfl) rfl (by kernel_rfl) (by kernel_rfl) rfl ?_
  simp [Try.f42]
  obtain ⟨pre1, pre2, pre3⟩ := hpre
  refine loop_inv (fun p : Nat => p ≤ l.length) (fun p => [(0, .own (0, 0) 2 0 l.length), (1, dI (k + 2 * p)), (5, dI p)]) (fun p => [((0, 0), .arr false 2 yTMark (ML encTMark (mkL mk_TMark 2 k p ++ l.drop p)))]) 2 (fun p => l.length - p) 0 100 (by simp) (by simp) (by simp) ?_
  intro p hp
  simp
  have hs : ∀ x, x = mk_TMark (k + 2 * (p : Int)) → p < l.length → mkL mk_TMark 2 k p ++ (l.drop p).set 0 x = mkL mk_TMark 2 k (p + 1) ++ l.drop (p + 1) := fun x hx hlt => mark_step0 hlt hx
  refine ⟨fun hlt => ?_, fun hge => ?_⟩
  · repeat' (first | omega | refine And.intro ?_ ?_ | intro _)
    all_goals refine Again.mk (p + 1) (by omega) ?_ (by first | omega | (simp; omega))
    all_goals (rw [hs _ (by simp [mark_get0 hlt, mark_get hlt]; first | done | omega) hlt]; simp; omega)
  have : p = l.length := by omega
  subst this
  simp
  trace_state
theorem c42_ok : c42.ok Try.prog := mkCon_ok fun ⟨l, k⟩ hpre => c42_pc l k hpre
/-- loop.example/g03007/laws.heldMarkS -/
noncomputable def c43 : Con := mkCon 43 false (α := (List TMark) × Int) (fun x => (fun (l : List TMark) (k : Int) => [encLTMark l, dI k]) x.1 x.2) (fun _ => []) (fun x => (fun (l : List TMark) (k : Int) => l.length ≤ 1099511627776 ∧ 0 ≤ k ∧ k ≤ 1152921504606846976) x.1 x.2) (fun x => (fun (l : List TMark) (k : Int) => (dI (if l = mkL mk_TMark 2 k l.length then k + 2 * l.length else -1) : D)) x.1 x.2) (fun x => (fun (l : List TMark) (k : Int) => []) x.1 x.2)
@[simp] theorem c43_f : c43.f = 43 := rfl
@[simp] theorem c43_own : c43.own = false := rfl
theorem c43_inj : ∀ u_ v_ : (List TMark) × Int, ((fun x => (fun (l : List TMark) (k : Int) => [encLTMark l, dI k]) x.1 x.2) u_).map nz = ((fun x => (fun (l : List TMark) (k : Int) => [encLTMark l, dI k]) x.1 x.2) v_).map nz → u_ = v_ := by
  intro u_ v_ h
  obtain ⟨l, k⟩ := u_
  obtain ⟨l', k'⟩ := v_
  simp [nz_lit, nz1_lit, nz_agg, nz_sl, nz1_sl, encLTMark] at h
  first | (simp [h]; done) | (obtain ⟨⟩ := h; simp_all; done) | simp_all
@[simp] theorem c43_fn (l : List TMark) (k : Int) : c43.fn [.sl false 2 yTMark (ML encTMark l), .lit (.int .i64 k)] [] = some ((fun (l : List TMark) (k : Int) => l.length ≤ 1099511627776 ∧ 0 ≤ k ∧ k ≤ 1152921504606846976) l k, (fun (l : List TMark) (k : Int) => (dI (if l = mkL mk_TMark 2 k l.length then k + 2 * l.length else -1) : D)) l k, (fun (l : List TMark) (k : Int) => []) l k) :=
  mkCon_fn (fun x y h _ => c43_inj x y h) ((l, k) : (List TMark) × Int) (by simp [nz, nz1, ML_nil, encLTMark]) rfl
@[simp] theorem c43_fn1 (s_l : Nat) (z_l : D) (k : Int) : c43.fn [.sl false s_l z_l [], .lit (.int .i64 k)] [] = some ((fun (l : List TMark) (k : Int) => l.length ≤ 1099511627776 ∧ 0 ≤ k ∧ k ≤ 1152921504606846976) [] k, (fun (l : List TMark) (k : Int) => (dI (if l = mkL mk_TMark 2 k l.length then k + 2 * l.length else -1) : D)) [] k, (fun (l : List TMark) (k : Int) => []) [] k) :=
  mkCon_fn (fun x y h _ => c43_inj x y h) (([], k) : (List TMark) × Int) (by simp [nz, nz1, ML_nil, encLTMark]) rfl
theorem c43_pc (l : List TMark) (k : Int) (hpre : l.length ≤ 1099511627776 ∧ 0 ≤ k ∧ k ≤ 1152921504606846976) : PCo Try.prog 43 [encLTMark l, dI k] (Tab.of []) (dI (if l = mkL mk_TMark 2 k l.length then k + 2 * l.length else -1)) (Tab.of []) := by
  refine pco_of_run [] (E := ⟨[], []⟩) (m := false) (base := 0) Env.ok_nil G_ok mix 300 6 Try.func43 (by kernel_rfl) rfl (by kernel_rfl) (by kernel_rfl) rfl ?_
  simp [Try.f43]
  obtain ⟨pre1, pre2, pre3⟩ := hpre
  refine loop_inv (fun p : Nat => p ≤ l.length ∧ l.take p = (mkL mk_TMark 2 k l.length).take p) (fun p => [(0, encLTMark l), (1, dI (k + 2 * p)), (5, dI p)]) (fun _ => []) 1 (fun p => l.length - p) 0 100 (by simp) (by simp) (by simp) ?_
  intro p ⟨hp, hi⟩
  simp
  refine ⟨fun hlt => ?_, fun hge => ?_⟩
  · have hx := mkL_get (f := mk_TMark) (m := 2) (k := k) (d := default) hlt
    by_cases he : l[p]?.getD default = mk_TMark (k + 2 * (p : Int))
    · generalize hA : Again _ _ _ _ _ _ _ = A
      have hAA : A := by rw [← hA]; exact Again.mk (p + 1) ⟨by omega, take_eq_step hi (by omega) (by simp; omega) (by rw [hx]; exact he)⟩ (by simp; omega) (by first | omega | (simp; omega))
      clear hA
      simp only [he, mk_TMark]
      repeat' (first | exact hAA | omega | refine And.intro ?_ ?_ | intro _)
      all_goals first | (exfalso; exact absurd trivial (by assumption)) | (exfalso; omega)
    · have hne : ¬ l = mkL mk_TMark 2 k l.length := fun e => he (by rw [← hx]; exact congrArg (fun z => z[p]?.getD default) e)
      generalize Again _ _ _ _ _ _ _ = A
      repeat' (first | omega | rfl | refine And.intro ?_ ?_ | intro _)
      all_goals first | (exfalso; apply hne; assumption) | (exfalso; apply he; obtain ⟨x, hq⟩ : ∃ x, l[p]?.getD default = x := ⟨_, rfl⟩; simp only [hq] at *; obtain ⟨x1, x2⟩ := x; simp [mk_TMark] at *; omega)
  · have h4 := take_eq_full hi hge (by simp; omega)
    rw [if_pos h4]; omega
theorem c43_ok : c43.ok Try.prog := mkCon_ok fun ⟨l, k⟩ hpre => c43_pc l k hpre
/-- (loop.example/g03007/impl.sortedList[loop.example/g03007/impl.Mark]).put$1 -/
noncomputable def c141 : Con := mkCon 141 false (α := TMark × (List TMark) × Int) (fun x => (fun (x : TMark) (l : List TMark) (n : Int) => ([encTMark x, .el (.agg [.sl false 2 yTMark (ML encTMark l), .fn (.func 139) [] []]), .el (dI n)] : List D)) x.1 x.2.1 x.2.2) (fun x => (fun (x : TMark) (l : List TMark) (n : Int) => ([] : List (Nm × OO))) x.1 x.2.1 x.2.2) (fun x => (fun (x : TMark) (l : List TMark) (n : Int) => True) x.1 x.2.1 x.2.2) (fun x => (fun (x : TMark) (l : List TMark) (n : Int) => (dB (geN nMark n x) : D)) x.1 x.2.1 x.2.2) (fun x => (fun (x : TMark) (l : List TMark) (n : Int) => ([] : List (Nm × OO))) x.1 x.2.1 x.2.2)
@[simp] theorem c141_f : c141.f = 141 := rfl
@[simp] theorem c141_own : c141.own = false := rfl
theorem c141_inj : ∀ u_ v_ : TMark × (List TMark) × Int, ((fun x => (fun (x : TMark) (l : List TMark) (n : Int) => ([encTMark x, .el (.agg [.sl false 2 yTMark (ML encTMark l), .fn (.func 139) [] []]), .el (dI n)] : List D)) x.1 x.2.1 x.2.2) u_).map nz = ((fun x => (fun (x : TMark) (l : List TMark) (n : Int) => ([encTMark x, .el (.agg [.sl false 2 yTMark (ML encTMark l), .fn (.func 139) [] []]), .el (dI n)] : List D)) x.1 x.2.1 x.2.2) v_).map nz → (fun x => (fun (x : TMark) (l : List TMark) (n : Int) => ([] : List (Nm × OO))) x.1 x.2.1 x.2.2) u_ = (fun x => (fun (x : TMark) (l : List TMark) (n : Int) => ([] : List (Nm × OO))) x.1 x.2.1 x.2.2) v_ → u_ = v_ := by
  intro u_ v_ h h2_
  obtain ⟨⟨x_Question, x_Answer⟩, l, n⟩ := u_
  obtain ⟨⟨x_Question', x_Answer'⟩, l', n'⟩ := v_
  simp [nz_lit, nz1_lit, nz_agg, nz_sl, nz1_sl, nz_sx, nz_el, nz1_el, nz_own, nz1_own, nz_ptr, nz_fn, nz_iface] at h h2_
  first | (simp [h, h2_]; done) | simp_all | grind
@[simp] theorem c141_fn (x_Question : Int) (x_Answer : Int) (l : List TMark) (n : Int) : c141.fn ([.agg [.lit (.int .i64 x_Question), .lit (.int .i64 x_Answer)], .el (.agg [.sl false 2 yTMark (ML encTMark l), .fn (.func 139) [] []]), .el (dI n)]) ([]) = some (True, dB (geN nMark n (⟨x_Question, x_Answer⟩ : TMark)), []) :=
  mkCon_fn c141_inj ((⟨x_Question, x_Answer⟩, l, n) : TMark × (List TMark) × Int) rfl rfl
theorem c141_pc (x : TMark) (l : List TMark) (n : Int) : PCo Try.prog 141 ([encTMark x, .el (.agg [.sl false 2 yTMark (ML encTMark l), .fn (.func 139) [] []]), .el (dI n)]) (Tab.of ([])) (dB (geN nMark n x)) (Tab.of ([])) := by
  refine pco_of_run [1] (E := ⟨[c139], []⟩) (m := false) (base := 0) (Env.ok_cons c139_ok Env.ok_nil) G_ok mix 300 6 Try.func141 (by kernel_rfl) rfl (by kernel_rfl) (by kernel_rfl) rfl ?_
  simp [Try.f141]
  simp [geN]; first | done | rfl
theorem c141_ok : c141.ok Try.prog := mkCon_ok fun ⟨x, l, n⟩ hpre => c141_pc x l n
/-- slices.IndexFunc[[]loop.example/g03007/impl.Mar -/
noncomputable def c140_p : Con := mkCon 140 false (α := (List TMark) × (List TMark) × Int) (fun x => (fun (l : List TMark) (l2 : List TMark) (n : Int) => ([.sl false 2 yTMark (ML encTMark l), .fn (.func 141) [] [.el (.agg [.sl false 2 yTMark (ML encTMark l2), .fn (.func 139) [] []]), .el (dI n)]] : List D)) x.1 x.2.1 x.2.2) (fun x => (fun (l : List TMark) (l2 : List TMark) (n : Int) => ([] : List (Nm × OO))) x.1 x.2.1 x.2.2) (fun x => (fun (l : List TMark) (l2 : List TMark) (n : Int) => l.length ≤ 1099511627776) x.1 x.2.1 x.2.2) (fun x => (fun (l : List TMark) (l2 : List TMark) (n : Int) => (dI (indexBy (geN nMark n) 0 l) : D)) x.1 x.2.1 x.2.2) (fun x => (fun (l : List TMark) (l2 : List TMark) (n : Int) => ([] : List (Nm × OO))) x.1 x.2.1 x.2.2)
@[simp] theorem c140_p_f : c140_p.f = 140 := rfl
@[simp] theorem c140_p_own : c140_p.own = false := rfl
theorem c140_p_inj : ∀ u_ v_ : (List TMark) × (List TMark) × Int, ((fun x => (fun (l : List TMark) (l2 : List TMark) (n : Int) => ([.sl false 2 yTMark (ML encTMark l), .fn (.func 141) [] [.el (.agg [.sl false 2 yTMark (ML encTMark l2), .fn (.func 139) [] []]), .el (dI n)]] : List D)) x.1 x.2.1 x.2.2) u_).map nz = ((fun x => (fun (l : List TMark) (l2 : List TMark) (n : Int) => ([.sl false 2 yTMark (ML encTMark l), .fn (.func 141) [] [.el (.agg [.sl false 2 yTMark (ML encTMark l2), .fn (.func 139) [] []]), .el (dI n)]] : List D)) x.1 x.2.1 x.2.2) v_).map nz → (fun x => (fun (l : List TMark) (l2 : List TMark) (n : Int) => ([] : List (Nm × OO))) x.1 x.2.1 x.2.2) u_ = (fun x => (fun (l : List TMark) (l2 : List TMark) (n : Int) => ([] : List (Nm × OO))) x.1 x.2.1 x.2.2) v_ → u_ = v_ := by
  intro u_ v_ h h2_
  obtain ⟨l, l2, n⟩ := u_
  obtain ⟨l', l2', n'⟩ := v_
  simp [nz_lit, nz1_lit, nz_agg, nz_sl, nz1_sl, nz_sx, nz_el, nz1_el, nz_own, nz1_own, nz_ptr, nz_fn, nz_iface] at h h2_
  first | (simp [h, h2_]; done) | simp_all | grind
@[simp] theorem c140_p_fn (l : List TMark) (l2 : List TMark) (n : Int) : c140_p.fn ([.sl false 2 yTMark (ML encTMark l), .fn (.func 141) [] [.el (.agg [.sl false 2 yTMark (ML encTMark l2), .fn (.func 139) [] []]), .el (dI n)]]) ([]) = some (l.length ≤ 1099511627776, dI (indexBy (geN nMark n) 0 l), []) :=
  mkCon_fn c140_p_inj ((l, l2, n) : (List TMark) × (List TMark) × Int) rfl rfl
theorem c140_p_pc (l : List TMark) (l2 : List TMark) (n : Int) (hpre : l.length ≤ 1099511627776) : PCo Try.prog 140 ([.sl false 2 yTMark (ML encTMark l), .fn (.func 141) [] [.el (.agg [.sl false 2 yTMark (ML encTMark l2), .fn (.func 139) [] []]), .el (dI n)]]) (Tab.of ([])) (dI (indexBy (geN nMark n) 0 l)) (Tab.of ([])) := by
  refine pco_of_run [] (E := ⟨[c141], []⟩) (m := false) (base := 0) (Env.ok_cons c141_ok Env.ok_nil) G_ok mix 300 6 Try.func140 (by kernel_rfl) rfl (by kernel_rfl) (by kernel_rfl) rfl ?_
  simp [Try.f140]
  refine loop_inv (fun p : Nat => p ≤ l.length ∧ indexBy (geN nMark n) 0 l = indexBy (geN nMark n) p (l.drop p)) (fun p => [(0, .sl false 2 yTMark (ML encTMark l)), (1, .fn (.func 141) [] [.el (.agg [.sl false 2 yTMark (ML encTMark l2), .fn (.func 139) [] []]), .el (dI n)]), (7, dI l.length), (8, dI p)]) (fun _ => []) 1 (fun p => l.length - p) 0 400 (by simp) (by simp) (by simp) ?_
  intro p ⟨hp, hi⟩
  simp
  refine ⟨fun hlt => ?_, fun hge => ?_⟩
  · rw [indexBy_at (d := default) hlt] at hi
    repeat' (first | omega | refine And.intro ?_ ?_ | intro _)
    all_goals first | exact Again.mk (p + 1) ⟨by omega, by rw [hi]; grind⟩ (by simp) (by first | omega | (simp; omega)) | (rw [hi]; grind)
  · rw [hi, indexBy_end hge]
theorem c140_p_ok : c140_p.ok Try.prog := mkCon_ok fun ⟨l, l2, n⟩ hpre => c140_p_pc l l2 n hpre
noncomputable def c140 : Con := selCon 140 false [([141], c140_p)]
@[simp] theorem c140_f : c140.f = 140 := rfl
@[simp] theorem c140_own : c140.own = false := rfl
@[simp] theorem c140_fn0 (l : List TMark) (l2 : List TMark) (n : Int) : c140.fn ([.sl false 2 yTMark (ML encTMark l), .fn (.func 141) [] [.el (.agg [.sl false 2 yTMark (ML encTMark l2), .fn (.func 139) [] []]), .el (dI n)]]) ([]) = some (l.length ≤ 1099511627776, dI (indexBy (geN nMark n) 0 l), []) := by
  rw [c140, selCon_fn]
  have h : selK [([141], c140_p)] (keyDs ([.sl false 2 yTMark (ML encTMark l), .fn (.func 141) [] [.el (.agg [.sl false 2 yTMark (ML encTMark l2), .fn (.func 139) [] []]), .el (dI n)]])) = some c140_p := by simp
  rw [h]
  exact c140_p_fn l l2 n
theorem c140_ok : c140.ok Try.prog := selCon_ok fun p hp => by
  simp only [List.mem_cons, List.not_mem_nil, or_false] at hp
  rcases hp with rfl
  · exact ⟨rfl, c140_p_ok⟩
/-- slices.Clone[[]loop.example/g03007/impl.Mar -/
noncomputable def c102 : Con := mkCon 102 false (α := (List TMark)) (fun x => (fun (l : List TMark) => [encLTMark l]) x) (fun _ => []) (fun x => (fun (l : List TMark) => l.length ≤ 1073741824) x) (fun x => (fun (l : List TMark) => (.own (0, 1) 2 0 l.length : D)) x) (fun x => (fun (l : List TMark) => [((0, 1), .arr false 2 yTMark (ML encTMark l))]) x)
@[simp] theorem c102_f : c102.f = 102 := rfl
@[simp] theorem c102_own : c102.own = false := rfl
theorem c102_inj : ∀ u_ v_ : (List TMark), ((fun x => (fun (l : List TMark) => [encLTMark l]) x) u_).map nz = ((fun x => (fun (l : List TMark) => [encLTMark l]) x) v_).map nz → u_ = v_ := by
  intro u_ v_ h
  obtain l := u_
  obtain l' := v_
  simp [nz_lit, nz1_lit, nz_agg, nz_sl, nz1_sl, encLTMark] at h
  first | (simp [h]; done) | (obtain ⟨⟩ := h; simp_all; done) | simp_all
@[simp] theorem c102_fn (l : List TMark) : c102.fn [.sl false 2 yTMark (ML encTMark l)] [] = some ((fun (l : List TMark) => l.length ≤ 1073741824) l, (fun (l : List TMark) => (.own (0, 1) 2 0 l.length : D)) l, (fun (l : List TMark) => [((0, 1), .arr false 2 yTMark (ML encTMark l))]) l) :=
  mkCon_fn (fun x y h _ => c102_inj x y h) (l : (List TMark)) (by simp [nz, nz1, ML_nil, encLTMark]) rfl
@[simp] theorem c102_fn1 (s_l : Nat) (z_l : D) : c102.fn [.sl false s_l z_l []] [] = some ((fun (l : List TMark) => l.length ≤ 1073741824) [], (fun (l : List TMark) => (.own (0, 1) 2 0 l.length : D)) [], (fun (l : List TMark) => [((0, 1), .arr false 2 yTMark (ML encTMark l))]) []) :=
  mkCon_fn (fun x y h _ => c102_inj x y h) ([] : (List TMark)) (by simp [nz, nz1, ML_nil, encLTMark]) rfl
theorem c102_pc (l : List TMark) (hpre : l.length ≤ 1073741824) : PCo Try.prog 102 [encLTMark l] (Tab.of []) (.own (0, 1) 2 0 l.length) (Tab.of [((0, 1), .arr false 2 yTMark (ML encTMark l))]) := by
  by_cases hl : l = []
  · subst hl
    show PCo Try.prog 102 [.sl false 2 yTMark []] Tab.nil (.own (0, 1) 2 0 0) (Tab.of [((0, 1), .arr false 2 yTMark [])])
    refine pco_slice fun a cap => ?_
    cases a with
    | none =>
      refine pc_ghost (s' := 0) (z' := .any) ?_
      refine pco_of_run [] (tin := []) (E := ⟨[], []⟩) (m := false) (base := 0) Env.ok_nil G_ok mix 300 6 Try.func102 (by kernel_rfl) rfl (by kernel_rfl) (by kernel_rfl) rfl ?_
      simp [Try.f102]
    | some q =>
      refine pco_of_run [] (tin := []) (E := ⟨[], []⟩) (m := false) (base := 0) Env.ok_nil G_ok mix 300 6 Try.func102 (by kernel_rfl) rfl (by kernel_rfl) (by kernel_rfl) rfl ?_
      simp [Try.f102]
  · refine pco_of_run [] (E := ⟨[], []⟩) (m := false) (base := 0) Env.ok_nil G_ok mix 300 6 Try.func102 (by kernel_rfl) rfl (by kernel_rfl) (by kernel_rfl) rfl ?_
    simp [Try.f102, -nilS, nilS_ML hl]
    omega
theorem c102_ok : c102.ok Try.prog := mkCon_ok fun l hpre => c102_pc l hpre
/-- (loop.example/g03007/impl.sortedList[loop.example/g03007/impl.Mark]).put -/
noncomputable def c100 : Con := mkCon 100 false (α := (List TMark) × TMark) (fun x => (fun (l : List TMark) (x : TMark) => ([.agg [.sl false 2 yTMark (ML encTMark l), .fn (.func 139) [] []], encTMark x] : List D)) x.1 x.2) (fun x => (fun (l : List TMark) (x : TMark) => ([] : List (Nm × OO))) x.1 x.2) (fun x => (fun (l : List TMark) (x : TMark) => l.length ≤ 1073741823) x.1 x.2) (fun x => (fun (l : List TMark) (x : TMark) => (.own (0, 1) 2 0 (putBy nMark x l).length : D)) x.1 x.2) (fun x => (fun (l : List TMark) (x : TMark) => ([((0, 1), .arr false 2 yTMark (ML encTMark (putBy nMark x l)))] : List (Nm × OO))) x.1 x.2)
@[simp] theorem c100_f : c100.f = 100 := rfl
@[simp] theorem c100_own : c100.own = false := rfl
theorem c100_inj : ∀ u_ v_ : (List TMark) × TMark, ((fun x => (fun (l : List TMark) (x : TMark) => ([.agg [.sl false 2 yTMark (ML encTMark l), .fn (.func 139) [] []], encTMark x] : List D)) x.1 x.2) u_).map nz = ((fun x => (fun (l : List TMark) (x : TMark) => ([.agg [.sl false 2 yTMark (ML encTMark l), .fn (.func 139) [] []], encTMark x] : List D)) x.1 x.2) v_).map nz → (fun x => (fun (l : List TMark) (x : TMark) => ([] : List (Nm × OO))) x.1 x.2) u_ = (fun x => (fun (l : List TMark) (x : TMark) => ([] : List (Nm × OO))) x.1 x.2) v_ → u_ = v_ := by
  intro u_ v_ h h2_
  obtain ⟨l, ⟨x_Question, x_Answer⟩⟩ := u_
  obtain ⟨l', ⟨x_Question', x_Answer'⟩⟩ := v_
  simp [nz_lit, nz1_lit, nz_agg, nz_sl, nz1_sl, nz_sx, nz_el, nz1_el, nz_own, nz1_own, nz_ptr, nz_fn, nz_iface] at h h2_
  first | (simp [h, h2_]; done) | simp_all | grind
@[simp] theorem c100_fn (l : List TMark) (x_Question : Int) (x_Answer : Int) : c100.fn ([.agg [.sl false 2 yTMark (ML encTMark l), .fn (.func 139) [] []], .agg [.lit (.int .i64 x_Question), .lit (.int .i64 x_Answer)]]) ([]) = some (l.length ≤ 1073741823, .own (0, 1) 2 0 (putBy nMark (⟨x_Question, x_Answer⟩ : TMark) l).length, [((0, 1), .arr false 2 yTMark (ML encTMark (putBy nMark (⟨x_Question, x_Answer⟩ : TMark) l)))]) :=
  mkCon_fn c100_inj ((l, ⟨x_Question, x_Answer⟩) : (List TMark) × TMark) rfl rfl
theorem c100_pc (l : List TMark) (x : TMark) (hpre : l.length ≤ 1073741823) : PCo Try.prog 100 ([.agg [.sl false 2 yTMark (ML encTMark l), .fn (.func 139) [] []], encTMark x]) (Tab.of ([])) (.own (0, 1) 2 0 (putBy nMark x l).length) (Tab.of ([((0, 1), .arr false 2 yTMark (ML encTMark (putBy nMark x l)))])) := by
  refine pco_of_run [6, 1008] (E := ⟨[c140, c141, c139], []⟩) (m := false) (base := 0) (Env.ok_cons c140_ok (Env.ok_cons c141_ok (Env.ok_cons c139_ok Env.ok_nil))) G_ok mix 300 6 Try.func100 (by kernel_rfl) rfl (by kernel_rfl) (by kernel_rfl) rfl ?_
  have hb := indexBy_bd (want := geN nMark (nMark x)) l 0
  have hl : ¬ (l.length : Int) < 0 := by omega
  simp only [nMark] at hb
  by_cases hneg : indexBy (geN nMark (nMark x)) 0 l < 0
  · have e1 : putAt nMark (nMark x) l = l.length := by unfold putAt; exact if_pos hneg
    have e2 : putRest nMark (nMark x) l = l.length := by unfold putRest; rw [e1]; simp
    have e3 : putBy nMark x l = l ++ [x] := by simp only [putBy]; rw [e1, e2]; simp
    rw [e3]
    simp only [nMark] at hneg
    simp [Try.f100, hneg, ↓ML_getD_TMark]
    omega
  · obtain ⟨k, hk, hkl⟩ : ∃ k : Nat, indexBy (geN nMark (nMark x)) 0 l = k ∧ k < l.length := ⟨(indexBy (geN nMark (nMark x)) 0 l).toNat, by simp only [nMark] at *; omega, by simp only [nMark] at *; omega⟩
    have e1 : putAt nMark (nMark x) l = k := by unfold putAt; rw [hk]; simp; intro h; omega
    by_cases hq : nMark (l[k]?.getD default) = nMark x
    · have e2 : putRest nMark (nMark x) l = k + 1 := by unfold putRest; rw [e1]; exact if_pos ⟨hkl, hq⟩
      have e3 : putBy nMark x l = l.take k ++ x :: l.drop (k + 1) := by simp only [putBy]; rw [e1, e2]
      rw [e3]
      simp only [nMark] at hk hq
      simp [Try.f100, hk, hq, ↓ML_getD_TMark]
      omega
    · have e2 : putRest nMark (nMark x) l = k := by unfold putRest; rw [e1]; exact if_neg fun h => hq h.2
      have e3 : putBy nMark x l = l.take k ++ x :: l.drop k := by simp only [putBy]; rw [e1, e2]
      rw [e3]
      simp only [nMark] at hk hq
      simp [Try.f100, hk, hq, ↓ML_getD_TMark]
      omega
theorem c100_ok : c100.ok Try.prog := mkCon_ok fun ⟨l, x⟩ hpre => c100_pc l x hpre
theorem ML_tailM (l : List TMark) : (ML encTMark l).tail = ML encTMark l.tail := by cases l <;> rfl
def mPutMark (l : List TMark) (x : TMark) : List TMark := if mAreMarks (putBy nMark x l) then putBy nMark x l else l
theorem mPutMark_yes {l : List TMark} {x : TMark} (h : mAreMarks (putBy nMark x l) = true) : mPutMark l x = putBy nMark x l := by simp [mPutMark, h]
theorem mPutMark_no {l : List TMark} {x : TMark} (h : mAreMarks (putBy nMark x l) = false) : mPutMark l x = l := by simp [mPutMark, h]
theorem mPutMark_len (l : List TMark) (x : TMark) : (mPutMark l x).length ≤ l.length + 1 := by
  have := putBy_len nMark x l
  simp only [mPutMark]; split <;> omega
/-- loop.example/g03007/impl.PutMark -/
noncomputable def c40 : Con := mkCon 40 false (α := (List TMark) × TMark) (fun x => (fun (l : List TMark) (x : TMark) => [encLTMark l, encTMark x]) x.1 x.2) (fun _ => []) (fun x => (fun (l : List TMark) (x : TMark) => l.length ≤ 1073741823) x.1 x.2) (fun x => (fun (l : List TMark) (x : TMark) => (.tup [.own (0, 1) 2 0 (mPutMark l x).length, dB (mAreMarks (putBy nMark x l))] : D)) x.1 x.2) (fun x => (fun (l : List TMark) (x : TMark) => [((0, 1), .arr false 2 yTMark (ML encTMark (mPutMark l x)))]) x.1 x.2)
@[simp] theorem c40_f : c40.f = 40 := rfl
@[simp] theorem c40_own : c40.own = false := rfl
theorem c40_inj : ∀ u_ v_ : (List TMark) × TMark, ((fun x => (fun (l : List TMark) (x : TMark) => [encLTMark l, encTMark x]) x.1 x.2) u_).map nz = ((fun x => (fun (l : List TMark) (x : TMark) => [encLTMark l, encTMark x]) x.1 x.2) v_).map nz → u_ = v_ := by
  intro u_ v_ h
  obtain ⟨l, ⟨x_Question, x_Answer⟩⟩ := u_
  obtain ⟨l', ⟨x_Question', x_Answer'⟩⟩ := v_
  simp [nz_lit, nz1_lit, nz_agg, nz_sl, nz1_sl, encLTMark, encTMark] at h
  first | (simp [h]; done) | (obtain ⟨⟩ := h; simp_all; done) | simp_all
@[simp] theorem c40_fn (l : List TMark) (x_Question : Int) (x_Answer : Int) : c40.fn [.sl false 2 yTMark (ML encTMark l), .agg [.lit (.int .i64 x_Question), .lit (.int .i64 x_Answer)]] [] = some ((fun (l : List TMark) (x : TMark) => l.length ≤ 1073741823) l ⟨x_Question, x_Answer⟩, (fun (l : List TMark) (x : TMark) => (.tup [.own (0, 1) 2 0 (mPutMark l x).length, dB (mAreMarks (putBy nMark x l))] : D)) l ⟨x_Question, x_Answer⟩, (fun (l : List TMark) (x : TMark) => [((0, 1), .arr false 2 yTMark (ML encTMark (mPutMark l x)))]) l ⟨x_Question, x_Answer⟩) :=
  mkCon_fn (fun x y h _ => c40_inj x y h) ((l, ⟨x_Question, x_Answer⟩) : (List TMark) × TMark) (by simp [nz, nz1, ML_nil, encLTMark, encTMark]) rfl
@[simp] theorem c40_fn1 (s_l : Nat) (z_l : D) (x_Question : Int) (x_Answer : Int) : c40.fn [.sl false s_l z_l [], .agg [.lit (.int .i64 x_Question), .lit (.int .i64 x_Answer)]] [] = some ((fun (l : List TMark) (x : TMark) => l.length ≤ 1073741823) [] ⟨x_Question, x_Answer⟩, (fun (l : List TMark) (x : TMark) => (.tup [.own (0, 1) 2 0 (mPutMark l x).length, dB (mAreMarks (putBy nMark x l))] : D)) [] ⟨x_Question, x_Answer⟩, (fun (l : List TMark) (x : TMark) => [((0, 1), .arr false 2 yTMark (ML encTMark (mPutMark l x)))]) [] ⟨x_Question, x_Answer⟩) :=
  mkCon_fn (fun x y h _ => c40_inj x y h) (([], ⟨x_Question, x_Answer⟩) : (List TMark) × TMark) (by simp [nz, nz1, ML_nil, encLTMark, encTMark]) rfl
theorem c40_pc (l : List TMark) (x : TMark) (hpre : l.length ≤ 1073741823) : PCo Try.prog 40 [encLTMark l, encTMark x] (Tab.of []) (.tup [.own (0, 1) 2 0 (mPutMark l x).length, dB (mAreMarks (putBy nMark x l))]) (Tab.of [((0, 1), .arr false 2 yTMark (ML encTMark (mPutMark l x)))]) := by
  refine pco_of_run [1001] (E := ⟨[c99, c100, c101, c102], []⟩) (m := false) (base := 0) (Env.ok_cons c99_ok (Env.ok_cons c100_ok (Env.ok_cons c101_ok (Env.ok_cons c102_ok Env.ok_nil)))) G_ok mix 300 6 Try.func40 (by kernel_rfl) rfl (by kernel_rfl) (by kernel_rfl) rfl ?_
  have hz := putBy_len nMark x l
  cases h : mAreMarks (putBy nMark x l) with
  | true =>
    simp [Try.f40, h, mPutMark_yes h]
    omega
  | false =>
    simp [Try.f40, h, mPutMark_no h]
    omega
theorem c40_ok : c40.ok Try.prog := mkCon_ok fun ⟨l, x⟩ hpre => c40_pc l x hpre
/-- loop.example/g03007/spec.PutMark -/
noncomputable def c37 : Con := mkCon 37 false (α := (List TMark) × TMark) (fun x => (fun (l : List TMark) (x : TMark) => [encLTMark l, encTMark x]) x.1 x.2) (fun _ => []) (fun x => (fun (l : List TMark) (x : TMark) => l.length ≤ 1073741823) x.1 x.2) (fun x => (fun (l : List TMark) (x : TMark) => (.tup [.own (0, 1) 2 0 (mPutMark l x).length, dB (mAreMarks (putBy nMark x l))] : D)) x.1 x.2) (fun x => (fun (l : List TMark) (x : TMark) => [((0, 1), .arr false 2 yTMark (ML encTMark (mPutMark l x)))]) x.1 x.2)
@[simp] theorem c37_f : c37.f = 37 := rfl
@[simp] theorem c37_own : c37.own = false := rfl
theorem c37_inj : ∀ u_ v_ : (List TMark) × TMark, ((fun x => (fun (l : List TMark) (x : TMark) => [encLTMark l, encTMark x]) x.1 x.2) u_).map nz = ((fun x => (fun (l : List TMark) (x : TMark) => [encLTMark l, encTMark x]) x.1 x.2) v_).map nz → u_ = v_ := by
  intro u_ v_ h
  obtain ⟨l, ⟨x_Question, x_Answer⟩⟩ := u_
  obtain ⟨l', ⟨x_Question', x_Answer'⟩⟩ := v_
  simp [nz_lit, nz1_lit, nz_agg, nz_sl, nz1_sl, encLTMark, encTMark] at h
  first | (simp [h]; done) | (obtain ⟨⟩ := h; simp_all; done) | simp_all
@[simp] theorem c37_fn (l : List TMark) (x_Question : Int) (x_Answer : Int) : c37.fn [.sl false 2 yTMark (ML encTMark l), .agg [.lit (.int .i64 x_Question), .lit (.int .i64 x_Answer)]] [] = some ((fun (l : List TMark) (x : TMark) => l.length ≤ 1073741823) l ⟨x_Question, x_Answer⟩, (fun (l : List TMark) (x : TMark) => (.tup [.own (0, 1) 2 0 (mPutMark l x).length, dB (mAreMarks (putBy nMark x l))] : D)) l ⟨x_Question, x_Answer⟩, (fun (l : List TMark) (x : TMark) => [((0, 1), .arr false 2 yTMark (ML encTMark (mPutMark l x)))]) l ⟨x_Question, x_Answer⟩) :=
  mkCon_fn (fun x y h _ => c37_inj x y h) ((l, ⟨x_Question, x_Answer⟩) : (List TMark) × TMark) (by simp [nz, nz1, ML_nil, encLTMark, encTMark]) rfl
@[simp] theorem c37_fn1 (s_l : Nat) (z_l : D) (x_Question : Int) (x_Answer : Int) : c37.fn [.sl false s_l z_l [], .agg [.lit (.int .i64 x_Question), .lit (.int .i64 x_Answer)]] [] = some ((fun (l : List TMark) (x : TMark) => l.length ≤ 1073741823) [] ⟨x_Question, x_Answer⟩, (fun (l : List TMark) (x : TMark) => (.tup [.own (0, 1) 2 0 (mPutMark l x).length, dB (mAreMarks (putBy nMark x l))] : D)) [] ⟨x_Question, x_Answer⟩, (fun (l : List TMark) (x : TMark) => [((0, 1), .arr false 2 yTMark (ML encTMark (mPutMark l x)))]) [] ⟨x_Question, x_Answer⟩) :=
  mkCon_fn (fun x y h _ => c37_inj x y h) (([], ⟨x_Question, x_Answer⟩) : (List TMark) × TMark) (by simp [nz, nz1, ML_nil, encLTMark, encTMark]) rfl
theorem c37_pc (l : List TMark) (x : TMark) (hpre : l.length ≤ 1073741823) : PCo Try.prog 37 [encLTMark l, encTMark x] (Tab.of []) (.tup [.own (0, 1) 2 0 (mPutMark l x).length, dB (mAreMarks (putBy nMark x l))]) (Tab.of [((0, 1), .arr false 2 yTMark (ML encTMark (mPutMark l x)))]) := by
  refine pco_of_run [1007] (E := ⟨[c98], []⟩) (m := false) (base := 0) (Env.ok_cons c98_ok Env.ok_nil) G_ok mix 300 6 Try.func37 (by kernel_rfl) rfl (by kernel_rfl) (by kernel_rfl) rfl ?_
  simp [Try.f37]
  refine loop_inv (fun k : Nat => k ≤ l.length ∧ indexBy (geN nMark x.Question) 0 l = indexBy (geN nMark x.Question) k (l.drop k)) (fun k => [(0, encLTMark l), (3, .ptr (0, 1) 0), (6, dI k)]) (fun _ => [((0, 1), .box (encTMark x))]) 2 (fun k => l.length - k) 0 400 (by simp) (by simp) (by simp) ?_
  intro k ⟨hk, hi⟩
  simp [ML_tailM]
  refine ⟨fun hlt hc => ?_, fun hge => ?_⟩
  · rw [indexBy_at (d := default) hlt] at hi
    have hg : geN nMark x.Question (l[k]?.getD default) = false := decide_eq_false (show ¬ x.Question ≤ (l[k]?.getD default).Question by omega)
    rw [if_neg (by simp [hg])] at hi
    exact ⟨by omega, Again.mk (k + 1) ⟨by omega, hi⟩ (by simp) (by first | omega | (simp; omega))⟩
  · have hat : putAt nMark x.Question l = k := by
      unfold putAt
      by_cases hlt : k < l.length
      · rw [indexBy_at (d := default) hlt] at hi
        have hg : geN nMark x.Question (l[k]?.getD default) = true := decide_eq_true (show x.Question ≤ (l[k]?.getD default).Question by have := hge hlt; omega)
        rw [if_pos hg] at hi; rw [hi]; simp; intro h; omega
      · rw [indexBy_end (by omega)] at hi; rw [hi]; simp; omega
    have hz := putBy_len nMark x l
    by_cases hq : k < l.length ∧ (l[k]?.getD default).Question = x.Question
    · have hr : putRest nMark x.Question l = k + 1 := by unfold putRest; rw [hat]; exact if_pos hq
      have e3 : l.take k ++ x :: l.drop (k + 1) = putBy nMark x l := by show _ = l.take (putAt nMark x.Question l) ++ x :: l.drop (putRest nMark x.Question l); rw [hat, hr]
      have hlen : min k l.length + 1 + (l.length - (k + 1)) = (putBy nMark x l).length := by rw [← e3]; simp; omega
      have hcond : min k l.length + 1 + (l.length - (k + 1)) = min k l.length + (l.length - (k + 1) + 1) := by omega
      refine ⟨hk, fun _ _ => ?_, fun hno => absurd hq.2 (hno (by omega))⟩
      simp only [if_pos hcond, e3]
      cases h : mAreMarks (putBy nMark x l) with
      | true => rw [mPutMark_yes h]; simp; omega
      | false => rw [mPutMark_no h]; simp; omega
    · have hr : putRest nMark x.Question l = k := by unfold putRest; rw [hat]; exact if_neg hq
      have e3 : l.take k ++ x :: l.drop k = putBy nMark x l := by show _ = l.take (putAt nMark x.Question l) ++ x :: l.drop (putRest nMark x.Question l); rw [hat, hr]
      have hlen : min k l.length + 1 + (l.length - k) = (putBy nMark x l).length := by rw [← e3]; simp; omega
      have hcond : min k l.length + 1 + (l.length - k) = min k l.length + (l.length - k + 1) := by omega
      refine ⟨hk, fun h1 h2 => absurd ⟨by omega, h2⟩ hq, fun _ => ?_⟩
      simp only [if_pos hcond, e3]
      cases h : mAreMarks (putBy nMark x l) with
      | true => rw [mPutMark_yes h]; simp; omega
      | false => rw [mPutMark_no h]; simp; omega
theorem c37_ok : c37.ok Try.prog := mkCon_ok fun ⟨l, x⟩ hpre => c37_pc l x hpre
/-- loop.example/g03007/laws.FnExactPutMark -/
theorem law7 (l : List TMark) (wl : wfLTMark l) (x : TMark) (wx : wfTMark x) : PCo Try.prog 7 [encLTMark l, encTMark x] (Tab.of []) (dB true) (Tab.of []) := by
  obtain ⟨x_Question, x_Answer⟩ := x
  refine pco_of_run [1005, 1024, 2000036, 2000037, 2000040, 2000041, 2000042, 2000043] (E := ⟨[c36, c37, c38, c39, c40, c41, c42, c43], []⟩) (m := false) (base := 0) (Env.ok_cons c36_ok (Env.ok_cons c37_ok (Env.ok_cons c38_ok (Env.ok_cons c39_ok (Env.ok_cons c40_ok (Env.ok_cons c41_ok (Env.ok_cons c42_ok (Env.ok_cons c43_ok Env.ok_nil)))))))) G_ok mix 400 6 Try.func7 (by kernel_rfl) rfl (by kernel_rfl) (by kernel_rfl) rfl ?_
  simp [Try.f7]
  have h1 : l.length ≤ maxLen := wl.1
  have hb := mPutMark_len l ⟨x_Question, x_Answer⟩
  refine ⟨h1, fun h => ?_⟩
  split at h
  · omega
  · repeat' (first | omega | refine And.intro ?_ ?_ | intro _)
theorem law7_pc (D0 : D) (h0 : Sh G 9 56 D0) (D1 : D) (h1 : Sh G 9 58 D1) : PC Try.prog 7 [D0, D1] (dB true) [] := by
  obtain ⟨l, rfl, wl⟩ := sh56 (n := 6) h0
  obtain ⟨x, rfl, wx⟩ := sh58 (n := 7) h1
  exact law7 l wl x wx

end Go.Proofs.Ytkccphdoolpmaaa
