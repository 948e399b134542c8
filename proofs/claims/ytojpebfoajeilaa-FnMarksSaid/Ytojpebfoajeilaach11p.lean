/- Contracts of the functions that the laws run. -/
import Derived.Test.Ytojpebfoajeilaach11
import Derived.Test.YtojpebfoajeilaaEngB
namespace Go.Proofs.Ytojpebfoajeilaa
open Go Go.Eng
set_option linter.unusedSimpArgs false
set_option linter.unusedVariables false
set_option maxRecDepth 10000
set_option maxHeartbeats 1000000
/-- (loop.example/g03007/impl.sortedList[loop.example/g03007/impl.Mark]).put$1 -/
noncomputable def c54 : Con := mkCon 54 false (α := TMark × (List TMark) × Int) (fun x => (fun (x : TMark) (l : List TMark) (n : Int) => ([encTMark x, .el (.agg [.sl false 2 yTMark (ML encTMark l), .fn (.func 51) [] []]), .el (dI n)] : List D)) x.1 x.2.1 x.2.2) (fun x => (fun (x : TMark) (l : List TMark) (n : Int) => ([] : List (Nm × OO))) x.1 x.2.1 x.2.2) (fun x => (fun (x : TMark) (l : List TMark) (n : Int) => True) x.1 x.2.1 x.2.2) (fun x => (fun (x : TMark) (l : List TMark) (n : Int) => (dB (geN nMark n x) : D)) x.1 x.2.1 x.2.2) (fun x => (fun (x : TMark) (l : List TMark) (n : Int) => ([] : List (Nm × OO))) x.1 x.2.1 x.2.2)
@[simp] theorem c54_f : c54.f = 54 := rfl
@[simp] theorem c54_own : c54.own = false := rfl
theorem c54_inj : ∀ u_ v_ : TMark × (List TMark) × Int, ((fun x => (fun (x : TMark) (l : List TMark) (n : Int) => ([encTMark x, .el (.agg [.sl false 2 yTMark (ML encTMark l), .fn (.func 51) [] []]), .el (dI n)] : List D)) x.1 x.2.1 x.2.2) u_).map nz = ((fun x => (fun (x : TMark) (l : List TMark) (n : Int) => ([encTMark x, .el (.agg [.sl false 2 yTMark (ML encTMark l), .fn (.func 51) [] []]), .el (dI n)] : List D)) x.1 x.2.1 x.2.2) v_).map nz → (fun x => (fun (x : TMark) (l : List TMark) (n : Int) => ([] : List (Nm × OO))) x.1 x.2.1 x.2.2) u_ = (fun x => (fun (x : TMark) (l : List TMark) (n : Int) => ([] : List (Nm × OO))) x.1 x.2.1 x.2.2) v_ → u_ = v_ := by
  intro u_ v_ h h2_
  obtain ⟨⟨x_Question, x_Answer⟩, l, n⟩ := u_
  obtain ⟨⟨x_Question', x_Answer'⟩, l', n'⟩ := v_
  simp [nz_lit, nz1_lit, nz_agg, nz_sl, nz1_sl, nz_sx, nz_el, nz1_el, nz_own, nz1_own, nz_ptr, nz_fn, nz_iface] at h h2_
  first | (simp [h, h2_]; done) | (obtain ⟨h3_, h4_⟩ := List.append_inj h2_ h.1; simp_all; done) | simp_all | grind
@[simp] theorem c54_fn (x_Question : Int) (x_Answer : Int) (l : List TMark) (n : Int) : c54.fn ([.agg [.lit (.int .i64 x_Question), .lit (.int .i64 x_Answer)], .el (.agg [.sl false 2 yTMark (ML encTMark l), .fn (.func 51) [] []]), .el (dI n)]) ([]) = some (True, dB (geN nMark n (⟨x_Question, x_Answer⟩ : TMark)), []) :=
  mkCon_fn c54_inj ((⟨x_Question, x_Answer⟩, l, n) : TMark × (List TMark) × Int) rfl rfl
theorem c54_pc (x : TMark) (l : List TMark) (n : Int) : PCo Try.prog 54 ([encTMark x, .el (.agg [.sl false 2 yTMark (ML encTMark l), .fn (.func 51) [] []]), .el (dI n)]) (Tab.of ([])) (dB (geN nMark n x)) (Tab.of ([])) := by
  refine pco_of_run [1] (E := ⟨[c51], [], []⟩) (m := false) (base := 0) (Env.ok_cons c51_ok Env.ok_nil) G_ok mix 300 6 Try.func54 (by kernel_rfl) rfl (by kernel_rfl) (by kernel_rfl) rfl ?_
  simp [Try.f54]
  simp [geN]; first | done | rfl
theorem c54_ok : c54.ok Try.prog := mkCon_ok fun ⟨x, l, n⟩ hpre => c54_pc x l n
/-- slices.IndexFunc[[]loop.example/g03007/impl.Mar -/
noncomputable def c53_p : Con := mkCon 53 false (α := (List TMark) × (List TMark) × Int) (fun x => (fun (l : List TMark) (l2 : List TMark) (n : Int) => ([.sl false 2 yTMark (ML encTMark l), .fn (.func 54) [] [.el (.agg [.sl false 2 yTMark (ML encTMark l2), .fn (.func 51) [] []]), .el (dI n)]] : List D)) x.1 x.2.1 x.2.2) (fun x => (fun (l : List TMark) (l2 : List TMark) (n : Int) => ([] : List (Nm × OO))) x.1 x.2.1 x.2.2) (fun x => (fun (l : List TMark) (l2 : List TMark) (n : Int) => l.length ≤ 1099511627776) x.1 x.2.1 x.2.2) (fun x => (fun (l : List TMark) (l2 : List TMark) (n : Int) => (dI (indexBy (geN nMark n) 0 l) : D)) x.1 x.2.1 x.2.2) (fun x => (fun (l : List TMark) (l2 : List TMark) (n : Int) => ([] : List (Nm × OO))) x.1 x.2.1 x.2.2)
@[simp] theorem c53_p_f : c53_p.f = 53 := rfl
@[simp] theorem c53_p_own : c53_p.own = false := rfl
theorem c53_p_inj : ∀ u_ v_ : (List TMark) × (List TMark) × Int, ((fun x => (fun (l : List TMark) (l2 : List TMark) (n : Int) => ([.sl false 2 yTMark (ML encTMark l), .fn (.func 54) [] [.el (.agg [.sl false 2 yTMark (ML encTMark l2), .fn (.func 51) [] []]), .el (dI n)]] : List D)) x.1 x.2.1 x.2.2) u_).map nz = ((fun x => (fun (l : List TMark) (l2 : List TMark) (n : Int) => ([.sl false 2 yTMark (ML encTMark l), .fn (.func 54) [] [.el (.agg [.sl false 2 yTMark (ML encTMark l2), .fn (.func 51) [] []]), .el (dI n)]] : List D)) x.1 x.2.1 x.2.2) v_).map nz → (fun x => (fun (l : List TMark) (l2 : List TMark) (n : Int) => ([] : List (Nm × OO))) x.1 x.2.1 x.2.2) u_ = (fun x => (fun (l : List TMark) (l2 : List TMark) (n : Int) => ([] : List (Nm × OO))) x.1 x.2.1 x.2.2) v_ → u_ = v_ := by
  intro u_ v_ h h2_
  obtain ⟨l, l2, n⟩ := u_
  obtain ⟨l', l2', n'⟩ := v_
  simp [nz_lit, nz1_lit, nz_agg, nz_sl, nz1_sl, nz_sx, nz_el, nz1_el, nz_own, nz1_own, nz_ptr, nz_fn, nz_iface] at h h2_
  first | (simp [h, h2_]; done) | (obtain ⟨h3_, h4_⟩ := List.append_inj h2_ h.1; simp_all; done) | simp_all | grind
@[simp] theorem c53_p_fn (l : List TMark) (l2 : List TMark) (n : Int) : c53_p.fn ([.sl false 2 yTMark (ML encTMark l), .fn (.func 54) [] [.el (.agg [.sl false 2 yTMark (ML encTMark l2), .fn (.func 51) [] []]), .el (dI n)]]) ([]) = some (l.length ≤ 1099511627776, dI (indexBy (geN nMark n) 0 l), []) :=
  mkCon_fn c53_p_inj ((l, l2, n) : (List TMark) × (List TMark) × Int) rfl rfl
theorem c53_p_pc (l : List TMark) (l2 : List TMark) (n : Int) (hpre : l.length ≤ 1099511627776) : PCo Try.prog 53 ([.sl false 2 yTMark (ML encTMark l), .fn (.func 54) [] [.el (.agg [.sl false 2 yTMark (ML encTMark l2), .fn (.func 51) [] []]), .el (dI n)]]) (Tab.of ([])) (dI (indexBy (geN nMark n) 0 l)) (Tab.of ([])) := by
  refine pco_of_run [] (E := ⟨[c54], [], []⟩) (m := false) (base := 0) (Env.ok_cons c54_ok Env.ok_nil) G_ok mix 300 6 Try.func53 (by kernel_rfl) rfl (by kernel_rfl) (by kernel_rfl) rfl ?_
  simp [Try.f53]
  refine loop_inv (fun p : Nat => p ≤ l.length ∧ indexBy (geN nMark n) 0 l = indexBy (geN nMark n) p (l.drop p)) (fun p => [(0, .sl false 2 yTMark (ML encTMark l)), (1, .fn (.func 54) [] [.el (.agg [.sl false 2 yTMark (ML encTMark l2), .fn (.func 51) [] []]), .el (dI n)]), (7, dI l.length), (8, dI p)]) (fun _ => []) 1 (fun p => l.length - p) 0 400 (by simp) (by simp) (by simp) ?_
  intro p ⟨hp, hi⟩
  simp
  refine ⟨fun hlt => ?_, fun hge => ?_⟩
  · rw [indexBy_at (d := default) hlt] at hi
    repeat' (first | omega | refine And.intro ?_ ?_ | intro _)
    all_goals first | exact Again.mk (p + 1) ⟨by omega, by rw [hi]; grind⟩ (by simp) (by first | omega | (simp; omega)) | (rw [hi]; grind)
  · rw [hi, indexBy_end hge]
theorem c53_p_ok : c53_p.ok Try.prog := mkCon_ok fun ⟨l, l2, n⟩ hpre => c53_p_pc l l2 n hpre
noncomputable def c53 : Con := selCon 53 false [([54], c53_p)]
@[simp] theorem c53_f : c53.f = 53 := rfl
@[simp] theorem c53_own : c53.own = false := rfl
@[simp] theorem c53_fn0 (l : List TMark) (l2 : List TMark) (n : Int) : c53.fn ([.sl false 2 yTMark (ML encTMark l), .fn (.func 54) [] [.el (.agg [.sl false 2 yTMark (ML encTMark l2), .fn (.func 51) [] []]), .el (dI n)]]) ([]) = some (l.length ≤ 1099511627776, dI (indexBy (geN nMark n) 0 l), []) := by
  rw [c53, selCon_fn]
  have h : selK [([54], c53_p)] (keyDs ([.sl false 2 yTMark (ML encTMark l), .fn (.func 54) [] [.el (.agg [.sl false 2 yTMark (ML encTMark l2), .fn (.func 51) [] []]), .el (dI n)]])) = some c53_p := by simp
  rw [h]
  exact c53_p_fn l l2 n
theorem c53_ok : c53.ok Try.prog := selCon_ok fun p hp => by
  simp only [List.mem_cons, List.not_mem_nil, or_false] at hp
  rcases hp with rfl
  · exact ⟨rfl, c53_p_ok⟩
/-- slices.Clone[[]loop.example/g03007/impl.Mar -/
noncomputable def c42 : Con := mkCon 42 false (α := (List TMark)) (fun x => (fun (l : List TMark) => [encLTMark l]) x) (fun _ => []) (fun x => (fun (l : List TMark) => l.length ≤ 1073741824) x) (fun x => (fun (l : List TMark) => (.own (0, 1) 2 0 l.length : D)) x) (fun x => (fun (l : List TMark) => [((0, 1), .arr false 2 yTMark (ML encTMark l))]) x)
@[simp] theorem c42_f : c42.f = 42 := rfl
@[simp] theorem c42_own : c42.own = false := rfl
theorem c42_inj : ∀ u_ v_ : (List TMark), ((fun x => (fun (l : List TMark) => [encLTMark l]) x) u_).map nz = ((fun x => (fun (l : List TMark) => [encLTMark l]) x) v_).map nz → u_ = v_ := by
  intro u_ v_ h
  obtain l := u_
  obtain l' := v_
  simp [nz_lit, nz1_lit, nz_agg, nz_sl, nz1_sl, encLTMark] at h
  first | (simp [h]; done) | (obtain ⟨⟩ := h; simp_all; done) | simp_all
@[simp] theorem c42_fn (l : List TMark) : c42.fn [.sl false 2 yTMark (ML encTMark l)] [] = some ((fun (l : List TMark) => l.length ≤ 1073741824) l, (fun (l : List TMark) => (.own (0, 1) 2 0 l.length : D)) l, (fun (l : List TMark) => [((0, 1), .arr false 2 yTMark (ML encTMark l))]) l) :=
  mkCon_fn (fun x y h _ => c42_inj x y h) (l : (List TMark)) (by simp [nz, nz1, ML_nil, encLTMark]) rfl
@[simp] theorem c42_fn1 (s_l : Nat) (z_l : D) : c42.fn [.sl false s_l z_l []] [] = some ((fun (l : List TMark) => l.length ≤ 1073741824) [], (fun (l : List TMark) => (.own (0, 1) 2 0 l.length : D)) [], (fun (l : List TMark) => [((0, 1), .arr false 2 yTMark (ML encTMark l))]) []) :=
  mkCon_fn (fun x y h _ => c42_inj x y h) ([] : (List TMark)) (by simp [nz, nz1, ML_nil, encLTMark]) rfl
theorem c42_pc (l : List TMark) (hpre : l.length ≤ 1073741824) : PCo Try.prog 42 [encLTMark l] (Tab.of []) (.own (0, 1) 2 0 l.length) (Tab.of [((0, 1), .arr false 2 yTMark (ML encTMark l))]) := by
  by_cases hl : l = []
  · subst hl
    show PCo Try.prog 42 [.sl false 2 yTMark []] Tab.nil (.own (0, 1) 2 0 0) (Tab.of [((0, 1), .arr false 2 yTMark [])])
    refine pco_slice fun a cap => ?_
    cases a with
    | none =>
      refine pc_ghost (s' := 0) (z' := .any) ?_
      refine pco_of_run [] (tin := []) (E := ⟨[], [], []⟩) (m := false) (base := 0) Env.ok_nil G_ok mix 300 6 Try.func42 (by kernel_rfl) rfl (by kernel_rfl) (by kernel_rfl) rfl ?_
      simp [Try.f42]
    | some q =>
      refine pco_of_run [] (tin := []) (E := ⟨[], [], []⟩) (m := false) (base := 0) Env.ok_nil G_ok mix 300 6 Try.func42 (by kernel_rfl) rfl (by kernel_rfl) (by kernel_rfl) rfl ?_
      simp [Try.f42]
  · refine pco_of_run [] (E := ⟨[], [], []⟩) (m := false) (base := 0) Env.ok_nil G_ok mix 300 6 Try.func42 (by kernel_rfl) rfl (by kernel_rfl) (by kernel_rfl) rfl ?_
    simp [Try.f42, -nilS, nilS_ML hl]
    omega
theorem c42_ok : c42.ok Try.prog := mkCon_ok fun l hpre => c42_pc l hpre
/-- (loop.example/g03007/impl.sortedList[loop.example/g03007/impl.Mark]).put -/
noncomputable def c41 : Con := mkCon 41 false (α := (List TMark) × TMark) (fun x => (fun (l : List TMark) (x : TMark) => ([.agg [.sl false 2 yTMark (ML encTMark l), .fn (.func 51) [] []], encTMark x] : List D)) x.1 x.2) (fun x => (fun (l : List TMark) (x : TMark) => ([] : List (Nm × OO))) x.1 x.2) (fun x => (fun (l : List TMark) (x : TMark) => l.length ≤ 1073741823) x.1 x.2) (fun x => (fun (l : List TMark) (x : TMark) => (.own (0, 1) 2 0 (putBy nMark x l).length : D)) x.1 x.2) (fun x => (fun (l : List TMark) (x : TMark) => ([((0, 1), .arr false 2 yTMark (ML encTMark (putBy nMark x l)))] : List (Nm × OO))) x.1 x.2)
@[simp] theorem c41_f : c41.f = 41 := rfl
@[simp] theorem c41_own : c41.own = false := rfl
theorem c41_inj : ∀ u_ v_ : (List TMark) × TMark, ((fun x => (fun (l : List TMark) (x : TMark) => ([.agg [.sl false 2 yTMark (ML encTMark l), .fn (.func 51) [] []], encTMark x] : List D)) x.1 x.2) u_).map nz = ((fun x => (fun (l : List TMark) (x : TMark) => ([.agg [.sl false 2 yTMark (ML encTMark l), .fn (.func 51) [] []], encTMark x] : List D)) x.1 x.2) v_).map nz → (fun x => (fun (l : List TMark) (x : TMark) => ([] : List (Nm × OO))) x.1 x.2) u_ = (fun x => (fun (l : List TMark) (x : TMark) => ([] : List (Nm × OO))) x.1 x.2) v_ → u_ = v_ := by
  intro u_ v_ h h2_
  obtain ⟨l, ⟨x_Question, x_Answer⟩⟩ := u_
  obtain ⟨l', ⟨x_Question', x_Answer'⟩⟩ := v_
  simp [nz_lit, nz1_lit, nz_agg, nz_sl, nz1_sl, nz_sx, nz_el, nz1_el, nz_own, nz1_own, nz_ptr, nz_fn, nz_iface] at h h2_
  first | (simp [h, h2_]; done) | (obtain ⟨h3_, h4_⟩ := List.append_inj h2_ h.1; simp_all; done) | simp_all | grind
@[simp] theorem c41_fn (l : List TMark) (x_Question : Int) (x_Answer : Int) : c41.fn ([.agg [.sl false 2 yTMark (ML encTMark l), .fn (.func 51) [] []], .agg [.lit (.int .i64 x_Question), .lit (.int .i64 x_Answer)]]) ([]) = some (l.length ≤ 1073741823, .own (0, 1) 2 0 (putBy nMark (⟨x_Question, x_Answer⟩ : TMark) l).length, [((0, 1), .arr false 2 yTMark (ML encTMark (putBy nMark (⟨x_Question, x_Answer⟩ : TMark) l)))]) :=
  mkCon_fn c41_inj ((l, ⟨x_Question, x_Answer⟩) : (List TMark) × TMark) rfl rfl
theorem c41_pc (l : List TMark) (x : TMark) (hpre : l.length ≤ 1073741823) : PCo Try.prog 41 ([.agg [.sl false 2 yTMark (ML encTMark l), .fn (.func 51) [] []], encTMark x]) (Tab.of ([])) (.own (0, 1) 2 0 (putBy nMark x l).length) (Tab.of ([((0, 1), .arr false 2 yTMark (ML encTMark (putBy nMark x l)))])) := by
  refine pco_of_run [6, 1008] (E := ⟨[c53, c54, c51], [], []⟩) (m := false) (base := 0) (Env.ok_cons c53_ok (Env.ok_cons c54_ok (Env.ok_cons c51_ok Env.ok_nil))) G_ok mix 300 6 Try.func41 (by kernel_rfl) rfl (by kernel_rfl) (by kernel_rfl) rfl ?_
  have hb := indexBy_bd (want := geN nMark (nMark x)) l 0
  have hl : ¬ (l.length : Int) < 0 := by omega
  simp only [nMark] at hb
  by_cases hneg : indexBy (geN nMark (nMark x)) 0 l < 0
  · have e1 : putAt nMark (nMark x) l = l.length := by unfold putAt; exact if_pos hneg
    have e2 : putRest nMark (nMark x) l = l.length := by unfold putRest; rw [e1]; simp
    have e3 : putBy nMark x l = l ++ [x] := by simp only [putBy]; rw [e1, e2]; simp
    rw [e3]
    simp only [nMark] at hneg
    simp [Try.f41, hneg, ↓ML_getD_TMark]
    omega
  · obtain ⟨k, hk, hkl⟩ : ∃ k : Nat, indexBy (geN nMark (nMark x)) 0 l = k ∧ k < l.length := ⟨(indexBy (geN nMark (nMark x)) 0 l).toNat, by simp only [nMark] at *; omega, by simp only [nMark] at *; omega⟩
    have e1 : putAt nMark (nMark x) l = k := by unfold putAt; rw [hk]; simp; intro h; omega
    by_cases hq : nMark (l[k]?.getD default) = nMark x
    · have e2 : putRest nMark (nMark x) l = k + 1 := by unfold putRest; rw [e1]; exact if_pos ⟨hkl, hq⟩
      have e3 : putBy nMark x l = l.take k ++ x :: l.drop (k + 1) := by simp only [putBy]; rw [e1, e2]
      rw [e3]
      simp only [nMark] at hk hq
      simp [Try.f41, hk, hq, ↓ML_getD_TMark]
      omega
    · have e2 : putRest nMark (nMark x) l = k := by unfold putRest; rw [e1]; exact if_neg fun h => hq h.2
      have e3 : putBy nMark x l = l.take k ++ x :: l.drop k := by simp only [putBy]; rw [e1, e2]
      rw [e3]
      simp only [nMark] at hk hq
      simp [Try.f41, hk, hq, ↓ML_getD_TMark]
      omega
theorem c41_ok : c41.ok Try.prog := mkCon_ok fun ⟨l, x⟩ hpre => c41_pc l x hpre
theorem ML_tailM (l : List TMark) : (ML encTMark l).tail = ML encTMark l.tail := by cases l <;> rfl
def mPutMark (l : List TMark) (x : TMark) : List TMark := if mAreMarks (putBy nMark x l) then putBy nMark x l else l
theorem mPutMark_yes {l : List TMark} {x : TMark} (h : mAreMarks (putBy nMark x l) = true) : mPutMark l x = putBy nMark x l := by simp [mPutMark, h]
theorem mPutMark_no {l : List TMark} {x : TMark} (h : mAreMarks (putBy nMark x l) = false) : mPutMark l x = l := by simp [mPutMark, h]
theorem mPutMark_len (l : List TMark) (x : TMark) : (mPutMark l x).length ≤ l.length + 1 := by
  have := putBy_len nMark x l
  simp only [mPutMark]; split <;> omega
/-- loop.example/g03007/impl.PutMark -/
noncomputable def c24 : Con := mkCon 24 false (α := (List TMark) × TMark) (fun x => (fun (l : List TMark) (x : TMark) => [encLTMark l, encTMark x]) x.1 x.2) (fun _ => []) (fun x => (fun (l : List TMark) (x : TMark) => l.length ≤ 1073741823) x.1 x.2) (fun x => (fun (l : List TMark) (x : TMark) => (.tup [.own (0, 1) 2 0 (mPutMark l x).length, dB (mAreMarks (putBy nMark x l))] : D)) x.1 x.2) (fun x => (fun (l : List TMark) (x : TMark) => [((0, 1), .arr false 2 yTMark (ML encTMark (mPutMark l x)))]) x.1 x.2)
@[simp] theorem c24_f : c24.f = 24 := rfl
@[simp] theorem c24_own : c24.own = false := rfl
theorem c24_inj : ∀ u_ v_ : (List TMark) × TMark, ((fun x => (fun (l : List TMark) (x : TMark) => [encLTMark l, encTMark x]) x.1 x.2) u_).map nz = ((fun x => (fun (l : List TMark) (x : TMark) => [encLTMark l, encTMark x]) x.1 x.2) v_).map nz → u_ = v_ := by
  intro u_ v_ h
  obtain ⟨l, ⟨x_Question, x_Answer⟩⟩ := u_
  obtain ⟨l', ⟨x_Question', x_Answer'⟩⟩ := v_
  simp [nz_lit, nz1_lit, nz_agg, nz_sl, nz1_sl, encLTMark, encTMark] at h
  first | (simp [h]; done) | (obtain ⟨⟩ := h; simp_all; done) | simp_all
@[simp] theorem c24_fn (l : List TMark) (x_Question : Int) (x_Answer : Int) : c24.fn [.sl false 2 yTMark (ML encTMark l), .agg [.lit (.int .i64 x_Question), .lit (.int .i64 x_Answer)]] [] = some ((fun (l : List TMark) (x : TMark) => l.length ≤ 1073741823) l ⟨x_Question, x_Answer⟩, (fun (l : List TMark) (x : TMark) => (.tup [.own (0, 1) 2 0 (mPutMark l x).length, dB (mAreMarks (putBy nMark x l))] : D)) l ⟨x_Question, x_Answer⟩, (fun (l : List TMark) (x : TMark) => [((0, 1), .arr false 2 yTMark (ML encTMark (mPutMark l x)))]) l ⟨x_Question, x_Answer⟩) :=
  mkCon_fn (fun x y h _ => c24_inj x y h) ((l, ⟨x_Question, x_Answer⟩) : (List TMark) × TMark) (by simp [nz, nz1, ML_nil, encLTMark, encTMark]) rfl
@[simp] theorem c24_fn1 (s_l : Nat) (z_l : D) (x_Question : Int) (x_Answer : Int) : c24.fn [.sl false s_l z_l [], .agg [.lit (.int .i64 x_Question), .lit (.int .i64 x_Answer)]] [] = some ((fun (l : List TMark) (x : TMark) => l.length ≤ 1073741823) [] ⟨x_Question, x_Answer⟩, (fun (l : List TMark) (x : TMark) => (.tup [.own (0, 1) 2 0 (mPutMark l x).length, dB (mAreMarks (putBy nMark x l))] : D)) [] ⟨x_Question, x_Answer⟩, (fun (l : List TMark) (x : TMark) => [((0, 1), .arr false 2 yTMark (ML encTMark (mPutMark l x)))]) [] ⟨x_Question, x_Answer⟩) :=
  mkCon_fn (fun x y h _ => c24_inj x y h) (([], ⟨x_Question, x_Answer⟩) : (List TMark) × TMark) (by simp [nz, nz1, ML_nil, encLTMark, encTMark]) rfl
theorem c24_pc (l : List TMark) (x : TMark) (hpre : l.length ≤ 1073741823) : PCo Try.prog 24 [encLTMark l, encTMark x] (Tab.of []) (.tup [.own (0, 1) 2 0 (mPutMark l x).length, dB (mAreMarks (putBy nMark x l))]) (Tab.of [((0, 1), .arr false 2 yTMark (ML encTMark (mPutMark l x)))]) := by
  refine pco_of_run [1001] (E := ⟨[c19, c36, c41, c42], [], []⟩) (m := false) (base := 0) (Env.ok_cons c19_ok (Env.ok_cons c36_ok (Env.ok_cons c41_ok (Env.ok_cons c42_ok Env.ok_nil)))) G_ok mix 300 6 Try.func24 (by kernel_rfl) rfl (by kernel_rfl) (by kernel_rfl) rfl ?_
  have hz := putBy_len nMark x l
  cases h : mAreMarks (putBy nMark x l) with
  | true =>
    simp [Try.f24, h, mPutMark_yes h]
    omega
  | false =>
    simp [Try.f24, h, mPutMark_no h]
    omega
theorem c24_ok : c24.ok Try.prog := mkCon_ok fun ⟨l, x⟩ hpre => c24_pc l x hpre
/-- loop.example/g03007/spec.PutMark -/
noncomputable def c55 : Con := mkCon 55 false (α := (List TMark) × TMark) (fun x => (fun (l : List TMark) (x : TMark) => [encLTMark l, encTMark x]) x.1 x.2) (fun _ => []) (fun x => (fun (l : List TMark) (x : TMark) => l.length ≤ 1073741823) x.1 x.2) (fun x => (fun (l : List TMark) (x : TMark) => (.tup [.own (0, 1) 2 0 (mPutMark l x).length, dB (mAreMarks (putBy nMark x l))] : D)) x.1 x.2) (fun x => (fun (l : List TMark) (x : TMark) => [((0, 1), .arr false 2 yTMark (ML encTMark (mPutMark l x)))]) x.1 x.2)
@[simp] theorem c55_f : c55.f = 55 := rfl
@[simp] theorem c55_own : c55.own = false := rfl
theorem c55_inj : ∀ u_ v_ : (List TMark) × TMark, ((fun x => (fun (l : List TMark) (x : TMark) => [encLTMark l, encTMark x]) x.1 x.2) u_).map nz = ((fun x => (fun (l : List TMark) (x : TMark) => [encLTMark l, encTMark x]) x.1 x.2) v_).map nz → u_ = v_ := by
  intro u_ v_ h
  obtain ⟨l, ⟨x_Question, x_Answer⟩⟩ := u_
  obtain ⟨l', ⟨x_Question', x_Answer'⟩⟩ := v_
  simp [nz_lit, nz1_lit, nz_agg, nz_sl, nz1_sl, encLTMark, encTMark] at h
  first | (simp [h]; done) | (obtain ⟨⟩ := h; simp_all; done) | simp_all
@[simp] theorem c55_fn (l : List TMark) (x_Question : Int) (x_Answer : Int) : c55.fn [.sl false 2 yTMark (ML encTMark l), .agg [.lit (.int .i64 x_Question), .lit (.int .i64 x_Answer)]] [] = some ((fun (l : List TMark) (x : TMark) => l.length ≤ 1073741823) l ⟨x_Question, x_Answer⟩, (fun (l : List TMark) (x : TMark) => (.tup [.own (0, 1) 2 0 (mPutMark l x).length, dB (mAreMarks (putBy nMark x l))] : D)) l ⟨x_Question, x_Answer⟩, (fun (l : List TMark) (x : TMark) => [((0, 1), .arr false 2 yTMark (ML encTMark (mPutMark l x)))]) l ⟨x_Question, x_Answer⟩) :=
  mkCon_fn (fun x y h _ => c55_inj x y h) ((l, ⟨x_Question, x_Answer⟩) : (List TMark) × TMark) (by simp [nz, nz1, ML_nil, encLTMark, encTMark]) rfl
@[simp] theorem c55_fn1 (s_l : Nat) (z_l : D) (x_Question : Int) (x_Answer : Int) : c55.fn [.sl false s_l z_l [], .agg [.lit (.int .i64 x_Question), .lit (.int .i64 x_Answer)]] [] = some ((fun (l : List TMark) (x : TMark) => l.length ≤ 1073741823) [] ⟨x_Question, x_Answer⟩, (fun (l : List TMark) (x : TMark) => (.tup [.own (0, 1) 2 0 (mPutMark l x).length, dB (mAreMarks (putBy nMark x l))] : D)) [] ⟨x_Question, x_Answer⟩, (fun (l : List TMark) (x : TMark) => [((0, 1), .arr false 2 yTMark (ML encTMark (mPutMark l x)))]) [] ⟨x_Question, x_Answer⟩) :=
  mkCon_fn (fun x y h _ => c55_inj x y h) (([], ⟨x_Question, x_Answer⟩) : (List TMark) × TMark) (by simp [nz, nz1, ML_nil, encLTMark, encTMark]) rfl
theorem c55_pc (l : List TMark) (x : TMark) (hpre : l.length ≤ 1073741823) : PCo Try.prog 55 [encLTMark l, encTMark x] (Tab.of []) (.tup [.own (0, 1) 2 0 (mPutMark l x).length, dB (mAreMarks (putBy nMark x l))]) (Tab.of [((0, 1), .arr false 2 yTMark (ML encTMark (mPutMark l x)))]) := by
  refine pco_of_run [1007] (E := ⟨[c59], [], []⟩) (m := false) (base := 0) (Env.ok_cons c59_ok Env.ok_nil) G_ok mix 300 6 Try.func55 (by kernel_rfl) rfl (by kernel_rfl) (by kernel_rfl) rfl ?_
  simp [Try.f55]
  refine loop_inv (fun k : Nat => k ≤ l.length ∧ indexBy (geN nMark x.Question) 0 l = indexBy (geN nMark x.Question) k (l.drop k)) (fun k => [(0, encLTMark l), (3, .ptr (0, 1) 0), (6, dI k)]) (fun _ => [((0, 1), .box (encTMark x))]) 2 (fun k => l.length - k) 0 400 (by simp) (by simp) (by simp) ?_
  intro k ⟨hk, hi⟩
  simp [ML_tailM]
  refine ⟨fun hlt hc => ?_, fun hge => ?_⟩
  · rw [indexBy_at (d := default) hlt] at hi
    have hg : geN nMark x.Question (l[k]?.getD default) = false := decide_eq_false (show ¬ x.Question ≤ (l[k]?.getD default).Question by omega)
    rw [if_neg (by simp [hg])] at hi
    exact ⟨by omega, Again.mk (k + 1) ⟨by omega, hi⟩ (by simp) (by first | omega | (simp; omega))⟩
  · have hat : putAt nMark x.Question l = k := by
      unfold putAt
      by_cases hlt : k < l.length
      · rw [indexBy_at (d := default) hlt] at hi
        have hg : geN nMark x.Question (l[k]?.getD default) = true := decide_eq_true (show x.Question ≤ (l[k]?.getD default).Question by have := hge hlt; omega)
        rw [if_pos hg] at hi; rw [hi]; simp; intro h; omega
      · rw [indexBy_end (by omega)] at hi; rw [hi]; simp; omega
    have hz := putBy_len nMark x l
    by_cases hq : k < l.length ∧ (l[k]?.getD default).Question = x.Question
    · have hr : putRest nMark x.Question l = k + 1 := by unfold putRest; rw [hat]; exact if_pos hq
      have e3 : l.take k ++ x :: l.drop (k + 1) = putBy nMark x l := by show _ = l.take (putAt nMark x.Question l) ++ x :: l.drop (putRest nMark x.Question l); rw [hat, hr]
      have hlen : min k l.length + 1 + (l.length - (k + 1)) = (putBy nMark x l).length := by rw [← e3]; simp; omega
      have hcond : min k l.length + 1 + (l.length - (k + 1)) = min k l.length + (l.length - (k + 1) + 1) := by omega
      refine ⟨hk, fun _ _ => ?_, fun hno => absurd hq.2 (hno (by omega))⟩
      simp only [if_pos hcond, e3]
      cases h : mAreMarks (putBy nMark x l) with
      | true => rw [mPutMark_yes h]; simp; omega
      | false => rw [mPutMark_no h]; simp; omega
    · have hr : putRest nMark x.Question l = k := by unfold putRest; rw [hat]; exact if_neg hq
      have e3 : l.take k ++ x :: l.drop k = putBy nMark x l := by show _ = l.take (putAt nMark x.Question l) ++ x :: l.drop (putRest nMark x.Question l); rw [hat, hr]
      have hlen : min k l.length + 1 + (l.length - k) = (putBy nMark x l).length := by rw [← e3]; simp; omega
      have hcond : min k l.length + 1 + (l.length - k) = min k l.length + (l.length - k + 1) := by omega
      refine ⟨hk, fun h1 h2 => absurd ⟨by omega, h2⟩ hq, fun _ => ?_⟩
      simp only [if_pos hcond, e3]
      cases h : mAreMarks (putBy nMark x l) with
      | true => rw [mPutMark_yes h]; simp; omega
      | false => rw [mPutMark_no h]; simp; omega
theorem c55_ok : c55.ok Try.prog := mkCon_ok fun ⟨l, x⟩ hpre => c55_pc l x hpre
end Go.Proofs.Ytojpebfoajeilaa
