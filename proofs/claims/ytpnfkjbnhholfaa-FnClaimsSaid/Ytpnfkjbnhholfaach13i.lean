/- Contracts of the functions that the laws run. -/
import Derived.Test.Ytpnfkjbnhholfaach13h
import Derived.Test.YtpnfkjbnhholfaaEngB
namespace Go.Proofs.Ytpnfkjbnhholfaa
open Go Go.Eng
set_option linter.unusedSimpArgs false
set_option linter.unusedVariables false
set_option maxRecDepth 10000
set_option maxHeartbeats 1000000
/-- slices.Clone[[]loop.example/g03007/impl.Clai -/
noncomputable def c98 : Con := mkCon 98 false (α := (List TClaim)) (fun x => (fun (l : List TClaim) => [encLTClaim l]) x) (fun _ => []) (fun x => (fun (l : List TClaim) => l.length ≤ 1073741824) x) (fun x => (fun (l : List TClaim) => (.own (0, 1) 5 0 l.length : D)) x) (fun x => (fun (l : List TClaim) => [((0, 1), .arr false 5 yTClaim (ML encTClaim l))]) x)
@[simp] theorem c98_f : c98.f = 98 := rfl
@[simp] theorem c98_own : c98.own = false := rfl
theorem c98_inj : ∀ u_ v_ : (List TClaim), ((fun x => (fun (l : List TClaim) => [encLTClaim l]) x) u_).map nz = ((fun x => (fun (l : List TClaim) => [encLTClaim l]) x) v_).map nz → u_ = v_ := by
  intro u_ v_ h
  obtain l := u_
  obtain l' := v_
  simp [nz_lit, nz1_lit, nz_agg, nz_sl, nz1_sl, encLTClaim] at h
  first | (simp [h]; done) | (obtain ⟨⟩ := h; simp_all; done) | simp_all
@[simp] theorem c98_fn (l : List TClaim) : c98.fn [.sl false 5 yTClaim (ML encTClaim l)] [] = some ((fun (l : List TClaim) => l.length ≤ 1073741824) l, (fun (l : List TClaim) => (.own (0, 1) 5 0 l.length : D)) l, (fun (l : List TClaim) => [((0, 1), .arr false 5 yTClaim (ML encTClaim l))]) l) :=
  mkCon_fn (fun x y h _ => c98_inj x y h) (l : (List TClaim)) (by simp [nz, nz1, ML_nil, encLTClaim]) rfl
@[simp] theorem c98_fn1 (s_l : Nat) (z_l : D) : c98.fn [.sl false s_l z_l []] [] = some ((fun (l : List TClaim) => l.length ≤ 1073741824) [], (fun (l : List TClaim) => (.own (0, 1) 5 0 l.length : D)) [], (fun (l : List TClaim) => [((0, 1), .arr false 5 yTClaim (ML encTClaim l))]) []) :=
  mkCon_fn (fun x y h _ => c98_inj x y h) ([] : (List TClaim)) (by simp [nz, nz1, ML_nil, encLTClaim]) rfl
theorem c98_pc (l : List TClaim) (hpre : l.length ≤ 1073741824) : PCo Try.prog 98 [encLTClaim l] (Tab.of []) (.own (0, 1) 5 0 l.length) (Tab.of [((0, 1), .arr false 5 yTClaim (ML encTClaim l))]) := by
  by_cases hl : l = []
  · subst hl
    show PCo Try.prog 98 [.sl false 5 yTClaim []] Tab.nil (.own (0, 1) 5 0 0) (Tab.of [((0, 1), .arr false 5 yTClaim [])])
    refine pco_slice fun a cap => ?_
    cases a with
    | none =>
      refine pc_ghost (s' := 0) (z' := .any) ?_
      refine pco_of_run [] (tin := []) (E := ⟨[], [], []⟩) (m := false) (base := 0) Env.ok_nil G_ok mix 300 6 Try.func98 (by kernel_rfl) rfl (by kernel_rfl) (by kernel_rfl) rfl ?_
      simp [Try.f98]
    | some q =>
      refine pco_of_run [] (tin := []) (E := ⟨[], [], []⟩) (m := false) (base := 0) Env.ok_nil G_ok mix 300 6 Try.func98 (by kernel_rfl) rfl (by kernel_rfl) (by kernel_rfl) rfl ?_
      simp [Try.f98]
  · refine pco_of_run [] (E := ⟨[], [], []⟩) (m := false) (base := 0) Env.ok_nil G_ok mix 300 6 Try.func98 (by kernel_rfl) rfl (by kernel_rfl) (by kernel_rfl) rfl ?_
    simp [Try.f98, -nilS, nilS_ML hl]
    omega
theorem c98_ok : c98.ok Try.prog := mkCon_ok fun l hpre => c98_pc l hpre
def pairIs (k w : Int) (x : TClaim) : Bool := decide (x.Thing = k) && decide (x.Who = w)
/-- (*loop.example/g03007/impl.claimBook).isClaimed$1 -/
noncomputable def c161 : Con := mkCon 161 false (α := TClaim × Int) (fun x => (fun (x : TClaim) (w : Int) => ([encTClaim x, .el (dI w)] : List D)) x.1 x.2) (fun x => (fun (x : TClaim) (w : Int) => ([] : List (Nm × OO))) x.1 x.2) (fun x => (fun (x : TClaim) (w : Int) => True) x.1 x.2) (fun x => (fun (x : TClaim) (w : Int) => (dB (decide (x.Who = w)) : D)) x.1 x.2) (fun x => (fun (x : TClaim) (w : Int) => ([] : List (Nm × OO))) x.1 x.2)
@[simp] theorem c161_f : c161.f = 161 := rfl
@[simp] theorem c161_own : c161.own = false := rfl
theorem c161_inj : ∀ u_ v_ : TClaim × Int, ((fun x => (fun (x : TClaim) (w : Int) => ([encTClaim x, .el (dI w)] : List D)) x.1 x.2) u_).map nz = ((fun x => (fun (x : TClaim) (w : Int) => ([encTClaim x, .el (dI w)] : List D)) x.1 x.2) v_).map nz → (fun x => (fun (x : TClaim) (w : Int) => ([] : List (Nm × OO))) x.1 x.2) u_ = (fun x => (fun (x : TClaim) (w : Int) => ([] : List (Nm × OO))) x.1 x.2) v_ → u_ = v_ := by
  intro u_ v_ h h2_
  obtain ⟨⟨x_Id, x_Who, x_Thing, x_At, x_State⟩, w⟩ := u_
  obtain ⟨⟨x_Id', x_Who', x_Thing', x_At', x_State'⟩, w'⟩ := v_
  simp [nz_lit, nz1_lit, nz_agg, nz_sl, nz1_sl, nz_sx, nz_el, nz1_el, nz_own, nz1_own, nz_ptr, nz_fn, nz_iface] at h h2_
  first | (simp [h, h2_]; done) | (obtain ⟨h3_, h4_⟩ := List.append_inj h2_ h.1; simp_all; done) | simp_all | grind
@[simp] theorem c161_fn (x_Id : Int) (x_Who : Int) (x_Thing : Int) (x_At : Int) (x_State : Int) (w : Int) : c161.fn ([.agg [.lit (.int .i64 x_Id), .lit (.int .i64 x_Who), .lit (.int .i64 x_Thing), .lit (.int .i64 x_At), .lit (.int .i64 x_State)], .el (dI w)]) ([]) = some (True, dB (decide ((⟨x_Id, x_Who, x_Thing, x_At, x_State⟩ : TClaim).Who = w)), []) :=
  mkCon_fn c161_inj ((⟨x_Id, x_Who, x_Thing, x_At, x_State⟩, w) : TClaim × Int) rfl rfl
theorem c161_pc (x : TClaim) (w : Int) : PCo Try.prog 161 ([encTClaim x, .el (dI w)]) (Tab.of ([])) (dB (decide (x.Who = w))) (Tab.of ([])) := by
  refine pco_of_run [] (E := ⟨[], [], []⟩) (m := false) (base := 0) Env.ok_nil G_ok mix 300 6 Try.func161 (by kernel_rfl) rfl (by kernel_rfl) (by kernel_rfl) rfl ?_
  simp [Try.f161]
  first | done | rfl
theorem c161_ok : c161.ok Try.prog := mkCon_ok fun ⟨x, w⟩ hpre => c161_pc x w
/-- slices.IndexFunc[[]loop.example/g03007/impl.Clai -/
noncomputable def c163_c : Con := mkCon 163 false (α := (List TClaim) × Int) (fun x => (fun (l : List TClaim) (w : Int) => ([encLTClaim l, .fn (.func 161) [] [.el (dI w)]] : List D)) x.1 x.2) (fun x => (fun (l : List TClaim) (w : Int) => ([] : List (Nm × OO))) x.1 x.2) (fun x => (fun (l : List TClaim) (w : Int) => l.length ≤ 1099511627776) x.1 x.2) (fun x => (fun (l : List TClaim) (w : Int) => (dI (indexBy (fun x => decide (x.Who = w)) 0 l) : D)) x.1 x.2) (fun x => (fun (l : List TClaim) (w : Int) => ([] : List (Nm × OO))) x.1 x.2)
@[simp] theorem c163_c_f : c163_c.f = 163 := rfl
@[simp] theorem c163_c_own : c163_c.own = false := rfl
theorem c163_c_inj : ∀ u_ v_ : (List TClaim) × Int, ((fun x => (fun (l : List TClaim) (w : Int) => ([encLTClaim l, .fn (.func 161) [] [.el (dI w)]] : List D)) x.1 x.2) u_).map nz = ((fun x => (fun (l : List TClaim) (w : Int) => ([encLTClaim l, .fn (.func 161) [] [.el (dI w)]] : List D)) x.1 x.2) v_).map nz → (fun x => (fun (l : List TClaim) (w : Int) => ([] : List (Nm × OO))) x.1 x.2) u_ = (fun x => (fun (l : List TClaim) (w : Int) => ([] : List (Nm × OO))) x.1 x.2) v_ → u_ = v_ := by
  intro u_ v_ h h2_
  obtain ⟨l, w⟩ := u_
  obtain ⟨l', w'⟩ := v_
  simp [nz_lit, nz1_lit, nz_agg, nz_sl, nz1_sl, nz_sx, nz_el, nz1_el, nz_own, nz1_own, nz_ptr, nz_fn, nz_iface] at h h2_
  first | (simp [h, h2_]; done) | (obtain ⟨h3_, h4_⟩ := List.append_inj h2_ h.1; simp_all; done) | simp_all | grind
@[simp] theorem c163_c_fn (l : List TClaim) (w : Int) : c163_c.fn ([(.sl false 5 yTClaim (ML encTClaim l)), .fn (.func 161) [] [.el (dI w)]]) ([]) = some (l.length ≤ 1099511627776, dI (indexBy (fun x => decide (x.Who = w)) 0 l), []) :=
  mkCon_fn c163_c_inj ((l, w) : (List TClaim) × Int) rfl rfl
theorem c163_c_pc (l : List TClaim) (w : Int) (hpre : l.length ≤ 1099511627776) : PCo Try.prog 163 ([encLTClaim l, .fn (.func 161) [] [.el (dI w)]]) (Tab.of ([])) (dI (indexBy (fun x => decide (x.Who = w)) 0 l)) (Tab.of ([])) := by
  refine pco_of_run [] (E := ⟨[c161], [], []⟩) (m := false) (base := 0) (Env.ok_cons c161_ok Env.ok_nil) G_ok mix 300 6 Try.func163 (by kernel_rfl) rfl (by kernel_rfl) (by kernel_rfl) rfl ?_
  simp [Try.f163]
  refine loop_inv (fun p : Nat => p ≤ l.length ∧ indexBy (fun x => decide (x.Who = w)) 0 l = indexBy (fun x => decide (x.Who = w)) p (l.drop p)) (fun p => [(0, encLTClaim l), (1, .fn (.func 161) [] [.el (dI w)]), (7, dI l.length), (8, dI p)]) (fun _ => []) 1 (fun p => l.length - p) 0 400 (by simp) (by simp) (by simp) ?_
  intro p ⟨hp, hi⟩
  simp
  refine ⟨fun hlt => ?_, fun hge => ?_⟩
  · rw [indexBy_at (d := default) hlt] at hi
    repeat' (first | omega | refine And.intro ?_ ?_ | intro _)
    all_goals first | exact Again.mk (p + 1) ⟨by omega, by rw [hi]; grind⟩ (by simp) (by first | omega | (simp; omega)) | (rw [hi]; grind)
  · rw [hi, indexBy_end hge]
theorem c163_c_ok : c163_c.ok Try.prog := mkCon_ok fun ⟨l, w⟩ hpre => c163_c_pc l w hpre
/-- (loop.example/g03007/impl.sortedList[loop.example/g03007/impl.Claim]).indexOf$1 -/
noncomputable def c166 : Con := mkCon 166 false (α := TClaim × (List TClaim) × Int) (fun x => (fun (x : TClaim) (l : List TClaim) (n : Int) => ([encTClaim x, .el (.agg [.sl false 5 yTClaim (ML encTClaim l), .fn (.func 162) [] []]), .el (dI n)] : List D)) x.1 x.2.1 x.2.2) (fun x => (fun (x : TClaim) (l : List TClaim) (n : Int) => ([] : List (Nm × OO))) x.1 x.2.1 x.2.2) (fun x => (fun (x : TClaim) (l : List TClaim) (n : Int) => True) x.1 x.2.1 x.2.2) (fun x => (fun (x : TClaim) (l : List TClaim) (n : Int) => (dB (wantN nClaim n x) : D)) x.1 x.2.1 x.2.2) (fun x => (fun (x : TClaim) (l : List TClaim) (n : Int) => ([] : List (Nm × OO))) x.1 x.2.1 x.2.2)
@[simp] theorem c166_f : c166.f = 166 := rfl
@[simp] theorem c166_own : c166.own = false := rfl
theorem c166_inj : ∀ u_ v_ : TClaim × (List TClaim) × Int, ((fun x => (fun (x : TClaim) (l : List TClaim) (n : Int) => ([encTClaim x, .el (.agg [.sl false 5 yTClaim (ML encTClaim l), .fn (.func 162) [] []]), .el (dI n)] : List D)) x.1 x.2.1 x.2.2) u_).map nz = ((fun x => (fun (x : TClaim) (l : List TClaim) (n : Int) => ([encTClaim x, .el (.agg [.sl false 5 yTClaim (ML encTClaim l), .fn (.func 162) [] []]), .el (dI n)] : List D)) x.1 x.2.1 x.2.2) v_).map nz → (fun x => (fun (x : TClaim) (l : List TClaim) (n : Int) => ([] : List (Nm × OO))) x.1 x.2.1 x.2.2) u_ = (fun x => (fun (x : TClaim) (l : List TClaim) (n : Int) => ([] : List (Nm × OO))) x.1 x.2.1 x.2.2) v_ → u_ = v_ := by
  intro u_ v_ h h2_
  obtain ⟨⟨x_Id, x_Who, x_Thing, x_At, x_State⟩, l, n⟩ := u_
  obtain ⟨⟨x_Id', x_Who', x_Thing', x_At', x_State'⟩, l', n'⟩ := v_
  simp [nz_lit, nz1_lit, nz_agg, nz_sl, nz1_sl, nz_sx, nz_el, nz1_el, nz_own, nz1_own, nz_ptr, nz_fn, nz_iface] at h h2_
  first | (simp [h, h2_]; done) | (obtain ⟨h3_, h4_⟩ := List.append_inj h2_ h.1; simp_all; done) | simp_all | grind
@[simp] theorem c166_fn (x_Id : Int) (x_Who : Int) (x_Thing : Int) (x_At : Int) (x_State : Int) (l : List TClaim) (n : Int) : c166.fn ([.agg [.lit (.int .i64 x_Id), .lit (.int .i64 x_Who), .lit (.int .i64 x_Thing), .lit (.int .i64 x_At), .lit (.int .i64 x_State)], .el (.agg [.sl false 5 yTClaim (ML encTClaim l), .fn (.func 162) [] []]), .el (dI n)]) ([]) = some (True, dB (wantN nClaim n (⟨x_Id, x_Who, x_Thing, x_At, x_State⟩ : TClaim)), []) :=
  mkCon_fn c166_inj ((⟨x_Id, x_Who, x_Thing, x_At, x_State⟩, l, n) : TClaim × (List TClaim) × Int) rfl rfl
theorem c166_pc (x : TClaim) (l : List TClaim) (n : Int) : PCo Try.prog 166 ([encTClaim x, .el (.agg [.sl false 5 yTClaim (ML encTClaim l), .fn (.func 162) [] []]), .el (dI n)]) (Tab.of ([])) (dB (wantN nClaim n x)) (Tab.of ([])) := by
  refine pco_of_run [1] (E := ⟨[c162], [], []⟩) (m := false) (base := 0) (Env.ok_cons c162_ok Env.ok_nil) G_ok mix 300 6 Try.func166 (by kernel_rfl) rfl (by kernel_rfl) (by kernel_rfl) rfl ?_
  simp [Try.f166]
  simp [wantN]; first | done | rfl
theorem c166_ok : c166.ok Try.prog := mkCon_ok fun ⟨x, l, n⟩ hpre => c166_pc x l n
/-- slices.IndexFunc[[]loop.example/g03007/impl.Clai -/
noncomputable def c163_i : Con := mkCon 163 false (α := (List TClaim) × (List TClaim) × Int) (fun x => (fun (l : List TClaim) (l2 : List TClaim) (n : Int) => ([.sl false 5 yTClaim (ML encTClaim l), .fn (.func 166) [] [.el (.agg [.sl false 5 yTClaim (ML encTClaim l2), .fn (.func 162) [] []]), .el (dI n)]] : List D)) x.1 x.2.1 x.2.2) (fun x => (fun (l : List TClaim) (l2 : List TClaim) (n : Int) => ([] : List (Nm × OO))) x.1 x.2.1 x.2.2) (fun x => (fun (l : List TClaim) (l2 : List TClaim) (n : Int) => l.length ≤ 1099511627776) x.1 x.2.1 x.2.2) (fun x => (fun (l : List TClaim) (l2 : List TClaim) (n : Int) => (dI (indexBy (wantN nClaim n) 0 l) : D)) x.1 x.2.1 x.2.2) (fun x => (fun (l : List TClaim) (l2 : List TClaim) (n : Int) => ([] : List (Nm × OO))) x.1 x.2.1 x.2.2)
@[simp] theorem c163_i_f : c163_i.f = 163 := rfl
@[simp] theorem c163_i_own : c163_i.own = false := rfl
theorem c163_i_inj : ∀ u_ v_ : (List TClaim) × (List TClaim) × Int, ((fun x => (fun (l : List TClaim) (l2 : List TClaim) (n : Int) => ([.sl false 5 yTClaim (ML encTClaim l), .fn (.func 166) [] [.el (.agg [.sl false 5 yTClaim (ML encTClaim l2), .fn (.func 162) [] []]), .el (dI n)]] : List D)) x.1 x.2.1 x.2.2) u_).map nz = ((fun x => (fun (l : List TClaim) (l2 : List TClaim) (n : Int) => ([.sl false 5 yTClaim (ML encTClaim l), .fn (.func 166) [] [.el (.agg [.sl false 5 yTClaim (ML encTClaim l2), .fn (.func 162) [] []]), .el (dI n)]] : List D)) x.1 x.2.1 x.2.2) v_).map nz → (fun x => (fun (l : List TClaim) (l2 : List TClaim) (n : Int) => ([] : List (Nm × OO))) x.1 x.2.1 x.2.2) u_ = (fun x => (fun (l : List TClaim) (l2 : List TClaim) (n : Int) => ([] : List (Nm × OO))) x.1 x.2.1 x.2.2) v_ → u_ = v_ := by
  intro u_ v_ h h2_
  obtain ⟨l, l2, n⟩ := u_
  obtain ⟨l', l2', n'⟩ := v_
  simp [nz_lit, nz1_lit, nz_agg, nz_sl, nz1_sl, nz_sx, nz_el, nz1_el, nz_own, nz1_own, nz_ptr, nz_fn, nz_iface] at h h2_
  first | (simp [h, h2_]; done) | (obtain ⟨h3_, h4_⟩ := List.append_inj h2_ h.1; simp_all; done) | simp_all | grind
@[simp] theorem c163_i_fn (l : List TClaim) (l2 : List TClaim) (n : Int) : c163_i.fn ([.sl false 5 yTClaim (ML encTClaim l), .fn (.func 166) [] [.el (.agg [.sl false 5 yTClaim (ML encTClaim l2), .fn (.func 162) [] []]), .el (dI n)]]) ([]) = some (l.length ≤ 1099511627776, dI (indexBy (wantN nClaim n) 0 l), []) :=
  mkCon_fn c163_i_inj ((l, l2, n) : (List TClaim) × (List TClaim) × Int) rfl rfl
theorem c163_i_pc (l : List TClaim) (l2 : List TClaim) (n : Int) (hpre : l.length ≤ 1099511627776) : PCo Try.prog 163 ([.sl false 5 yTClaim (ML encTClaim l), .fn (.func 166) [] [.el (.agg [.sl false 5 yTClaim (ML encTClaim l2), .fn (.func 162) [] []]), .el (dI n)]]) (Tab.of ([])) (dI (indexBy (wantN nClaim n) 0 l)) (Tab.of ([])) := by
  refine pco_of_run [] (E := ⟨[c166], [], []⟩) (m := false) (base := 0) (Env.ok_cons c166_ok Env.ok_nil) G_ok mix 300 6 Try.func163 (by kernel_rfl) rfl (by kernel_rfl) (by kernel_rfl) rfl ?_
  simp [Try.f163]
  refine loop_inv (fun p : Nat => p ≤ l.length ∧ indexBy (wantN nClaim n) 0 l = indexBy (wantN nClaim n) p (l.drop p)) (fun p => [(0, .sl false 5 yTClaim (ML encTClaim l)), (1, .fn (.func 166) [] [.el (.agg [.sl false 5 yTClaim (ML encTClaim l2), .fn (.func 162) [] []]), .el (dI n)]), (7, dI l.length), (8, dI p)]) (fun _ => []) 1 (fun p => l.length - p) 0 400 (by simp) (by simp) (by simp) ?_
  intro p ⟨hp, hi⟩
  simp
  refine ⟨fun hlt => ?_, fun hge => ?_⟩
  · rw [indexBy_at (d := default) hlt] at hi
    repeat' (first | omega | refine And.intro ?_ ?_ | intro _)
    all_goals first | exact Again.mk (p + 1) ⟨by omega, by rw [hi]; grind⟩ (by simp) (by first | omega | (simp; omega)) | (rw [hi]; grind)
  · rw [hi, indexBy_end hge]
theorem c163_i_ok : c163_i.ok Try.prog := mkCon_ok fun ⟨l, l2, n⟩ hpre => c163_i_pc l l2 n hpre
/-- (loop.example/g03007/impl.sortedList[loop.example/g03007/impl.Claim]).put$1 -/
noncomputable def c164 : Con := mkCon 164 false (α := TClaim × (List TClaim) × Int) (fun x => (fun (x : TClaim) (l : List TClaim) (n : Int) => ([encTClaim x, .el (.agg [.sl false 5 yTClaim (ML encTClaim l), .fn (.func 162) [] []]), .el (dI n)] : List D)) x.1 x.2.1 x.2.2) (fun x => (fun (x : TClaim) (l : List TClaim) (n : Int) => ([] : List (Nm × OO))) x.1 x.2.1 x.2.2) (fun x => (fun (x : TClaim) (l : List TClaim) (n : Int) => True) x.1 x.2.1 x.2.2) (fun x => (fun (x : TClaim) (l : List TClaim) (n : Int) => (dB (geN nClaim n x) : D)) x.1 x.2.1 x.2.2) (fun x => (fun (x : TClaim) (l : List TClaim) (n : Int) => ([] : List (Nm × OO))) x.1 x.2.1 x.2.2)
@[simp] theorem c164_f : c164.f = 164 := rfl
@[simp] theorem c164_own : c164.own = false := rfl
theorem c164_inj : ∀ u_ v_ : TClaim × (List TClaim) × Int, ((fun x => (fun (x : TClaim) (l : List TClaim) (n : Int) => ([encTClaim x, .el (.agg [.sl false 5 yTClaim (ML encTClaim l), .fn (.func 162) [] []]), .el (dI n)] : List D)) x.1 x.2.1 x.2.2) u_).map nz = ((fun x => (fun (x : TClaim) (l : List TClaim) (n : Int) => ([encTClaim x, .el (.agg [.sl false 5 yTClaim (ML encTClaim l), .fn (.func 162) [] []]), .el (dI n)] : List D)) x.1 x.2.1 x.2.2) v_).map nz → (fun x => (fun (x : TClaim) (l : List TClaim) (n : Int) => ([] : List (Nm × OO))) x.1 x.2.1 x.2.2) u_ = (fun x => (fun (x : TClaim) (l : List TClaim) (n : Int) => ([] : List (Nm × OO))) x.1 x.2.1 x.2.2) v_ → u_ = v_ := by
  intro u_ v_ h h2_
  obtain ⟨⟨x_Id, x_Who, x_Thing, x_At, x_State⟩, l, n⟩ := u_
  obtain ⟨⟨x_Id', x_Who', x_Thing', x_At', x_State'⟩, l', n'⟩ := v_
  simp [nz_lit, nz1_lit, nz_agg, nz_sl, nz1_sl, nz_sx, nz_el, nz1_el, nz_own, nz1_own, nz_ptr, nz_fn, nz_iface] at h h2_
  first | (simp [h, h2_]; done) | (obtain ⟨h3_, h4_⟩ := List.append_inj h2_ h.1; simp_all; done) | simp_all | grind
@[simp] theorem c164_fn (x_Id : Int) (x_Who : Int) (x_Thing : Int) (x_At : Int) (x_State : Int) (l : List TClaim) (n : Int) : c164.fn ([.agg [.lit (.int .i64 x_Id), .lit (.int .i64 x_Who), .lit (.int .i64 x_Thing), .lit (.int .i64 x_At), .lit (.int .i64 x_State)], .el (.agg [.sl false 5 yTClaim (ML encTClaim l), .fn (.func 162) [] []]), .el (dI n)]) ([]) = some (True, dB (geN nClaim n (⟨x_Id, x_Who, x_Thing, x_At, x_State⟩ : TClaim)), []) :=
  mkCon_fn c164_inj ((⟨x_Id, x_Who, x_Thing, x_At, x_State⟩, l, n) : TClaim × (List TClaim) × Int) rfl rfl
theorem c164_pc (x : TClaim) (l : List TClaim) (n : Int) : PCo Try.prog 164 ([encTClaim x, .el (.agg [.sl false 5 yTClaim (ML encTClaim l), .fn (.func 162) [] []]), .el (dI n)]) (Tab.of ([])) (dB (geN nClaim n x)) (Tab.of ([])) := by
  refine pco_of_run [1] (E := ⟨[c162], [], []⟩) (m := false) (base := 0) (Env.ok_cons c162_ok Env.ok_nil) G_ok mix 300 6 Try.func164 (by kernel_rfl) rfl (by kernel_rfl) (by kernel_rfl) rfl ?_
  simp [Try.f164]
  simp [geN]; first | done | rfl
theorem c164_ok : c164.ok Try.prog := mkCon_ok fun ⟨x, l, n⟩ hpre => c164_pc x l n
/-- slices.IndexFunc[[]loop.example/g03007/impl.Clai -/
noncomputable def c163_p : Con := mkCon 163 false (α := (List TClaim) × (List TClaim) × Int) (fun x => (fun (l : List TClaim) (l2 : List TClaim) (n : Int) => ([.sl false 5 yTClaim (ML encTClaim l), .fn (.func 164) [] [.el (.agg [.sl false 5 yTClaim (ML encTClaim l2), .fn (.func 162) [] []]), .el (dI n)]] : List D)) x.1 x.2.1 x.2.2) (fun x => (fun (l : List TClaim) (l2 : List TClaim) (n : Int) => ([] : List (Nm × OO))) x.1 x.2.1 x.2.2) (fun x => (fun (l : List TClaim) (l2 : List TClaim) (n : Int) => l.length ≤ 1099511627776) x.1 x.2.1 x.2.2) (fun x => (fun (l : List TClaim) (l2 : List TClaim) (n : Int) => (dI (indexBy (geN nClaim n) 0 l) : D)) x.1 x.2.1 x.2.2) (fun x => (fun (l : List TClaim) (l2 : List TClaim) (n : Int) => ([] : List (Nm × OO))) x.1 x.2.1 x.2.2)
@[simp] theorem c163_p_f : c163_p.f = 163 := rfl
@[simp] theorem c163_p_own : c163_p.own = false := rfl
theorem c163_p_inj : ∀ u_ v_ : (List TClaim) × (List TClaim) × Int, ((fun x => (fun (l : List TClaim) (l2 : List TClaim) (n : Int) => ([.sl false 5 yTClaim (ML encTClaim l), .fn (.func 164) [] [.el (.agg [.sl false 5 yTClaim (ML encTClaim l2), .fn (.func 162) [] []]), .el (dI n)]] : List D)) x.1 x.2.1 x.2.2) u_).map nz = ((fun x => (fun (l : List TClaim) (l2 : List TClaim) (n : Int) => ([.sl false 5 yTClaim (ML encTClaim l), .fn (.func 164) [] [.el (.agg [.sl false 5 yTClaim (ML encTClaim l2), .fn (.func 162) [] []]), .el (dI n)]] : List D)) x.1 x.2.1 x.2.2) v_).map nz → (fun x => (fun (l : List TClaim) (l2 : List TClaim) (n : Int) => ([] : List (Nm × OO))) x.1 x.2.1 x.2.2) u_ = (fun x => (fun (l : List TClaim) (l2 : List TClaim) (n : Int) => ([] : List (Nm × OO))) x.1 x.2.1 x.2.2) v_ → u_ = v_ := by
  intro u_ v_ h h2_
  obtain ⟨l, l2, n⟩ := u_
  obtain ⟨l', l2', n'⟩ := v_
  simp [nz_lit, nz1_lit, nz_agg, nz_sl, nz1_sl, nz_sx, nz_el, nz1_el, nz_own, nz1_own, nz_ptr, nz_fn, nz_iface] at h h2_
  first | (simp [h, h2_]; done) | (obtain ⟨h3_, h4_⟩ := List.append_inj h2_ h.1; simp_all; done) | simp_all | grind
@[simp] theorem c163_p_fn (l : List TClaim) (l2 : List TClaim) (n : Int) : c163_p.fn ([.sl false 5 yTClaim (ML encTClaim l), .fn (.func 164) [] [.el (.agg [.sl false 5 yTClaim (ML encTClaim l2), .fn (.func 162) [] []]), .el (dI n)]]) ([]) = some (l.length ≤ 1099511627776, dI (indexBy (geN nClaim n) 0 l), []) :=
  mkCon_fn c163_p_inj ((l, l2, n) : (List TClaim) × (List TClaim) × Int) rfl rfl
theorem c163_p_pc (l : List TClaim) (l2 : List TClaim) (n : Int) (hpre : l.length ≤ 1099511627776) : PCo Try.prog 163 ([.sl false 5 yTClaim (ML encTClaim l), .fn (.func 164) [] [.el (.agg [.sl false 5 yTClaim (ML encTClaim l2), .fn (.func 162) [] []]), .el (dI n)]]) (Tab.of ([])) (dI (indexBy (geN nClaim n) 0 l)) (Tab.of ([])) := by
  refine pco_of_run [] (E := ⟨[c164], [], []⟩) (m := false) (base := 0) (Env.ok_cons c164_ok Env.ok_nil) G_ok mix 300 6 Try.func163 (by kernel_rfl) rfl (by kernel_rfl) (by kernel_rfl) rfl ?_
  simp [Try.f163]
  refine loop_inv (fun p : Nat => p ≤ l.length ∧ indexBy (geN nClaim n) 0 l = indexBy (geN nClaim n) p (l.drop p)) (fun p => [(0, .sl false 5 yTClaim (ML encTClaim l)), (1, .fn (.func 164) [] [.el (.agg [.sl false 5 yTClaim (ML encTClaim l2), .fn (.func 162) [] []]), .el (dI n)]), (7, dI l.length), (8, dI p)]) (fun _ => []) 1 (fun p => l.length - p) 0 400 (by simp) (by simp) (by simp) ?_
  intro p ⟨hp, hi⟩
  simp
  refine ⟨fun hlt => ?_, fun hge => ?_⟩
  · rw [indexBy_at (d := default) hlt] at hi
    repeat' (first | omega | refine And.intro ?_ ?_ | intro _)
    all_goals first | exact Again.mk (p + 1) ⟨by omega, by rw [hi]; grind⟩ (by simp) (by first | omega | (simp; omega)) | (rw [hi]; grind)
  · rw [hi, indexBy_end hge]
theorem c163_p_ok : c163_p.ok Try.prog := mkCon_ok fun ⟨l, l2, n⟩ hpre => c163_p_pc l l2 n hpre
noncomputable def c163 : Con := selCon 163 false [([161], c163_c), ([166], c163_i), ([164], c163_p)]
@[simp] theorem c163_f : c163.f = 163 := rfl
@[simp] theorem c163_own : c163.own = false := rfl
@[simp] theorem c163_fn0 (l : List TClaim) (w : Int) : c163.fn ([(.sl false 5 yTClaim (ML encTClaim l)), .fn (.func 161) [] [.el (dI w)]]) ([]) = some (l.length ≤ 1099511627776, dI (indexBy (fun x => decide (x.Who = w)) 0 l), []) := by
  rw [c163, selCon_fn]
  have h : selK [([161], c163_c), ([166], c163_i), ([164], c163_p)] (keyDs ([(.sl false 5 yTClaim (ML encTClaim l)), .fn (.func 161) [] [.el (dI w)]])) = some c163_c := by simp
  rw [h]
  exact c163_c_fn l w
@[simp] theorem c163_fn1 (l : List TClaim) (l2 : List TClaim) (n : Int) : c163.fn ([.sl false 5 yTClaim (ML encTClaim l), .fn (.func 166) [] [.el (.agg [.sl false 5 yTClaim (ML encTClaim l2), .fn (.func 162) [] []]), .el (dI n)]]) ([]) = some (l.length ≤ 1099511627776, dI (indexBy (wantN nClaim n) 0 l), []) := by
  rw [c163, selCon_fn]
  have h : selK [([161], c163_c), ([166], c163_i), ([164], c163_p)] (keyDs ([.sl false 5 yTClaim (ML encTClaim l), .fn (.func 166) [] [.el (.agg [.sl false 5 yTClaim (ML encTClaim l2), .fn (.func 162) [] []]), .el (dI n)]])) = some c163_i := by simp
  rw [h]
  exact c163_i_fn l l2 n
@[simp] theorem c163_fn2 (l : List TClaim) (l2 : List TClaim) (n : Int) : c163.fn ([.sl false 5 yTClaim (ML encTClaim l), .fn (.func 164) [] [.el (.agg [.sl false 5 yTClaim (ML encTClaim l2), .fn (.func 162) [] []]), .el (dI n)]]) ([]) = some (l.length ≤ 1099511627776, dI (indexBy (geN nClaim n) 0 l), []) := by
  rw [c163, selCon_fn]
  have h : selK [([161], c163_c), ([166], c163_i), ([164], c163_p)] (keyDs ([.sl false 5 yTClaim (ML encTClaim l), .fn (.func 164) [] [.el (.agg [.sl false 5 yTClaim (ML encTClaim l2), .fn (.func 162) [] []]), .el (dI n)]])) = some c163_p := by simp
  rw [h]
  exact c163_p_fn l l2 n
theorem c163_ok : c163.ok Try.prog := selCon_ok fun p hp => by
  simp only [List.mem_cons, List.not_mem_nil, or_false] at hp
  rcases hp with rfl | rfl | rfl
  · exact ⟨rfl, c163_c_ok⟩
  · exact ⟨rfl, c163_i_ok⟩
  · exact ⟨rfl, c163_p_ok⟩
/-- (loop.example/g03007/impl.sortedList[loop.example/g03007/impl.Claim]).indexOf -/
noncomputable def c104 : Con := mkCon 104 false (α := (List TClaim) × Int) (fun x => (fun (l : List TClaim) (n : Int) => ([.agg [.sl false 5 yTClaim (ML encTClaim l), .fn (.func 162) [] []], dI n] : List D)) x.1 x.2) (fun x => (fun (l : List TClaim) (n : Int) => ([] : List (Nm × OO))) x.1 x.2) (fun x => (fun (l : List TClaim) (n : Int) => l.length ≤ 1099511627776) x.1 x.2) (fun x => (fun (l : List TClaim) (n : Int) => (dI (indexBy (wantN nClaim n) 0 l) : D)) x.1 x.2) (fun x => (fun (l : List TClaim) (n : Int) => ([] : List (Nm × OO))) x.1 x.2)
@[simp] theorem c104_f : c104.f = 104 := rfl
@[simp] theorem c104_own : c104.own = false := rfl
theorem c104_inj : ∀ u_ v_ : (List TClaim) × Int, ((fun x => (fun (l : List TClaim) (n : Int) => ([.agg [.sl false 5 yTClaim (ML encTClaim l), .fn (.func 162) [] []], dI n] : List D)) x.1 x.2) u_).map nz = ((fun x => (fun (l : List TClaim) (n : Int) => ([.agg [.sl false 5 yTClaim (ML encTClaim l), .fn (.func 162) [] []], dI n] : List D)) x.1 x.2) v_).map nz → (fun x => (fun (l : List TClaim) (n : Int) => ([] : List (Nm × OO))) x.1 x.2) u_ = (fun x => (fun (l : List TClaim) (n : Int) => ([] : List (Nm × OO))) x.1 x.2) v_ → u_ = v_ := by
  intro u_ v_ h h2_
  obtain ⟨l, n⟩ := u_
  obtain ⟨l', n'⟩ := v_
  simp [nz_lit, nz1_lit, nz_agg, nz_sl, nz1_sl, nz_sx, nz_el, nz1_el, nz_own, nz1_own, nz_ptr, nz_fn, nz_iface] at h h2_
  first | (simp [h, h2_]; done) | (obtain ⟨h3_, h4_⟩ := List.append_inj h2_ h.1; simp_all; done) | simp_all | grind
@[simp] theorem c104_fn (l : List TClaim) (n : Int) : c104.fn ([.agg [.sl false 5 yTClaim (ML encTClaim l), .fn (.func 162) [] []], dI n]) ([]) = some (l.length ≤ 1099511627776, dI (indexBy (wantN nClaim n) 0 l), []) :=
  mkCon_fn c104_inj ((l, n) : (List TClaim) × Int) rfl rfl
theorem c104_pc (l : List TClaim) (n : Int) (hpre : l.length ≤ 1099511627776) : PCo Try.prog 104 ([.agg [.sl false 5 yTClaim (ML encTClaim l), .fn (.func 162) [] []], dI n]) (Tab.of ([])) (dI (indexBy (wantN nClaim n) 0 l)) (Tab.of ([])) := by
  refine pco_of_run [] (E := ⟨[c163, c166], [], []⟩) (m := false) (base := 0) (Env.ok_cons c163_ok (Env.ok_cons c166_ok Env.ok_nil)) G_ok mix 300 6 Try.func104 (by kernel_rfl) rfl (by kernel_rfl) (by kernel_rfl) rfl ?_
  simp [Try.f104]
  all_goals first | omega | (rw [Bool.eq_iff_iff]; simp; omega) | grind
theorem c104_ok : c104.ok Try.prog := mkCon_ok fun ⟨l, n⟩ hpre => c104_pc l n hpre
def mFindClaim (l : List TClaim) (n : Int) : Int := indexBy (wantN nClaim n) 0 l
/-- loop.example/g03007/impl.FindClaim -/
noncomputable def c34 : Con := mkCon 34 false (α := (List TClaim) × Int) (fun x => (fun (l : List TClaim) (n : Int) => [encLTClaim l, dI n]) x.1 x.2) (fun _ => []) (fun x => (fun (l : List TClaim) (n : Int) => l.length ≤ 1099511627776) x.1 x.2) (fun x => (fun (l : List TClaim) (n : Int) => (dI (mFindClaim l n) : D)) x.1 x.2) (fun x => (fun (l : List TClaim) (n : Int) => []) x.1 x.2)
@[simp] theorem c34_f : c34.f = 34 := rfl
@[simp] theorem c34_own : c34.own = false := rfl
theorem c34_inj : ∀ u_ v_ : (List TClaim) × Int, ((fun x => (fun (l : List TClaim) (n : Int) => [encLTClaim l, dI n]) x.1 x.2) u_).map nz = ((fun x => (fun (l : List TClaim) (n : Int) => [encLTClaim l, dI n]) x.1 x.2) v_).map nz → u_ = v_ := by
  intro u_ v_ h
  obtain ⟨l, n⟩ := u_
  obtain ⟨l', n'⟩ := v_
  simp [nz_lit, nz1_lit, nz_agg, nz_sl, nz1_sl, encLTClaim] at h
  first | (simp [h]; done) | (obtain ⟨⟩ := h; simp_all; done) | simp_all
@[simp] theorem c34_fn (l : List TClaim) (n : Int) : c34.fn [.sl false 5 yTClaim (ML encTClaim l), .lit (.int .i64 n)] [] = some ((fun (l : List TClaim) (n : Int) => l.length ≤ 1099511627776) l n, (fun (l : List TClaim) (n : Int) => (dI (mFindClaim l n) : D)) l n, (fun (l : List TClaim) (n : Int) => []) l n) :=
  mkCon_fn (fun x y h _ => c34_inj x y h) ((l, n) : (List TClaim) × Int) (by simp [nz, nz1, ML_nil, encLTClaim]) rfl
@[simp] theorem c34_fn1 (s_l : Nat) (z_l : D) (n : Int) : c34.fn [.sl false s_l z_l [], .lit (.int .i64 n)] [] = some ((fun (l : List TClaim) (n : Int) => l.length ≤ 1099511627776) [] n, (fun (l : List TClaim) (n : Int) => (dI (mFindClaim l n) : D)) [] n, (fun (l : List TClaim) (n : Int) => []) [] n) :=
  mkCon_fn (fun x y h _ => c34_inj x y h) (([], n) : (List TClaim) × Int) (by simp [nz, nz1, ML_nil, encLTClaim]) rfl
theorem c34_pc (l : List TClaim) (n : Int) (hpre : l.length ≤ 1099511627776) : PCo Try.prog 34 [encLTClaim l, dI n] (Tab.of []) (dI (mFindClaim l n)) (Tab.of []) := by
  refine pco_of_run [] (E := ⟨[c99, c104], [], []⟩) (m := false) (base := 0) (Env.ok_cons c99_ok (Env.ok_cons c104_ok Env.ok_nil)) G_ok mix 300 6 Try.func34 (by kernel_rfl) rfl (by kernel_rfl) (by kernel_rfl) rfl ?_
  simp [Try.f34]
  exact ⟨hpre, rfl⟩
theorem c34_ok : c34.ok Try.prog := mkCon_ok fun ⟨l, n⟩ hpre => c34_pc l n hpre
/-- loop.example/g03007/spec.FindClaim -/
noncomputable def c224 : Con := mkCon 224 false (α := (List TClaim) × Int) (fun x => (fun (l : List TClaim) (n : Int) => [encLTClaim l, dI n]) x.1 x.2) (fun _ => []) (fun x => (fun (l : List TClaim) (n : Int) => l.length ≤ 1099511627776) x.1 x.2) (fun x => (fun (l : List TClaim) (n : Int) => (dI (mFindClaim l n) : D)) x.1 x.2) (fun x => (fun (l : List TClaim) (n : Int) => []) x.1 x.2)
@[simp] theorem c224_f : c224.f = 224 := rfl
@[simp] theorem c224_own : c224.own = false := rfl
theorem c224_inj : ∀ u_ v_ : (List TClaim) × Int, ((fun x => (fun (l : List TClaim) (n : Int) => [encLTClaim l, dI n]) x.1 x.2) u_).map nz = ((fun x => (fun (l : List TClaim) (n : Int) => [encLTClaim l, dI n]) x.1 x.2) v_).map nz → u_ = v_ := by
  intro u_ v_ h
  obtain ⟨l, n⟩ := u_
  obtain ⟨l', n'⟩ := v_
  simp [nz_lit, nz1_lit, nz_agg, nz_sl, nz1_sl, encLTClaim] at h
  first | (simp [h]; done) | (obtain ⟨⟩ := h; simp_all; done) | simp_all
@[simp] theorem c224_fn (l : List TClaim) (n : Int) : c224.fn [.sl false 5 yTClaim (ML encTClaim l), .lit (.int .i64 n)] [] = some ((fun (l : List TClaim) (n : Int) => l.length ≤ 1099511627776) l n, (fun (l : List TClaim) (n : Int) => (dI (mFindClaim l n) : D)) l n, (fun (l : List TClaim) (n : Int) => []) l n) :=
  mkCon_fn (fun x y h _ => c224_inj x y h) ((l, n) : (List TClaim) × Int) (by simp [nz, nz1, ML_nil, encLTClaim]) rfl
@[simp] theorem c224_fn1 (s_l : Nat) (z_l : D) (n : Int) : c224.fn [.sl false s_l z_l [], .lit (.int .i64 n)] [] = some ((fun (l : List TClaim) (n : Int) => l.length ≤ 1099511627776) [] n, (fun (l : List TClaim) (n : Int) => (dI (mFindClaim l n) : D)) [] n, (fun (l : List TClaim) (n : Int) => []) [] n) :=
  mkCon_fn (fun x y h _ => c224_inj x y h) (([], n) : (List TClaim) × Int) (by simp [nz, nz1, ML_nil, encLTClaim]) rfl
theorem c224_pc (l : List TClaim) (n : Int) (hpre : l.length ≤ 1099511627776) : PCo Try.prog 224 [encLTClaim l, dI n] (Tab.of []) (dI (mFindClaim l n)) (Tab.of []) := by
  refine pco_of_run [] (E := ⟨[], [], []⟩) (m := false) (base := 0) Env.ok_nil G_ok mix 300 6 Try.func224 (by kernel_rfl) rfl (by kernel_rfl) (by kernel_rfl) rfl ?_
  simp [Try.f224]
  refine loop_inv (fun p : Nat => p ≤ l.length ∧ mFindClaim l n = indexBy (wantN nClaim n) p (l.drop p)) (fun p => [(0, encLTClaim l), (1, dI n), (5, dI p)]) (fun _ => []) 1 (fun p => l.length - p) 0 400 (by simp) (by simp [mFindClaim]) (by simp) ?_
  intro p ⟨hp, hi⟩
  simp
  refine ⟨fun hlt => ?_, fun hge => ?_⟩
  · rw [indexBy_at (d := default) hlt] at hi; simp only [nClaim, wantN] at hi
    repeat' (first | omega | refine And.intro ?_ ?_ | intro _)
    all_goals first | exact Again.mk (p + 1) ⟨by omega, by rw [hi]; grind⟩ (by simp) (by first | omega | (simp; omega)) | (rw [hi]; grind)
  · rw [hi, indexBy_end hge]
theorem c224_ok : c224.ok Try.prog := mkCon_ok fun ⟨l, n⟩ hpre => c224_pc l n hpre
/-- (loop.example/g03007/impl.sortedList[loop.example/g03007/impl.Claim]).put -/
noncomputable def c100 : Con := mkCon 100 false (α := (List TClaim) × TClaim) (fun x => (fun (l : List TClaim) (x : TClaim) => ([.agg [.sl false 5 yTClaim (ML encTClaim l), .fn (.func 162) [] []], encTClaim x] : List D)) x.1 x.2) (fun x => (fun (l : List TClaim) (x : TClaim) => ([] : List (Nm × OO))) x.1 x.2) (fun x => (fun (l : List TClaim) (x : TClaim) => l.length ≤ 1073741823) x.1 x.2) (fun x => (fun (l : List TClaim) (x : TClaim) => (.own (0, 1) 5 0 (putBy nClaim x l).length : D)) x.1 x.2) (fun x => (fun (l : List TClaim) (x : TClaim) => ([((0, 1), .arr false 5 yTClaim (ML encTClaim (putBy nClaim x l)))] : List (Nm × OO))) x.1 x.2)
@[simp] theorem c100_f : c100.f = 100 := rfl
@[simp] theorem c100_own : c100.own = false := rfl
theorem c100_inj : ∀ u_ v_ : (List TClaim) × TClaim, ((fun x => (fun (l : List TClaim) (x : TClaim) => ([.agg [.sl false 5 yTClaim (ML encTClaim l), .fn (.func 162) [] []], encTClaim x] : List D)) x.1 x.2) u_).map nz = ((fun x => (fun (l : List TClaim) (x : TClaim) => ([.agg [.sl false 5 yTClaim (ML encTClaim l), .fn (.func 162) [] []], encTClaim x] : List D)) x.1 x.2) v_).map nz → (fun x => (fun (l : List TClaim) (x : TClaim) => ([] : List (Nm × OO))) x.1 x.2) u_ = (fun x => (fun (l : List TClaim) (x : TClaim) => ([] : List (Nm × OO))) x.1 x.2) v_ → u_ = v_ := by
  intro u_ v_ h h2_
  obtain ⟨l, ⟨x_Id, x_Who, x_Thing, x_At, x_State⟩⟩ := u_
  obtain ⟨l', ⟨x_Id', x_Who', x_Thing', x_At', x_State'⟩⟩ := v_
  simp [nz_lit, nz1_lit, nz_agg, nz_sl, nz1_sl, nz_sx, nz_el, nz1_el, nz_own, nz1_own, nz_ptr, nz_fn, nz_iface] at h h2_
  first | (simp [h, h2_]; done) | (obtain ⟨h3_, h4_⟩ := List.append_inj h2_ h.1; simp_all; done) | simp_all | grind
@[simp] theorem c100_fn (l : List TClaim) (x_Id : Int) (x_Who : Int) (x_Thing : Int) (x_At : Int) (x_State : Int) : c100.fn ([.agg [.sl false 5 yTClaim (ML encTClaim l), .fn (.func 162) [] []], .agg [.lit (.int .i64 x_Id), .lit (.int .i64 x_Who), .lit (.int .i64 x_Thing), .lit (.int .i64 x_At), .lit (.int .i64 x_State)]]) ([]) = some (l.length ≤ 1073741823, .own (0, 1) 5 0 (putBy nClaim (⟨x_Id, x_Who, x_Thing, x_At, x_State⟩ : TClaim) l).length, [((0, 1), .arr false 5 yTClaim (ML encTClaim (putBy nClaim (⟨x_Id, x_Who, x_Thing, x_At, x_State⟩ : TClaim) l)))]) :=
  mkCon_fn c100_inj ((l, ⟨x_Id, x_Who, x_Thing, x_At, x_State⟩) : (List TClaim) × TClaim) rfl rfl
theorem c100_pc (l : List TClaim) (x : TClaim) (hpre : l.length ≤ 1073741823) : PCo Try.prog 100 ([.agg [.sl false 5 yTClaim (ML encTClaim l), .fn (.func 162) [] []], encTClaim x]) (Tab.of ([])) (.own (0, 1) 5 0 (putBy nClaim x l).length) (Tab.of ([((0, 1), .arr false 5 yTClaim (ML encTClaim (putBy nClaim x l)))])) := by
  refine pco_of_run [6, 1008] (E := ⟨[c163, c164, c162], [], []⟩) (m := false) (base := 0) (Env.ok_cons c163_ok (Env.ok_cons c164_ok (Env.ok_cons c162_ok Env.ok_nil))) G_ok mix 300 6 Try.func100 (by kernel_rfl) rfl (by kernel_rfl) (by kernel_rfl) rfl ?_
  have hb := indexBy_bd (want := geN nClaim (nClaim x)) l 0
  have hl : ¬ (l.length : Int) < 0 := by omega
  simp only [nClaim] at hb
  by_cases hneg : indexBy (geN nClaim (nClaim x)) 0 l < 0
  · have e1 : putAt nClaim (nClaim x) l = l.length := by unfold putAt; exact if_pos hneg
    have e2 : putRest nClaim (nClaim x) l = l.length := by unfold putRest; rw [e1]; simp
    have e3 : putBy nClaim x l = l ++ [x] := by simp only [putBy]; rw [e1, e2]; simp
    rw [e3]
    simp only [nClaim] at hneg
    simp [Try.f100, hneg, ↓ML_getD_TClaim]
    omega
  · obtain ⟨k, hk, hkl⟩ : ∃ k : Nat, indexBy (geN nClaim (nClaim x)) 0 l = k ∧ k < l.length := ⟨(indexBy (geN nClaim (nClaim x)) 0 l).toNat, by simp only [nClaim] at *; omega, by simp only [nClaim] at *; omega⟩
    have e1 : putAt nClaim (nClaim x) l = k := by unfold putAt; rw [hk]; simp; intro h; omega
    by_cases hq : nClaim (l[k]?.getD default) = nClaim x
    · have e2 : putRest nClaim (nClaim x) l = k + 1 := by unfold putRest; rw [e1]; exact if_pos ⟨hkl, hq⟩
      have e3 : putBy nClaim x l = l.take k ++ x :: l.drop (k + 1) := by simp only [putBy]; rw [e1, e2]
      rw [e3]
      simp only [nClaim] at hk hq
      simp [Try.f100, hk, hq, ↓ML_getD_TClaim]
      omega
    · have e2 : putRest nClaim (nClaim x) l = k := by unfold putRest; rw [e1]; exact if_neg fun h => hq h.2
      have e3 : putBy nClaim x l = l.take k ++ x :: l.drop k := by simp only [putBy]; rw [e1, e2]
      rw [e3]
      simp only [nClaim] at hk hq
      simp [Try.f100, hk, hq, ↓ML_getD_TClaim]
      omega
theorem c100_ok : c100.ok Try.prog := mkCon_ok fun ⟨l, x⟩ hpre => c100_pc l x hpre
theorem indexBy_any {α : Type} {w : α → Bool} : ∀ (l : List α) (i : Int), 0 ≤ i → (0 ≤ indexBy w i l ↔ l.any w = true)
  | [], i, _ => by simp [indexBy]
  | x :: r, i, hi => by
    have := indexBy_any (w := w) r (i + 1) (by omega)
    by_cases hx : w x = true
    · simp [indexBy, hx, hi]
    · simp [indexBy, hx, this]
def whoIs (w : Int) (x : TClaim) : Bool := decide (x.Who = w)
/-- slices.ContainsFunc[[]loop.example/g03007/impl.Clai -/
noncomputable def c160 : Con := mkCon 160 false (α := (List TClaim) × Int) (fun x => (fun (l : List TClaim) (w : Int) => ([encLTClaim l, .fn (.func 161) [] [.el (dI w)]] : List D)) x.1 x.2) (fun x => (fun (l : List TClaim) (w : Int) => ([] : List (Nm × OO))) x.1 x.2) (fun x => (fun (l : List TClaim) (w : Int) => l.length ≤ 1099511627776) x.1 x.2) (fun x => (fun (l : List TClaim) (w : Int) => (dB (l.any (whoIs w)) : D)) x.1 x.2) (fun x => (fun (l : List TClaim) (w : Int) => ([] : List (Nm × OO))) x.1 x.2)
@[simp] theorem c160_f : c160.f = 160 := rfl
@[simp] theorem c160_own : c160.own = false := rfl
theorem c160_inj : ∀ u_ v_ : (List TClaim) × Int, ((fun x => (fun (l : List TClaim) (w : Int) => ([encLTClaim l, .fn (.func 161) [] [.el (dI w)]] : List D)) x.1 x.2) u_).map nz = ((fun x => (fun (l : List TClaim) (w : Int) => ([encLTClaim l, .fn (.func 161) [] [.el (dI w)]] : List D)) x.1 x.2) v_).map nz → (fun x => (fun (l : List TClaim) (w : Int) => ([] : List (Nm × OO))) x.1 x.2) u_ = (fun x => (fun (l : List TClaim) (w : Int) => ([] : List (Nm × OO))) x.1 x.2) v_ → u_ = v_ := by
  intro u_ v_ h h2_
  obtain ⟨l, w⟩ := u_
  obtain ⟨l', w'⟩ := v_
  simp [nz_lit, nz1_lit, nz_agg, nz_sl, nz1_sl, nz_sx, nz_el, nz1_el, nz_own, nz1_own, nz_ptr, nz_fn, nz_iface] at h h2_
  first | (simp [h, h2_]; done) | (obtain ⟨h3_, h4_⟩ := List.append_inj h2_ h.1; simp_all; done) | simp_all | grind
@[simp] theorem c160_fn (l : List TClaim) (w : Int) : c160.fn ([(.sl false 5 yTClaim (ML encTClaim l)), .fn (.func 161) [] [.el (dI w)]]) ([]) = some (l.length ≤ 1099511627776, dB (l.any (whoIs w)), []) :=
  mkCon_fn c160_inj ((l, w) : (List TClaim) × Int) rfl rfl
theorem c160_pc (l : List TClaim) (w : Int) (hpre : l.length ≤ 1099511627776) : PCo Try.prog 160 ([encLTClaim l, .fn (.func 161) [] [.el (dI w)]]) (Tab.of ([])) (dB (l.any (whoIs w))) (Tab.of ([])) := by
  refine pco_of_run [] (E := ⟨[c163, c161], [], []⟩) (m := false) (base := 0) (Env.ok_cons c163_ok (Env.ok_cons c161_ok Env.ok_nil)) G_ok mix 300 6 Try.func160 (by kernel_rfl) rfl (by kernel_rfl) (by kernel_rfl) rfl ?_
  simp [Try.f160]
  refine ⟨hpre, ?_⟩
  have := indexBy_any (w := whoIs w) l 0 (by omega)
  rw [Bool.eq_iff_iff, ← this]
  simp; rfl
theorem c160_ok : c160.ok Try.prog := mkCon_ok fun ⟨l, w⟩ hpre => c160_pc l w hpre
def claimedG (g : Gc) (k w : Int) : Bool := (getG g k).any (whoIs w)
/-- (*loop.example/g03007/impl.claimBook).isClaimed -/
noncomputable def c97 : Con := mkCon 97 false (α := Gc × Int × Int) (fun x => (fun (g : Gc) (k : Int) (w : Int) => ([.el (.agg [.fm 0 (keysG g) (.sl false 5 yTClaim []) (rowsD 5 yTClaim (rowsG encTClaim g))]), dI k, dI w] : List D)) x.1 x.2.1 x.2.2) (fun x => (fun (g : Gc) (k : Int) (w : Int) => ([] : List (Nm × OO))) x.1 x.2.1 x.2.2) (fun x => (fun (g : Gc) (k : Int) (w : Int) => (getG g k).length ≤ 1099511627776) x.1 x.2.1 x.2.2) (fun x => (fun (g : Gc) (k : Int) (w : Int) => (dB (claimedG g k w) : D)) x.1 x.2.1 x.2.2) (fun x => (fun (g : Gc) (k : Int) (w : Int) => ([] : List (Nm × OO))) x.1 x.2.1 x.2.2)
@[simp] theorem c97_f : c97.f = 97 := rfl
@[simp] theorem c97_own : c97.own = false := rfl
theorem c97_inj : ∀ u_ v_ : Gc × Int × Int, ((fun x => (fun (g : Gc) (k : Int) (w : Int) => ([.el (.agg [.fm 0 (keysG g) (.sl false 5 yTClaim []) (rowsD 5 yTClaim (rowsG encTClaim g))]), dI k, dI w] : List D)) x.1 x.2.1 x.2.2) u_).map nz = ((fun x => (fun (g : Gc) (k : Int) (w : Int) => ([.el (.agg [.fm 0 (keysG g) (.sl false 5 yTClaim []) (rowsD 5 yTClaim (rowsG encTClaim g))]), dI k, dI w] : List D)) x.1 x.2.1 x.2.2) v_).map nz → (fun x => (fun (g : Gc) (k : Int) (w : Int) => ([] : List (Nm × OO))) x.1 x.2.1 x.2.2) u_ = (fun x => (fun (g : Gc) (k : Int) (w : Int) => ([] : List (Nm × OO))) x.1 x.2.1 x.2.2) v_ → u_ = v_ := by
  intro u_ v_ h h2_
  obtain ⟨g, k, w⟩ := u_
  obtain ⟨g', k', w'⟩ := v_
  simp [nz_lit, nz1_lit, nz_agg, nz_sl, nz1_sl, nz_sx, nz_el, nz1_el, nz_own, nz1_own, nz_ptr, nz_fn, nz_iface] at h h2_
  first | (simp [h, h2_]; done) | (obtain ⟨h3_, h4_⟩ := List.append_inj h2_ h.1; simp_all; done) | simp_all | grind
@[simp] theorem c97_fn (g : Gc) (k : Int) (w : Int) : c97.fn ([.el (.agg [.fm 0 (keysG g) (.sl false 5 yTClaim []) (rowsD 5 yTClaim (rowsG encTClaim g))]), dI k, dI w]) ([]) = some ((getG g k).length ≤ 1099511627776, dB (claimedG g k w), []) :=
  mkCon_fn c97_inj ((g, k, w) : Gc × Int × Int) rfl rfl
theorem c97_pc (g : Gc) (k : Int) (w : Int) (hpre : (getG g k).length ≤ 1099511627776) : PCo Try.prog 97 ([.el (.agg [.fm 0 (keysG g) (.sl false 5 yTClaim []) (rowsD 5 yTClaim (rowsG encTClaim g))]), dI k, dI w]) (Tab.of ([])) (dB (claimedG g k w)) (Tab.of ([])) := by
  refine pco_of_run [] (E := ⟨[c160, c161], [], []⟩) (m := false) (base := 0) (Env.ok_cons c160_ok (Env.ok_cons c161_ok Env.ok_nil)) G_ok mix 300 6 Try.func97 (by kernel_rfl) rfl (by kernel_rfl) (by kernel_rfl) rfl ?_
  simp [Try.f97]
  exact ⟨hpre, rfl⟩
theorem c97_ok : c97.ok Try.prog := mkCon_ok fun ⟨g, k, w⟩ hpre => c97_pc g k w hpre
theorem claimed_eq (l : List TClaim) (k w : Int) : claimedG (bkC l) k w = l.any (pairIs k w) := by
  rw [claimedG, bk_get, List.any_filter]
  rfl
def insC (l : List TClaim) (x : TClaim) : List TClaim := l.take (putAt nClaim x.Id l) ++ x :: l.drop (putAt nClaim x.Id l)
def okAdd (l : List TClaim) (x : TClaim) : Bool := stateIs 0 x && !l.any (pairIs x.Thing x.Who) && mAreClaims (insC l x)
def mAddClaim (l : List TClaim) (x : TClaim) : List TClaim := if okAdd l x then insC l x else l
theorem mAddClaim_yes {l : List TClaim} {x : TClaim} (h : okAdd l x = true) : mAddClaim l x = insC l x := by simp [mAddClaim, h]
theorem mAddClaim_no {l : List TClaim} {x : TClaim} (h : okAdd l x = false) : mAddClaim l x = l := by simp [mAddClaim, h]
theorem putAtC_le (n : Int) (l : List TClaim) : putAt nClaim n l ≤ l.length := putAt_le nClaim n l
theorem insC_len (l : List TClaim) (x : TClaim) : (insC l x).length = l.length + 1 := by
  have := putAt_le nClaim x.Id l
  simp [insC]; omega
theorem mAddClaim_len (l : List TClaim) (x : TClaim) : (mAddClaim l x).length ≤ l.length + 1 := by
  simp only [mAddClaim]; split
  · rw [insC_len]; omega
  · omega
theorem insC_dup {l : List TClaim} {x : TClaim} (h : 0 ≤ mFindClaim l x.Id) : mAreClaims (insC l x) = false := by
  rw [mFindClaim, index_hasG l 0 (by omega)] at h
  obtain ⟨y, hy, e⟩ := h
  cases ha : mAreClaims (insC l x) with
  | false => rfl
  | true =>
    simp only [mAreClaims, insC, Bool.and_eq_true] at ha
    have hm := asc_midG ha.1.2
    rw [← List.take_append_drop (putAt nClaim x.Id l) l, List.mem_append] at hy
    simp only [nClaim] at hm e
    rcases hy with hy | hy
    · have := hm.1 y hy; omega
    · have := hm.2 y hy; omega
theorem putC_ins {l : List TClaim} {x : TClaim} (h : mFindClaim l x.Id < 0) : putBy nClaim x l = insC l x := by
  have h2 : ¬ ∃ y ∈ l, nClaim y = x.Id := by
    rw [← index_hasG l 0 (by omega)]
    simp only [mFindClaim] at h; omega
  have h3 : putRest nClaim x.Id l = putAt nClaim x.Id l := by
    simp only [putRest]
    rw [if_neg]
    rintro ⟨h4, h5⟩
    exact h2 ⟨_, getD_mem (d := default) h4, h5⟩
  simp only [putBy, insC, nClaim]
  rw [h3]
/-- loop.example/g03007/impl.AddClaim -/
noncomputable def c32 : Con := mkCon 32 false (α := (List TClaim) × TClaim) (fun x => (fun (l : List TClaim) (x : TClaim) => [encLTClaim l, encTClaim x]) x.1 x.2) (fun _ => []) (fun x => (fun (l : List TClaim) (x : TClaim) => l.length ≤ 1073741000) x.1 x.2) (fun x => (fun (l : List TClaim) (x : TClaim) => (.tup [.own (0, 1) 5 0 (mAddClaim l x).length, dB (okAdd l x)] : D)) x.1 x.2) (fun x => (fun (l : List TClaim) (x : TClaim) => [((0, 1), .arr false 5 yTClaim (ML encTClaim (mAddClaim l x)))]) x.1 x.2)
@[simp] theorem c32_f : c32.f = 32 := rfl
@[simp] theorem c32_own : c32.own = false := rfl
theorem c32_inj : ∀ u_ v_ : (List TClaim) × TClaim, ((fun x => (fun (l : List TClaim) (x : TClaim) => [encLTClaim l, encTClaim x]) x.1 x.2) u_).map nz = ((fun x => (fun (l : List TClaim) (x : TClaim) => [encLTClaim l, encTClaim x]) x.1 x.2) v_).map nz → u_ = v_ := by
  intro u_ v_ h
  obtain ⟨l, ⟨x_Id, x_Who, x_Thing, x_At, x_State⟩⟩ := u_
  obtain ⟨l', ⟨x_Id', x_Who', x_Thing', x_At', x_State'⟩⟩ := v_
  simp [nz_lit, nz1_lit, nz_agg, nz_sl, nz1_sl, encLTClaim, encTClaim] at h
  first | (simp [h]; done) | (obtain ⟨⟩ := h; simp_all; done) | simp_all
@[simp] theorem c32_fn (l : List TClaim) (x_Id : Int) (x_Who : Int) (x_Thing : Int) (x_At : Int) (x_State : Int) : c32.fn [.sl false 5 yTClaim (ML encTClaim l), .agg [.lit (.int .i64 x_Id), .lit (.int .i64 x_Who), .lit (.int .i64 x_Thing), .lit (.int .i64 x_At), .lit (.int .i64 x_State)]] [] = some ((fun (l : List TClaim) (x : TClaim) => l.length ≤ 1073741000) l ⟨x_Id, x_Who, x_Thing, x_At, x_State⟩, (fun (l : List TClaim) (x : TClaim) => (.tup [.own (0, 1) 5 0 (mAddClaim l x).length, dB (okAdd l x)] : D)) l ⟨x_Id, x_Who, x_Thing, x_At, x_State⟩, (fun (l : List TClaim) (x : TClaim) => [((0, 1), .arr false 5 yTClaim (ML encTClaim (mAddClaim l x)))]) l ⟨x_Id, x_Who, x_Thing, x_At, x_State⟩) :=
  mkCon_fn (fun x y h _ => c32_inj x y h) ((l, ⟨x_Id, x_Who, x_Thing, x_At, x_State⟩) : (List TClaim) × TClaim) (by simp [nz, nz1, ML_nil, encLTClaim, encTClaim]) rfl
@[simp] theorem c32_fn1 (s_l : Nat) (z_l : D) (x_Id : Int) (x_Who : Int) (x_Thing : Int) (x_At : Int) (x_State : Int) : c32.fn [.sl false s_l z_l [], .agg [.lit (.int .i64 x_Id), .lit (.int .i64 x_Who), .lit (.int .i64 x_Thing), .lit (.int .i64 x_At), .lit (.int .i64 x_State)]] [] = some ((fun (l : List TClaim) (x : TClaim) => l.length ≤ 1073741000) [] ⟨x_Id, x_Who, x_Thing, x_At, x_State⟩, (fun (l : List TClaim) (x : TClaim) => (.tup [.own (0, 1) 5 0 (mAddClaim l x).length, dB (okAdd l x)] : D)) [] ⟨x_Id, x_Who, x_Thing, x_At, x_State⟩, (fun (l : List TClaim) (x : TClaim) => [((0, 1), .arr false 5 yTClaim (ML encTClaim (mAddClaim l x)))]) [] ⟨x_Id, x_Who, x_Thing, x_At, x_State⟩) :=
  mkCon_fn (fun x y h _ => c32_inj x y h) (([], ⟨x_Id, x_Who, x_Thing, x_At, x_State⟩) : (List TClaim) × TClaim) (by simp [nz, nz1, ML_nil, encLTClaim, encTClaim]) rfl
theorem c32_pc (l : List TClaim) (x : TClaim) (hpre : l.length ≤ 1073741000) : PCo Try.prog 32 [encLTClaim l, encTClaim x] (Tab.of []) (.tup [.own (0, 1) 5 0 (mAddClaim l x).length, dB (okAdd l x)]) (Tab.of [((0, 1), .arr false 5 yTClaim (ML encTClaim (mAddClaim l x)))]) := by
  refine pco_of_run [1001, 1003] (E := ⟨[c33, c34, c96, c97, c98, c99, c100, c97], [], []⟩) (m := false) (base := 0) (Env.ok_cons c33_ok (Env.ok_cons c34_ok (Env.ok_cons c96_ok (Env.ok_cons c97_ok (Env.ok_cons c98_ok (Env.ok_cons c99_ok (Env.ok_cons c100_ok (Env.ok_cons c97_ok Env.ok_nil)))))))) G_ok mix 300 6 Try.func32 (by kernel_rfl) rfl (by kernel_rfl) (by kernel_rfl) rfl ?_
  have hg := getC_len l x.Thing
  have hz := insC_len l x
  have hcl := claimed_eq l x.Thing x.Who
  by_cases h0 : x.State = 0
  · by_cases h1 : 0 ≤ mFindClaim l x.Id
    · have h2 : okAdd l x = false := by simp [okAdd, insC_dup h1]
      simp [Try.f32, h0, h1, h2, mAddClaim_no h2]
      omega
    · have h3 := putC_ins (l := l) (x := x) (by omega)
      cases h4 : l.any (pairIs x.Thing x.Who) with
      | true =>
        have h2 : okAdd l x = false := by simp [okAdd, h4]
        rw [h4] at hcl
        simp [Try.f32, h0, h1, h2, hcl, mAddClaim_no h2]
        omega
      | false =>
        rw [h4] at hcl
        have hx : (⟨x.Id, x.Who, x.Thing, x.At, 0⟩ : TClaim) = x := by obtain ⟨a, b, c, d, e⟩ := x; simp only at h0; rw [h0]
        cases h : mAreClaims (insC l x) with
        | true =>
          have h2 : okAdd l x = true := by simp [okAdd, h4, h, h0, stateIs]
          simp [Try.f32, h0, h1, h2, h3, h, hcl, mAddClaim_yes h2]
          rw [hx, h3]
          exact ⟨⟨by omega, by omega, by omega⟩, by omega, by omega, h, fun _ => ⟨rfl, rfl⟩⟩
        | false =>
          have h2 : okAdd l x = false := by simp [okAdd, h]
          simp [Try.f32, h0, h1, h2, h3, h, hcl, mAddClaim_no h2]
          rw [hx, h3]
          exact ⟨⟨by omega, by omega, by omega⟩, by omega, by omega, fun _ => by omega, h⟩
  · have h2 : okAdd l x = false := by simp [okAdd, stateIs, h0]
    simp [Try.f32, h0, h2, mAddClaim_no h2]
    omega
theorem c32_ok : c32.ok Try.prog := mkCon_ok fun ⟨l, x⟩ hpre => c32_pc l x hpre
def lastLp (n : Int) (l : List TClaim) : Nat → Nat
  | 0 => 0
  | p + 1 => if (l[p]?.getD default).Id < n then p + 1 else lastLp n l p
theorem lastLp_le (n : Int) (l : List TClaim) : ∀ p, lastLp n l p ≤ p
  | 0 => Nat.le_refl _
  | p + 1 => by simp only [lastLp]; split; omega; have := lastLp_le n l p; omega
theorem lastLp_at {n : Int} {l : List TClaim} {j : Nat} (h1 : ∀ y ∈ l.take j, y.Id < n) (h2 : ∀ y ∈ l.drop j, n < y.Id) : ∀ p, j ≤ p → p ≤ l.length → lastLp n l p = j
  | 0, hj, _ => by simp only [lastLp]; omega
  | p + 1, hj, hp => by
    simp only [lastLp]
    have hm : l[p]?.getD default = l[p] := by simp [show p < l.length by omega]
    rw [hm]
    by_cases e : p + 1 = j
    · have : l[p] ∈ l.take j := by rw [List.mem_take_iff_getElem]; exact ⟨p, by omega, rfl⟩
      rw [if_pos (h1 _ this), e]
    · have : l[p] ∈ l.drop j := by
        rw [List.mem_drop_iff_getElem]
        exact ⟨p - j, by omega, by congr 1; omega⟩
      have := h2 _ this
      rw [if_neg (by omega)]
      exact lastLp_at h1 h2 p (by omega) (by omega)
theorem putAtC_at {n : Int} {l : List TClaim} {j : Nat} (h1 : ∀ y ∈ l.take j, y.Id < n) (h2 : ∀ y ∈ l.drop j, n < y.Id) (hj : j ≤ l.length) : putAt nClaim n l = j := by
  have h3 : ∀ (k : Nat), k ≤ j → indexBy (geN nClaim n) 0 l = indexBy (geN nClaim n) k (l.drop k) := by
    intro k
    induction k with
    | zero => intro _; rfl
    | succ k ih =>
      intro hk
      rw [ih (by omega), indexBy_at (d := default) (by omega)]
      have : l[k] ∈ l.take j := by rw [List.mem_take_iff_getElem]; exact ⟨k, by omega, rfl⟩
      have h4 := h1 _ this
      have hm : l[k]?.getD default = l[k] := by simp [show k < l.length by omega]
      have hg : geN nClaim n l[k] = false := decide_eq_false (show ¬ n ≤ l[k].Id by omega)
      rw [hm, hg, if_neg (by simp)]
  unfold putAt
  rw [h3 j (Nat.le_refl _)]
  by_cases hlt : j < l.length
  · rw [indexBy_at (d := default) hlt]
    have hm : l[j]?.getD default = l[j] := by simp [hlt]
    have : l[j] ∈ l.drop j := by
      rw [List.mem_drop_iff_getElem]; exact ⟨0, by omega, rfl⟩
    have h4 := h2 _ this
    have hg : geN nClaim n l[j] = true := decide_eq_true (show n ≤ l[j].Id by omega)
    rw [hm, hg, if_pos rfl]
    simp; intro h; omega
  · rw [indexBy_end (by omega)]; simp; omega
def insK2 (l : List TClaim) (x : TClaim) : List TClaim := l.take (lastLp x.Id l l.length) ++ x :: l.drop (lastLp x.Id l l.length)
theorem ins_same {l : List TClaim} {x : TClaim} (h : mAreClaims (insK2 l x) = true ∨ mAreClaims (insC l x) = true) : insK2 l x = insC l x := by
  have hl := lastLp_le x.Id l l.length
  have hp := putAt_le nClaim x.Id l
  rcases h with h | h
  · simp only [mAreClaims, insK2, Bool.and_eq_true] at h
    have hm := asc_midG h.1.2
    simp only [insK2, insC]
    rw [putAtC_at (n := x.Id) (fun y hy => hm.1 y hy) (fun y hy => hm.2 y hy) hl]
  · simp only [mAreClaims, insC, Bool.and_eq_true] at h
    have hm := asc_midG h.1.2
    simp only [insK2, insC]
    rw [lastLp_at (n := x.Id) (fun y hy => hm.1 y hy) (fun y hy => hm.2 y hy) l.length hp (Nat.le_refl _)]
theorem ins_are (l : List TClaim) (x : TClaim) : mAreClaims (insK2 l x) = mAreClaims (insC l x) := by
  cases h : mAreClaims (insK2 l x) with
  | true => rw [← ins_same (.inl h), h]
  | false =>
    cases h2 : mAreClaims (insC l x) with
    | false => rfl
    | true => rw [ins_same (.inr h2), h2] at h; cases h
theorem insK2_len (l : List TClaim) (x : TClaim) : (insK2 l x).length = l.length + 1 := by
  have := lastLp_le x.Id l l.length
  simp [insK2]; omega
theorem pairIs_eq (y : TClaim) (k w : Int) : ((y.Who == w) && (y.Thing == k)) = pairIs k w y := by rw [Bool.eq_iff_iff]; simp [pairIs, and_comm]
/-- loop.example/g03007/spec.AddClaim -/
noncomputable def c200 : Con := mkCon 200 false (α := (List TClaim) × TClaim) (fun x => (fun (l : List TClaim) (x : TClaim) => [encLTClaim l, encTClaim x]) x.1 x.2) (fun _ => []) (fun x => (fun (l : List TClaim) (x : TClaim) => l.length ≤ 1073741000) x.1 x.2) (fun x => (fun (l : List TClaim) (x : TClaim) => (.tup [.own (0, 1) 5 0 (mAddClaim l x).length, dB (okAdd l x)] : D)) x.1 x.2) (fun x => (fun (l : List TClaim) (x : TClaim) => [((0, 1), .arr false 5 yTClaim (ML encTClaim (mAddClaim l x)))]) x.1 x.2)
@[simp] theorem c200_f : c200.f = 200 := rfl
@[simp] theorem c200_own : c200.own = false := rfl
theorem c200_inj : ∀ u_ v_ : (List TClaim) × TClaim, ((fun x => (fun (l : List TClaim) (x : TClaim) => [encLTClaim l, encTClaim x]) x.1 x.2) u_).map nz = ((fun x => (fun (l : List TClaim) (x : TClaim) => [encLTClaim l, encTClaim x]) x.1 x.2) v_).map nz → u_ = v_ := by
  intro u_ v_ h
  obtain ⟨l, ⟨x_Id, x_Who, x_Thing, x_At, x_State⟩⟩ := u_
  obtain ⟨l', ⟨x_Id', x_Who', x_Thing', x_At', x_State'⟩⟩ := v_
  simp [nz_lit, nz1_lit, nz_agg, nz_sl, nz1_sl, encLTClaim, encTClaim] at h
  first | (simp [h]; done) | (obtain ⟨⟩ := h; simp_all; done) | simp_all
@[simp] theorem c200_fn (l : List TClaim) (x_Id : Int) (x_Who : Int) (x_Thing : Int) (x_At : Int) (x_State : Int) : c200.fn [.sl false 5 yTClaim (ML encTClaim l), .agg [.lit (.int .i64 x_Id), .lit (.int .i64 x_Who), .lit (.int .i64 x_Thing), .lit (.int .i64 x_At), .lit (.int .i64 x_State)]] [] = some ((fun (l : List TClaim) (x : TClaim) => l.length ≤ 1073741000) l ⟨x_Id, x_Who, x_Thing, x_At, x_State⟩, (fun (l : List TClaim) (x : TClaim) => (.tup [.own (0, 1) 5 0 (mAddClaim l x).length, dB (okAdd l x)] : D)) l ⟨x_Id, x_Who, x_Thing, x_At, x_State⟩, (fun (l : List TClaim) (x : TClaim) => [((0, 1), .arr false 5 yTClaim (ML encTClaim (mAddClaim l x)))]) l ⟨x_Id, x_Who, x_Thing, x_At, x_State⟩) :=
  mkCon_fn (fun x y h _ => c200_inj x y h) ((l, ⟨x_Id, x_Who, x_Thing, x_At, x_State⟩) : (List TClaim) × TClaim) (by simp [nz, nz1, ML_nil, encLTClaim, encTClaim]) rfl
@[simp] theorem c200_fn1 (s_l : Nat) (z_l : D) (x_Id : Int) (x_Who : Int) (x_Thing : Int) (x_At : Int) (x_State : Int) : c200.fn [.sl false s_l z_l [], .agg [.lit (.int .i64 x_Id), .lit (.int .i64 x_Who), .lit (.int .i64 x_Thing), .lit (.int .i64 x_At), .lit (.int .i64 x_State)]] [] = some ((fun (l : List TClaim) (x : TClaim) => l.length ≤ 1073741000) [] ⟨x_Id, x_Who, x_Thing, x_At, x_State⟩, (fun (l : List TClaim) (x : TClaim) => (.tup [.own (0, 1) 5 0 (mAddClaim l x).length, dB (okAdd l x)] : D)) [] ⟨x_Id, x_Who, x_Thing, x_At, x_State⟩, (fun (l : List TClaim) (x : TClaim) => [((0, 1), .arr false 5 yTClaim (ML encTClaim (mAddClaim l x)))]) [] ⟨x_Id, x_Who, x_Thing, x_At, x_State⟩) :=
  mkCon_fn (fun x y h _ => c200_inj x y h) (([], ⟨x_Id, x_Who, x_Thing, x_At, x_State⟩) : (List TClaim) × TClaim) (by simp [nz, nz1, ML_nil, encLTClaim, encTClaim]) rfl
theorem c200_pc (l : List TClaim) (x : TClaim) (hpre : l.length ≤ 1073741000) : PCo Try.prog 200 [encLTClaim l, encTClaim x] (Tab.of []) (.tup [.own (0, 1) 5 0 (mAddClaim l x).length, dB (okAdd l x)]) (Tab.of [((0, 1), .arr false 5 yTClaim (ML encTClaim (mAddClaim l x)))]) := by
  refine pco_of_run [1009] (E := ⟨[c40], [], []⟩) (m := false) (base := 0) (Env.ok_cons c40_ok Env.ok_nil) G_ok mix 300 6 Try.func200 (by kernel_rfl) rfl (by kernel_rfl) (by kernel_rfl) rfl ?_
  simp [Try.f200]
  refine loop_inv (fun p : Nat => p ≤ l.length) (fun p => [(0, encLTClaim l), (3, .ptr (0, 1) 0), (6, dI (lastLp x.Id l p)), (7, dB (!stateIs 0 x || (l.take p).any (pairIs x.Thing x.Who))), (8, dI p)]) (fun _ => [((0, 1), .box (encTClaim x))]) 2 (fun p => l.length - p) 0 400 (by simp) (by simp) (by simp [lastLp, stateIs]; first | done | rfl | (rw [Bool.eq_iff_iff]; simp)) ?_
  intro p hp
  simp
  have hl := lastLp_le x.Id l p
  refine ⟨fun hlt => ?_, fun hge => ?_⟩
  · have hs : (l.take (p + 1)).any (pairIs x.Thing x.Who) = ((l.take p).any (pairIs x.Thing x.Who) || pairIs x.Thing x.Who (l[p]?.getD default)) := by rw [take_at (d := default) hlt]; simp
    repeat' (first | omega | refine And.intro ?_ ?_ | intro _)
    · rename_i hw
      refine Again.mk (p + 1) (by omega) ?_ (by first | omega | (simp; omega))
      simp [lastLp, hw, hs, -List.any_eq_true, pairIs_eq, Bool.or_assoc]
    · rename_i hw
      have hw2 : ¬ (l[p]?.getD default).Id < x.Id := by omega
      refine Again.mk (p + 1) (by omega) ?_ (by first | omega | (simp; omega))
      simp [lastLp, hw2, hs, -List.any_eq_true, pairIs_eq, Bool.or_assoc]
  · have : p = l.length := by omega
    subst this
    have e1 : min (lastLp x.Id l l.length) l.length = lastLp x.Id l l.length := by omega
    have e2 : lastLp x.Id l l.length + 1 + (l.length - lastLp x.Id l l.length) = lastLp x.Id l l.length + (l.length - lastLp x.Id l l.length + 1) := by omega
    have e3 : lastLp x.Id l l.length + (l.length - lastLp x.Id l l.length + 1) = (insK2 l x).length := by rw [insK2_len]; omega
    have hins : List.take (lastLp x.Id l l.length) l ++ x :: List.drop (lastLp x.Id l l.length) l = insK2 l x := rfl
    simp only [e1, e2, if_true, hins, List.take_length, e3]
    have hlen := insK2_len l x
    have hare := ins_are l x
    refine ⟨⟨by omega, by omega, by omega, by omega, by omega⟩, fun _ _ => ⟨by omega, by omega⟩, fun h => ?_, fun h1 h2 h3 => ?_⟩
    · have h2 : okAdd l x = false := by
        rw [okAdd, ← hare]
        rcases h with (h | ⟨y, h1, h2⟩) | h
        · simp [h]
        · have : l.any (pairIs x.Thing x.Who) = true := List.any_eq_true.2 ⟨y, h1, h2⟩
          simp [this]
        · simp [h]
      rw [mAddClaim_no h2]
      exact ⟨by omega, ⟨rfl, h2⟩, rfl⟩
    · have h4 : l.any (pairIs x.Thing x.Who) = false := List.any_eq_false.2 fun y hy => by simp [h2 y hy]
      have h5 : okAdd l x = true := by rw [okAdd, ← hare, h1, h4, h3]; rfl
      rw [mAddClaim_yes h5, ins_same (.inl h3)]
      exact ⟨⟨rfl, h5⟩, rfl⟩
theorem c200_ok : c200.ok Try.prog := mkCon_ok fun ⟨l, x⟩ hpre => c200_pc l x hpre
end Go.Proofs.Ytpnfkjbnhholfaa
