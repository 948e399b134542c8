/- Contracts of the functions that the laws run. -/
import Derived.Test.Ytadipfpojlceeaach06
import Derived.Test.YtadipfpojlceeaaEngB
namespace Go.Proofs.Ytadipfpojlceeaa
open Go Go.Eng
set_option linter.unusedSimpArgs false
set_option linter.unusedVariables false
set_option maxRecDepth 10000
set_option maxHeartbeats 1000000
def kindIs (k : Int) (f : TFind) : Bool := decide (f.Thing.Kind = k)
def placeIs (k : Int) (f : TFind) : Bool := decide (f.Place = k)
/-- loop.example/g03007/impl.CountKind$1 -/
noncomputable def c166 : Con := mkCon 166 false (α := TFind × Int) (fun x => (fun (f : TFind) (k : Int) => ([encTFind f, .el (dI k)] : List D)) x.1 x.2) (fun x => (fun (f : TFind) (k : Int) => ([] : List (Nm × OO))) x.1 x.2) (fun x => (fun (f : TFind) (k : Int) => True) x.1 x.2) (fun x => (fun (f : TFind) (k : Int) => (dB (kindIs k f) : D)) x.1 x.2) (fun x => (fun (f : TFind) (k : Int) => ([] : List (Nm × OO))) x.1 x.2)
@[simp] theorem c166_f : c166.f = 166 := rfl
@[simp] theorem c166_own : c166.own = false := rfl
theorem c166_inj : ∀ u_ v_ : TFind × Int, ((fun x => (fun (f : TFind) (k : Int) => ([encTFind f, .el (dI k)] : List D)) x.1 x.2) u_).map nz = ((fun x => (fun (f : TFind) (k : Int) => ([encTFind f, .el (dI k)] : List D)) x.1 x.2) v_).map nz → (fun x => (fun (f : TFind) (k : Int) => ([] : List (Nm × OO))) x.1 x.2) u_ = (fun x => (fun (f : TFind) (k : Int) => ([] : List (Nm × OO))) x.1 x.2) v_ → u_ = v_ := by
  intro u_ v_ h h2_
  obtain ⟨⟨⟨f_Thing_Id, f_Thing_Kind, f_Thing_Colour, f_Thing_Size, f_Thing_Worth⟩, f_Place, f_At, f_Finder⟩, k⟩ := u_
  obtain ⟨⟨⟨f_Thing_Id', f_Thing_Kind', f_Thing_Colour', f_Thing_Size', f_Thing_Worth'⟩, f_Place', f_At', f_Finder'⟩, k'⟩ := v_
  simp [nz_lit, nz1_lit, nz_agg, nz_sl, nz1_sl, nz_sx, nz_el, nz1_el, nz_own, nz1_own, nz_ptr, nz_fn, nz_iface] at h h2_
  first | (simp [h, h2_]; done) | simp_all | grind
@[simp] theorem c166_fn (f_Thing_Id : Int) (f_Thing_Kind : Int) (f_Thing_Colour : Int) (f_Thing_Size : Int) (f_Thing_Worth : Int) (f_Place : Int) (f_At : Int) (f_Finder : Int) (k : Int) : c166.fn ([.agg [.lit (.int .i64 f_Thing_Id), .lit (.int .i64 f_Thing_Kind), .lit (.int .i64 f_Thing_Colour), .lit (.int .i64 f_Thing_Size), .lit (.int .i64 f_Thing_Worth), .lit (.int .i64 f_Place), .lit (.int .i64 f_At), .lit (.int .i64 f_Finder)], .el (dI k)]) ([]) = some (True, dB (kindIs k (⟨⟨f_Thing_Id, f_Thing_Kind, f_Thing_Colour, f_Thing_Size, f_Thing_Worth⟩, f_Place, f_At, f_Finder⟩ : TFind)), []) :=
  mkCon_fn c166_inj ((⟨⟨f_Thing_Id, f_Thing_Kind, f_Thing_Colour, f_Thing_Size, f_Thing_Worth⟩, f_Place, f_At, f_Finder⟩, k) : TFind × Int) rfl rfl
theorem c166_pc (f : TFind) (k : Int) : PCo Try.prog 166 ([encTFind f, .el (dI k)]) (Tab.of ([])) (dB (kindIs k f)) (Tab.of ([])) := by
  refine pco_of_run [] (E := ⟨[], []⟩) (m := false) (base := 0) Env.ok_nil G_ok mix 300 6 Try.func166 (by kernel_rfl) rfl (by kernel_rfl) (by kernel_rfl) rfl ?_
  simp [Try.f166]
  first | done | rfl
theorem c166_ok : c166.ok Try.prog := mkCon_ok fun ⟨f, k⟩ hpre => c166_pc f k
/-- loop.example/g03007/impl.BusiestPlace$1 -/
noncomputable def c172 : Con := mkCon 172 false (α := TFind × Int) (fun x => (fun (f : TFind) (k : Int) => ([encTFind f, .el (dI k)] : List D)) x.1 x.2) (fun x => (fun (f : TFind) (k : Int) => ([] : List (Nm × OO))) x.1 x.2) (fun x => (fun (f : TFind) (k : Int) => True) x.1 x.2) (fun x => (fun (f : TFind) (k : Int) => (dB (placeIs k f) : D)) x.1 x.2) (fun x => (fun (f : TFind) (k : Int) => ([] : List (Nm × OO))) x.1 x.2)
@[simp] theorem c172_f : c172.f = 172 := rfl
@[simp] theorem c172_own : c172.own = false := rfl
theorem c172_inj : ∀ u_ v_ : TFind × Int, ((fun x => (fun (f : TFind) (k : Int) => ([encTFind f, .el (dI k)] : List D)) x.1 x.2) u_).map nz = ((fun x => (fun (f : TFind) (k : Int) => ([encTFind f, .el (dI k)] : List D)) x.1 x.2) v_).map nz → (fun x => (fun (f : TFind) (k : Int) => ([] : List (Nm × OO))) x.1 x.2) u_ = (fun x => (fun (f : TFind) (k : Int) => ([] : List (Nm × OO))) x.1 x.2) v_ → u_ = v_ := by
  intro u_ v_ h h2_
  obtain ⟨⟨⟨f_Thing_Id, f_Thing_Kind, f_Thing_Colour, f_Thing_Size, f_Thing_Worth⟩, f_Place, f_At, f_Finder⟩, k⟩ := u_
  obtain ⟨⟨⟨f_Thing_Id', f_Thing_Kind', f_Thing_Colour', f_Thing_Size', f_Thing_Worth'⟩, f_Place', f_At', f_Finder'⟩, k'⟩ := v_
  simp [nz_lit, nz1_lit, nz_agg, nz_sl, nz1_sl, nz_sx, nz_el, nz1_el, nz_own, nz1_own, nz_ptr, nz_fn, nz_iface] at h h2_
  first | (simp [h, h2_]; done) | simp_all | grind
@[simp] theorem c172_fn (f_Thing_Id : Int) (f_Thing_Kind : Int) (f_Thing_Colour : Int) (f_Thing_Size : Int) (f_Thing_Worth : Int) (f_Place : Int) (f_At : Int) (f_Finder : Int) (k : Int) : c172.fn ([.agg [.lit (.int .i64 f_Thing_Id), .lit (.int .i64 f_Thing_Kind), .lit (.int .i64 f_Thing_Colour), .lit (.int .i64 f_Thing_Size), .lit (.int .i64 f_Thing_Worth), .lit (.int .i64 f_Place), .lit (.int .i64 f_At), .lit (.int .i64 f_Finder)], .el (dI k)]) ([]) = some (True, dB (placeIs k (⟨⟨f_Thing_Id, f_Thing_Kind, f_Thing_Colour, f_Thing_Size, f_Thing_Worth⟩, f_Place, f_At, f_Finder⟩ : TFind)), []) :=
  mkCon_fn c172_inj ((⟨⟨f_Thing_Id, f_Thing_Kind, f_Thing_Colour, f_Thing_Size, f_Thing_Worth⟩, f_Place, f_At, f_Finder⟩, k) : TFind × Int) rfl rfl
theorem c172_pc (f : TFind) (k : Int) : PCo Try.prog 172 ([encTFind f, .el (dI k)]) (Tab.of ([])) (dB (placeIs k f)) (Tab.of ([])) := by
  refine pco_of_run [] (E := ⟨[], []⟩) (m := false) (base := 0) Env.ok_nil G_ok mix 300 6 Try.func172 (by kernel_rfl) rfl (by kernel_rfl) (by kernel_rfl) rfl ?_
  simp [Try.f172]
  first | done | rfl
theorem c172_ok : c172.ok Try.prog := mkCon_ok fun ⟨f, k⟩ hpre => c172_pc f k
/-- loop.example/g03007/impl.countWhere[loop.example/g03007/impl.Find] -/
noncomputable def c165_k : Con := mkCon 165 false (α := (List TFind) × Int) (fun x => (fun (l : List TFind) (k : Int) => ([encLTFind l, .fn (.func 166) [] [.el (dI k)]] : List D)) x.1 x.2) (fun x => (fun (l : List TFind) (k : Int) => ([] : List (Nm × OO))) x.1 x.2) (fun x => (fun (l : List TFind) (k : Int) => l.length ≤ 1099511627776) x.1 x.2) (fun x => (fun (l : List TFind) (k : Int) => (dI (l.countP (kindIs k)) : D)) x.1 x.2) (fun x => (fun (l : List TFind) (k : Int) => ([] : List (Nm × OO))) x.1 x.2)
@[simp] theorem c165_k_f : c165_k.f = 165 := rfl
@[simp] theorem c165_k_own : c165_k.own = false := rfl
theorem c165_k_inj : ∀ u_ v_ : (List TFind) × Int, ((fun x => (fun (l : List TFind) (k : Int) => ([encLTFind l, .fn (.func 166) [] [.el (dI k)]] : List D)) x.1 x.2) u_).map nz = ((fun x => (fun (l : List TFind) (k : Int) => ([encLTFind l, .fn (.func 166) [] [.el (dI k)]] : List D)) x.1 x.2) v_).map nz → (fun x => (fun (l : List TFind) (k : Int) => ([] : List (Nm × OO))) x.1 x.2) u_ = (fun x => (fun (l : List TFind) (k : Int) => ([] : List (Nm × OO))) x.1 x.2) v_ → u_ = v_ := by
  intro u_ v_ h h2_
  obtain ⟨l, k⟩ := u_
  obtain ⟨l', k'⟩ := v_
  simp [nz_lit, nz1_lit, nz_agg, nz_sl, nz1_sl, nz_sx, nz_el, nz1_el, nz_own, nz1_own, nz_ptr, nz_fn, nz_iface] at h h2_
  first | (simp [h, h2_]; done) | simp_all | grind
@[simp] theorem c165_k_fn (l : List TFind) (k : Int) : c165_k.fn ([(.sl false 8 yTFind (ML encTFind l)), .fn (.func 166) [] [.el (dI k)]]) ([]) = some (l.length ≤ 1099511627776, dI (l.countP (kindIs k)), []) :=
  mkCon_fn c165_k_inj ((l, k) : (List TFind) × Int) rfl rfl
theorem c165_k_pc (l : List TFind) (k : Int) (hpre : l.length ≤ 1099511627776) : PCo Try.prog 165 ([encLTFind l, .fn (.func 166) [] [.el (dI k)]]) (Tab.of ([])) (dI (l.countP (kindIs k))) (Tab.of ([])) := by
  refine pco_of_run [] (E := ⟨[c166], []⟩) (m := false) (base := 0) (Env.ok_cons c166_ok Env.ok_nil) G_ok mix 300 6 Try.func165 (by kernel_rfl) rfl (by kernel_rfl) (by kernel_rfl) rfl ?_
  simp [Try.f165]
  refine loop_inv (fun p : Nat => p ≤ l.length) (fun p => [(1, .fn (.func 166) [] [.el (dI k)]), (5, dI ((l.take p).countP (kindIs k))), (8, encLTFind l), (9, dI l.length), (10, dI p)]) (fun _ => []) 1 (fun p => l.length - p) 0 400 (by simp) (by simp) (by simp) ?_
  intro p hp
  simp
  refine ⟨fun hlt => ?_, fun hge => ?_⟩
  · have hs := countP_at (want := kindIs k) (d := default) hlt
    have hb := countP_take (want := kindIs k) (l := l) (p := p)
    repeat' (first | omega | refine And.intro ?_ ?_ | intro _)
    all_goals (rename_i hw; refine Again.mk (p + 1) (by omega) (by simp [hs, hw]) (by first | omega | (simp; omega)))
  · rw [List.take_of_length_le hge]
theorem c165_k_ok : c165_k.ok Try.prog := mkCon_ok fun ⟨l, k⟩ hpre => c165_k_pc l k hpre
/-- loop.example/g03007/impl.countWhere[loop.example/g03007/impl.Find] -/
noncomputable def c165_p : Con := mkCon 165 false (α := (List TFind) × Int) (fun x => (fun (l : List TFind) (k : Int) => ([encLTFind l, .fn (.func 172) [] [.el (dI k)]] : List D)) x.1 x.2) (fun x => (fun (l : List TFind) (k : Int) => ([] : List (Nm × OO))) x.1 x.2) (fun x => (fun (l : List TFind) (k : Int) => l.length ≤ 1099511627776) x.1 x.2) (fun x => (fun (l : List TFind) (k : Int) => (dI (l.countP (placeIs k)) : D)) x.1 x.2) (fun x => (fun (l : List TFind) (k : Int) => ([] : List (Nm × OO))) x.1 x.2)
@[simp] theorem c165_p_f : c165_p.f = 165 := rfl
@[simp] theorem c165_p_own : c165_p.own = false := rfl
theorem c165_p_inj : ∀ u_ v_ : (List TFind) × Int, ((fun x => (fun (l : List TFind) (k : Int) => ([encLTFind l, .fn (.func 172) [] [.el (dI k)]] : List D)) x.1 x.2) u_).map nz = ((fun x => (fun (l : List TFind) (k : Int) => ([encLTFind l, .fn (.func 172) [] [.el (dI k)]] : List D)) x.1 x.2) v_).map nz → (fun x => (fun (l : List TFind) (k : Int) => ([] : List (Nm × OO))) x.1 x.2) u_ = (fun x => (fun (l : List TFind) (k : Int) => ([] : List (Nm × OO))) x.1 x.2) v_ → u_ = v_ := by
  intro u_ v_ h h2_
  obtain ⟨l, k⟩ := u_
  obtain ⟨l', k'⟩ := v_
  simp [nz_lit, nz1_lit, nz_agg, nz_sl, nz1_sl, nz_sx, nz_el, nz1_el, nz_own, nz1_own, nz_ptr, nz_fn, nz_iface] at h h2_
  first | (simp [h, h2_]; done) | simp_all | grind
@[simp] theorem c165_p_fn (l : List TFind) (k : Int) : c165_p.fn ([(.sl false 8 yTFind (ML encTFind l)), .fn (.func 172) [] [.el (dI k)]]) ([]) = some (l.length ≤ 1099511627776, dI (l.countP (placeIs k)), []) :=
  mkCon_fn c165_p_inj ((l, k) : (List TFind) × Int) rfl rfl
theorem c165_p_pc (l : List TFind) (k : Int) (hpre : l.length ≤ 1099511627776) : PCo Try.prog 165 ([encLTFind l, .fn (.func 172) [] [.el (dI k)]]) (Tab.of ([])) (dI (l.countP (placeIs k))) (Tab.of ([])) := by
  refine pco_of_run [] (E := ⟨[c172], []⟩) (m := false) (base := 0) (Env.ok_cons c172_ok Env.ok_nil) G_ok mix 300 6 Try.func165 (by kernel_rfl) rfl (by kernel_rfl) (by kernel_rfl) rfl ?_
  simp [Try.f165]
  refine loop_inv (fun p : Nat => p ≤ l.length) (fun p => [(1, .fn (.func 172) [] [.el (dI k)]), (5, dI ((l.take p).countP (placeIs k))), (8, encLTFind l), (9, dI l.length), (10, dI p)]) (fun _ => []) 1 (fun p => l.length - p) 0 400 (by simp) (by simp) (by simp) ?_
  intro p hp
  simp
  refine ⟨fun hlt => ?_, fun hge => ?_⟩
  · have hs := countP_at (want := placeIs k) (d := default) hlt
    have hb := countP_take (want := placeIs k) (l := l) (p := p)
    repeat' (first | omega | refine And.intro ?_ ?_ | intro _)
    all_goals (rename_i hw; refine Again.mk (p + 1) (by omega) (by simp [hs, hw]) (by first | omega | (simp; omega)))
  · rw [List.take_of_length_le hge]
theorem c165_p_ok : c165_p.ok Try.prog := mkCon_ok fun ⟨l, k⟩ hpre => c165_p_pc l k hpre
noncomputable def c165 : Con := selCon 165 false [([166], c165_k), ([172], c165_p)]
@[simp] theorem c165_f : c165.f = 165 := rfl
@[simp] theorem c165_own : c165.own = false := rfl
@[simp] theorem c165_fn0 (l : List TFind) (k : Int) : c165.fn ([(.sl false 8 yTFind (ML encTFind l)), .fn (.func 166) [] [.el (dI k)]]) ([]) = some (l.length ≤ 1099511627776, dI (l.countP (kindIs k)), []) := by
  rw [c165, selCon_fn]
  have h : selK [([166], c165_k), ([172], c165_p)] (keyDs ([(.sl false 8 yTFind (ML encTFind l)), .fn (.func 166) [] [.el (dI k)]])) = some c165_k := by simp
  rw [h]
  exact c165_k_fn l k
@[simp] theorem c165_fn1 (l : List TFind) (k : Int) : c165.fn ([(.sl false 8 yTFind (ML encTFind l)), .fn (.func 172) [] [.el (dI k)]]) ([]) = some (l.length ≤ 1099511627776, dI (l.countP (placeIs k)), []) := by
  rw [c165, selCon_fn]
  have h : selK [([166], c165_k), ([172], c165_p)] (keyDs ([(.sl false 8 yTFind (ML encTFind l)), .fn (.func 172) [] [.el (dI k)]])) = some c165_p := by simp
  rw [h]
  exact c165_p_fn l k
theorem c165_ok : c165.ok Try.prog := selCon_ok fun p hp => by
  simp only [List.mem_cons, List.not_mem_nil, or_false] at hp
  rcases hp with rfl | rfl
  · exact ⟨rfl, c165_k_ok⟩
  · exact ⟨rfl, c165_p_ok⟩
/-- loop.example/g03007/impl.CountKind -/
noncomputable def c96 : Con := mkCon 96 false (α := (List TFind) × Int) (fun x => (fun (l : List TFind) (k : Int) => [encLTFind l, dI k]) x.1 x.2) (fun _ => []) (fun x => (fun (l : List TFind) (k : Int) => l.length ≤ 1099511627776) x.1 x.2) (fun x => (fun (l : List TFind) (k : Int) => (dI (l.countP (kindIs k)) : D)) x.1 x.2) (fun x => (fun (l : List TFind) (k : Int) => []) x.1 x.2)
@[simp] theorem c96_f : c96.f = 96 := rfl
@[simp] theorem c96_own : c96.own = false := rfl
theorem c96_inj : ∀ u_ v_ : (List TFind) × Int, ((fun x => (fun (l : List TFind) (k : Int) => [encLTFind l, dI k]) x.1 x.2) u_).map nz = ((fun x => (fun (l : List TFind) (k : Int) => [encLTFind l, dI k]) x.1 x.2) v_).map nz → u_ = v_ := by
  intro u_ v_ h
  obtain ⟨l, k⟩ := u_
  obtain ⟨l', k'⟩ := v_
  simp [nz_lit, nz1_lit, nz_agg, nz_sl, nz1_sl, encLTFind] at h
  first | (simp [h]; done) | (obtain ⟨⟩ := h; simp_all; done) | simp_all
@[simp] theorem c96_fn (l : List TFind) (k : Int) : c96.fn [.sl false 8 yTFind (ML encTFind l), .lit (.int .i64 k)] [] = some ((fun (l : List TFind) (k : Int) => l.length ≤ 1099511627776) l k, (fun (l : List TFind) (k : Int) => (dI (l.countP (kindIs k)) : D)) l k, (fun (l : List TFind) (k : Int) => []) l k) :=
  mkCon_fn (fun x y h _ => c96_inj x y h) ((l, k) : (List TFind) × Int) (by simp [nz, nz1, ML_nil, encLTFind]) rfl
@[simp] theorem c96_fn1 (s_l : Nat) (z_l : D) (k : Int) : c96.fn [.sl false s_l z_l [], .lit (.int .i64 k)] [] = some ((fun (l : List TFind) (k : Int) => l.length ≤ 1099511627776) [] k, (fun (l : List TFind) (k : Int) => (dI (l.countP (kindIs k)) : D)) [] k, (fun (l : List TFind) (k : Int) => []) [] k) :=
  mkCon_fn (fun x y h _ => c96_inj x y h) (([], k) : (List TFind) × Int) (by simp [nz, nz1, ML_nil, encLTFind]) rfl
theorem c96_pc (l : List TFind) (k : Int) (hpre : l.length ≤ 1099511627776) : PCo Try.prog 96 [encLTFind l, dI k] (Tab.of []) (dI (l.countP (kindIs k))) (Tab.of []) := by
  refine pco_of_run [] (E := ⟨[c165, c166], []⟩) (m := false) (base := 0) (Env.ok_cons c165_ok (Env.ok_cons c166_ok Env.ok_nil)) G_ok mix 300 6 Try.func96 (by kernel_rfl) rfl (by kernel_rfl) (by kernel_rfl) rfl ?_
  simp [Try.f96]
  exact hpre
theorem c96_ok : c96.ok Try.prog := mkCon_ok fun ⟨l, k⟩ hpre => c96_pc l k hpre
/-- loop.example/g03007/spec.CountKind -/
noncomputable def c94 : Con := mkCon 94 false (α := (List TFind) × Int) (fun x => (fun (l : List TFind) (k : Int) => [encLTFind l, dI k]) x.1 x.2) (fun _ => []) (fun x => (fun (l : List TFind) (k : Int) => l.length ≤ 1099511627776) x.1 x.2) (fun x => (fun (l : List TFind) (k : Int) => (dI (l.countP (kindIs k)) : D)) x.1 x.2) (fun x => (fun (l : List TFind) (k : Int) => []) x.1 x.2)
@[simp] theorem c94_f : c94.f = 94 := rfl
@[simp] theorem c94_own : c94.own = false := rfl
theorem c94_inj : ∀ u_ v_ : (List TFind) × Int, ((fun x => (fun (l : List TFind) (k : Int) => [encLTFind l, dI k]) x.1 x.2) u_).map nz = ((fun x => (fun (l : List TFind) (k : Int) => [encLTFind l, dI k]) x.1 x.2) v_).map nz → u_ = v_ := by
  intro u_ v_ h
  obtain ⟨l, k⟩ := u_
  obtain ⟨l', k'⟩ := v_
  simp [nz_lit, nz1_lit, nz_agg, nz_sl, nz1_sl, encLTFind] at h
  first | (simp [h]; done) | (obtain ⟨⟩ := h; simp_all; done) | simp_all
@[simp] theorem c94_fn (l : List TFind) (k : Int) : c94.fn [.sl false 8 yTFind (ML encTFind l), .lit (.int .i64 k)] [] = some ((fun (l : List TFind) (k : Int) => l.length ≤ 1099511627776) l k, (fun (l : List TFind) (k : Int) => (dI (l.countP (kindIs k)) : D)) l k, (fun (l : List TFind) (k : Int) => []) l k) :=
  mkCon_fn (fun x y h _ => c94_inj x y h) ((l, k) : (List TFind) × Int) (by simp [nz, nz1, ML_nil, encLTFind]) rfl
@[simp] theorem c94_fn1 (s_l : Nat) (z_l : D) (k : Int) : c94.fn [.sl false s_l z_l [], .lit (.int .i64 k)] [] = some ((fun (l : List TFind) (k : Int) => l.length ≤ 1099511627776) [] k, (fun (l : List TFind) (k : Int) => (dI (l.countP (kindIs k)) : D)) [] k, (fun (l : List TFind) (k : Int) => []) [] k) :=
  mkCon_fn (fun x y h _ => c94_inj x y h) (([], k) : (List TFind) × Int) (by simp [nz, nz1, ML_nil, encLTFind]) rfl
theorem c94_pc (l : List TFind) (k : Int) (hpre : l.length ≤ 1099511627776) : PCo Try.prog 94 [encLTFind l, dI k] (Tab.of []) (dI (l.countP (kindIs k))) (Tab.of []) := by
  refine pco_of_run [] (E := ⟨[], []⟩) (m := false) (base := 0) Env.ok_nil G_ok mix 300 6 Try.func94 (by kernel_rfl) rfl (by kernel_rfl) (by kernel_rfl) rfl ?_
  simp [Try.f94]
  refine loop_inv (fun p : Nat => p ≤ l.length) (fun p => [(0, encLTFind l), (1, dI k), (5, dI ((l.take p).countP (kindIs k))), (6, dI p)]) (fun _ => []) 1 (fun p => l.length - p) 0 400 (by simp) (by simp) (by simp) ?_
  intro p hp
  simp
  refine ⟨fun hlt => ?_, fun hge => ?_⟩
  · have hs := countP_at (want := kindIs k) (d := default) hlt
    have hb := countP_take (want := kindIs k) (l := l) (p := p)
    repeat' (first | omega | refine And.intro ?_ ?_ | intro _)
    all_goals (rename_i hw; refine Again.mk (p + 1) (by omega) (by simp [hs, kindIs, hw]) (by first | omega | (simp; omega)))
  · rw [List.take_of_length_le hge]
theorem c94_ok : c94.ok Try.prog := mkCon_ok fun ⟨l, k⟩ hpre => c94_pc l k hpre
/-- loop.example/g03007/laws.FnExactCountKind -/
theorem law23 (l : List TFind) (wl : wfLTFind l) (k : Int) (wk : inR .i64 k) : PCo Try.prog 23 [encLTFind l, dI k] (Tab.of []) (dB true) (Tab.of []) := by
  refine pco_of_run [] (E := ⟨[c93, c94, c95, c96, c97], []⟩) (m := false) (base := 0) (Env.ok_cons c93_ok (Env.ok_cons c94_ok (Env.ok_cons c95_ok (Env.ok_cons c96_ok (Env.ok_cons c97_ok Env.ok_nil))))) G_ok mix 400 6 Try.func23 (by kernel_rfl) rfl (by kernel_rfl) (by kernel_rfl) rfl ?_
  simp [Try.f23]
  have h_l : l.length ≤ maxLen := wl.1
  repeat' (first | omega | assumption | refine And.intro ?_ ?_ | intro _)
  all_goals first | omega | grind | (split at * <;> omega)
theorem law23_pc (D0 : D) (h0 : Sh G 9 102 D0) (D1 : D) (h1 : Sh G 9 3 D1) : PC Try.prog 23 [D0, D1] (dB true) [] := by
  obtain ⟨l, rfl, wl⟩ := sh102 (n := 5) h0
  obtain ⟨k, rfl, wk⟩ := sh3 (n := 8) h1
  exact law23 l wl k wk
def mWorth (l : List TFind) : Int := l.foldl (fun n f => n + min (max f.Thing.Worth 0) 10000000) 0
theorem mWorth_at {l : List TFind} {p : Nat} (h : p < l.length) : mWorth (l.take (p + 1)) = mWorth (l.take p) + min (max (l[p]?.getD default).Thing.Worth 0) 10000000 := by
  simp only [mWorth]; rw [foldl_at (d := default) h]
theorem mWorth_bd {l : List TFind} : ∀ (p : Nat), p ≤ l.length → 0 ≤ mWorth (l.take p) ∧ mWorth (l.take p) ≤ 10000000 * p
  | 0, _ => by simp [mWorth]
  | p + 1, h => by
    have h1 := mWorth_bd (l := l) p (by omega)
    rw [mWorth_at (by omega)]
    omega
/-- loop.example/g03007/spec.WorthOf -/
noncomputable def c100 : Con := mkCon 100 false (α := (List TFind)) (fun x => (fun (l : List TFind) => [encLTFind l]) x) (fun _ => []) (fun x => (fun (l : List TFind) => l.length ≤ 1073741823) x) (fun x => (fun (l : List TFind) => (dI (mWorth l) : D)) x) (fun x => (fun (l : List TFind) => []) x)
@[simp] theorem c100_f : c100.f = 100 := rfl
@[simp] theorem c100_own : c100.own = false := rfl
theorem c100_inj : ∀ u_ v_ : (List TFind), ((fun x => (fun (l : List TFind) => [encLTFind l]) x) u_).map nz = ((fun x => (fun (l : List TFind) => [encLTFind l]) x) v_).map nz → u_ = v_ := by
  intro u_ v_ h
  obtain l := u_
  obtain l' := v_
  simp [nz_lit, nz1_lit, nz_agg, nz_sl, nz1_sl, encLTFind] at h
  first | (simp [h]; done) | (obtain ⟨⟩ := h; simp_all; done) | simp_all
@[simp] theorem c100_fn (l : List TFind) : c100.fn [.sl false 8 yTFind (ML encTFind l)] [] = some ((fun (l : List TFind) => l.length ≤ 1073741823) l, (fun (l : List TFind) => (dI (mWorth l) : D)) l, (fun (l : List TFind) => []) l) :=
  mkCon_fn (fun x y h _ => c100_inj x y h) (l : (List TFind)) (by simp [nz, nz1, ML_nil, encLTFind]) rfl
@[simp] theorem c100_fn1 (s_l : Nat) (z_l : D) : c100.fn [.sl false s_l z_l []] [] = some ((fun (l : List TFind) => l.length ≤ 1073741823) [], (fun (l : List TFind) => (dI (mWorth l) : D)) [], (fun (l : List TFind) => []) []) :=
  mkCon_fn (fun x y h _ => c100_inj x y h) ([] : (List TFind)) (by simp [nz, nz1, ML_nil, encLTFind]) rfl
theorem c100_pc (l : List TFind) (hpre : l.length ≤ 1073741823) : PCo Try.prog 100 [encLTFind l] (Tab.of []) (dI (mWorth l)) (Tab.of []) := by
  refine pco_of_run [] (E := ⟨[c137, c173], []⟩) (m := false) (base := 0) (Env.ok_cons c137_ok (Env.ok_cons c173_ok Env.ok_nil)) G_ok mix 300 6 Try.func100 (by kernel_rfl) rfl (by kernel_rfl) (by kernel_rfl) rfl ?_
  simp [Try.f100]
  refine loop_inv (fun p : Nat => p ≤ l.length) (fun p => [(0, encLTFind l), (3, dI (mWorth (l.take p))), (4, dI p)]) (fun _ => []) 1 (fun p => l.length - p) 0 400 (by simp) (by simp) (by simp [mWorth]) ?_
  intro p hp
  simp
  refine ⟨fun hlt => ?_, fun hge => ?_⟩
  · have hs := mWorth_at hlt
    have hb := mWorth_bd p hp
    repeat' (first | omega | refine And.intro ?_ ?_ | intro _)
    refine Again.mk (p + 1) (by omega) (by simp [hs]; omega) (by first | omega | (simp; omega))
  · rw [List.take_of_length_le hge]
theorem c100_ok : c100.ok Try.prog := mkCon_ok fun l hpre => c100_pc l hpre
/-- loop.example/g03007/impl.WorthOf -/
noncomputable def c101 : Con := mkCon 101 false (α := (List TFind)) (fun x => (fun (l : List TFind) => [encLTFind l]) x) (fun _ => []) (fun x => (fun (l : List TFind) => l.length ≤ 1073741823) x) (fun x => (fun (l : List TFind) => (dI (mWorth l) : D)) x) (fun x => (fun (l : List TFind) => []) x)
@[simp] theorem c101_f : c101.f = 101 := rfl
@[simp] theorem c101_own : c101.own = false := rfl
theorem c101_inj : ∀ u_ v_ : (List TFind), ((fun x => (fun (l : List TFind) => [encLTFind l]) x) u_).map nz = ((fun x => (fun (l : List TFind) => [encLTFind l]) x) v_).map nz → u_ = v_ := by
  intro u_ v_ h
  obtain l := u_
  obtain l' := v_
  simp [nz_lit, nz1_lit, nz_agg, nz_sl, nz1_sl, encLTFind] at h
  first | (simp [h]; done) | (obtain ⟨⟩ := h; simp_all; done) | simp_all
@[simp] theorem c101_fn (l : List TFind) : c101.fn [.sl false 8 yTFind (ML encTFind l)] [] = some ((fun (l : List TFind) => l.length ≤ 1073741823) l, (fun (l : List TFind) => (dI (mWorth l) : D)) l, (fun (l : List TFind) => []) l) :=
  mkCon_fn (fun x y h _ => c101_inj x y h) (l : (List TFind)) (by simp [nz, nz1, ML_nil, encLTFind]) rfl
@[simp] theorem c101_fn1 (s_l : Nat) (z_l : D) : c101.fn [.sl false s_l z_l []] [] = some ((fun (l : List TFind) => l.length ≤ 1073741823) [], (fun (l : List TFind) => (dI (mWorth l) : D)) [], (fun (l : List TFind) => []) []) :=
  mkCon_fn (fun x y h _ => c101_inj x y h) ([] : (List TFind)) (by simp [nz, nz1, ML_nil, encLTFind]) rfl
theorem c101_pc (l : List TFind) (hpre : l.length ≤ 1073741823) : PCo Try.prog 101 [encLTFind l] (Tab.of []) (dI (mWorth l)) (Tab.of []) := by
  refine pco_of_run [] (E := ⟨[c174], []⟩) (m := false) (base := 0) (Env.ok_cons c174_ok Env.ok_nil) G_ok mix 300 6 Try.func101 (by kernel_rfl) rfl (by kernel_rfl) (by kernel_rfl) rfl ?_
  simp [Try.f101]
  refine loop_inv (fun p : Nat => p ≤ l.length) (fun p => [(3, dI (mWorth (l.take p))), (6, encLTFind l), (7, dI l.length), (8, dI p)]) (fun _ => []) 1 (fun p => l.length - p) 0 400 (by simp) (by simp) (by simp [mWorth]) ?_
  intro p hp
  simp
  refine ⟨fun hlt => ?_, fun hge => ?_⟩
  · have hs := mWorth_at hlt
    have hb := mWorth_bd p hp
    repeat' (first | omega | refine And.intro ?_ ?_ | intro _)
    refine Again.mk (p + 1) (by omega) (by simp [hs]) (by first | omega | (simp; omega))
  · rw [List.take_of_length_le hge]
theorem c101_ok : c101.ok Try.prog := mkCon_ok fun l hpre => c101_pc l hpre
/-- loop.example/g03007/laws.FnExactWorthOf -/
theorem law25 (l : List TFind) (wl : wfLTFind l) : PCo Try.prog 25 [encLTFind l] (Tab.of []) (dB true) (Tab.of []) := by
  refine pco_of_run [] (E := ⟨[c93, c95, c97, c100, c101], []⟩) (m := false) (base := 0) (Env.ok_cons c93_ok (Env.ok_cons c95_ok (Env.ok_cons c97_ok (Env.ok_cons c100_ok (Env.ok_cons c101_ok Env.ok_nil))))) G_ok mix 400 6 Try.func25 (by kernel_rfl) rfl (by kernel_rfl) (by kernel_rfl) rfl ?_
  simp [Try.f25]
  have h_l : l.length ≤ maxLen := wl.1
  repeat' (first | omega | assumption | refine And.intro ?_ ?_ | intro _)
  all_goals first | omega | grind | (split at * <;> omega)
theorem law25_pc (D0 : D) (h0 : Sh G 9 102 D0) : PC Try.prog 25 [D0] (dB true) [] := by
  obtain ⟨l, rfl, wl⟩ := sh102 (n := 5) h0
  exact law25 l wl

end Go.Proofs.Ytadipfpojlceeaa
