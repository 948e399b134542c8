/- Contracts of the functions that the laws run. -/
import Derived.Test.Ytadbjlnfdjbbjaagrpq
import Derived.Test.Ytadbjlnfdjbbjaagen
import Derived.Test.Ytadbjlnfdjbbjaach24t
import Derived.Test.Ytadbjlnfdjbbjaach03
import Derived.Test.YtadbjlnfdjbbjaahelpA
import Derived.Test.Ytadbjlnfdjbbjaach06hT
import Derived.Test.YtadbjlnfdjbbjaaEngB
namespace Go.Proofs.Ytadbjlnfdjbbjaa
open Go Go.Eng
set_option linter.unusedSimpArgs false
set_option linter.unusedVariables false
set_option maxRecDepth 10000
set_option maxHeartbeats 1000000
/-- loop.example/g03007/laws.szFindS -/
noncomputable def c80 : Con := mkCon 80 false (α := (List TFind) × Int) (fun x => (fun (l : List TFind) (left : Int) => [encLTFind l, dI left]) x.1 x.2) (fun _ => []) (fun x => (fun (l : List TFind) (left : Int) => l.length ≤ maxLen ∧ 0 ≤ left ∧ left ≤ 1099511627776) x.1 x.2) (fun x => (fun (l : List TFind) (left : Int) => (dI (if left - l.length < 0 then -1 else left - l.length) : D)) x.1 x.2) (fun x => (fun (l : List TFind) (left : Int) => []) x.1 x.2)
@[simp] theorem c80_f : c80.f = 80 := rfl
@[simp] theorem c80_own : c80.own = false := rfl
theorem c80_inj : ∀ u_ v_ : (List TFind) × Int, ((fun x => (fun (l : List TFind) (left : Int) => [encLTFind l, dI left]) x.1 x.2) u_).map nz = ((fun x => (fun (l : List TFind) (left : Int) => [encLTFind l, dI left]) x.1 x.2) v_).map nz → u_ = v_ := by
  intro u_ v_ h
  obtain ⟨l, left⟩ := u_
  obtain ⟨l', left'⟩ := v_
  simp [nz_lit, nz1_lit, nz_agg, nz_sl, nz1_sl, encLTFind] at h
  first | (simp [h]; done) | (obtain ⟨⟩ := h; simp_all; done) | simp_all
@[simp] theorem c80_fn (l : List TFind) (left : Int) : c80.fn [.sl false 8 yTFind (ML encTFind l), .lit (.int .i64 left)] [] = some ((fun (l : List TFind) (left : Int) => l.length ≤ maxLen ∧ 0 ≤ left ∧ left ≤ 1099511627776) l left, (fun (l : List TFind) (left : Int) => (dI (if left - l.length < 0 then -1 else left - l.length) : D)) l left, (fun (l : List TFind) (left : Int) => []) l left) :=
  mkCon_fn (fun x y h _ => c80_inj x y h) ((l, left) : (List TFind) × Int) (by simp [nz, nz1, ML_nil, encLTFind]) rfl
@[simp] theorem c80_fn1 (s_l : Nat) (z_l : D) (left : Int) : c80.fn [.sl false s_l z_l [], .lit (.int .i64 left)] [] = some ((fun (l : List TFind) (left : Int) => l.length ≤ maxLen ∧ 0 ≤ left ∧ left ≤ 1099511627776) [] left, (fun (l : List TFind) (left : Int) => (dI (if left - l.length < 0 then -1 else left - l.length) : D)) [] left, (fun (l : List TFind) (left : Int) => []) [] left) :=
  mkCon_fn (fun x y h _ => c80_inj x y h) (([], left) : (List TFind) × Int) (by simp [nz, nz1, ML_nil, encLTFind]) rfl
theorem c80_pc (l : List TFind) (left : Int) (hpre : l.length ≤ maxLen ∧ 0 ≤ left ∧ left ≤ 1099511627776) : PCo Try.prog 80 [encLTFind l, dI left] (Tab.of []) (dI (if left - l.length < 0 then -1 else left - l.length)) (Tab.of []) := by
  refine pco_of_run [] (E := ⟨[], []⟩) (m := false) (base := 0) Env.ok_nil G_ok mix 300 6 Try.func80 (by kernel_rfl) rfl (by kernel_rfl) (by kernel_rfl) rfl ?_
  simp [Try.f80]
  simp [maxLen] at hpre
  all_goals omega
theorem c80_ok : c80.ok Try.prog := mkCon_ok fun ⟨l, left⟩ hpre => c80_pc l left hpre
/-- loop.example/g03007/laws.toFindS -/
noncomputable def c82 : Con := mkCon 82 false (α := (List TFind)) (fun x => (fun (l : List TFind) => [encLTFind l]) x) (fun _ => []) (fun x => (fun (l : List TFind) => l.length ≤ 1099511627776) x) (fun x => (fun (l : List TFind) => (.own (0, 1) 8 0 l.length : D)) x) (fun x => (fun (l : List TFind) => [((0, 1), .arr false 8 yTFind (ML encTFind l))]) x)
@[simp] theorem c82_f : c82.f = 82 := rfl
@[simp] theorem c82_own : c82.own = false := rfl
theorem c82_inj : ∀ u_ v_ : (List TFind), ((fun x => (fun (l : List TFind) => [encLTFind l]) x) u_).map nz = ((fun x => (fun (l : List TFind) => [encLTFind l]) x) v_).map nz → u_ = v_ := by
  intro u_ v_ h
  obtain l := u_
  obtain l' := v_
  simp [nz_lit, nz1_lit, nz_agg, nz_sl, nz1_sl, encLTFind] at h
  first | (simp [h]; done) | (obtain ⟨⟩ := h; simp_all; done) | simp_all
@[simp] theorem c82_fn (l : List TFind) : c82.fn [.sl false 8 yTFind (ML encTFind l)] [] = some ((fun (l : List TFind) => l.length ≤ 1099511627776) l, (fun (l : List TFind) => (.own (0, 1) 8 0 l.length : D)) l, (fun (l : List TFind) => [((0, 1), .arr false 8 yTFind (ML encTFind l))]) l) :=
  mkCon_fn (fun x y h _ => c82_inj x y h) (l : (List TFind)) (by simp [nz, nz1, ML_nil, encLTFind]) rfl
@[simp] theorem c82_fn1 (s_l : Nat) (z_l : D) : c82.fn [.sl false s_l z_l []] [] = some ((fun (l : List TFind) => l.length ≤ 1099511627776) [], (fun (l : List TFind) => (.own (0, 1) 8 0 l.length : D)) [], (fun (l : List TFind) => [((0, 1), .arr false 8 yTFind (ML encTFind l))]) []) :=
  mkCon_fn (fun x y h _ => c82_inj x y h) ([] : (List TFind)) (by simp [nz, nz1, ML_nil, encLTFind]) rfl
theorem c82_pc (l : List TFind) (hpre : l.length ≤ 1099511627776) : PCo Try.prog 82 [encLTFind l] (Tab.of []) (.own (0, 1) 8 0 l.length) (Tab.of [((0, 1), .arr false 8 yTFind (ML encTFind l))]) := by
  refine pco_of_run [] (E := ⟨[c132], []⟩) (m := false) (base := 0) (Env.ok_cons c132_ok Env.ok_nil) G_ok mix 300 6 Try.func82 (by kernel_rfl) rfl (by kernel_rfl) (by kernel_rfl) rfl ?_
  simp [Try.f82]
  refine ⟨by omega, ?_⟩
  refine loop_inv (fun p : Nat => p ≤ l.length) (fun p => [(0, encLTFind l), (3, .own (0, 1) 8 0 l.length), (4, dI p)]) (fun p => [((0, 1), .arr false 8 yTFind (ML encTFind (l.take p ++ List.replicate (l.length - p) ⟨⟨0, 0, 0, 0, 0⟩, 0, 0, 0⟩)))]) 2 (fun p => l.length - p) 0 100 (by simp) (by simp) (by first | (simp; done) | (simp; simp only [ML, List.map_replicate]; rfl)) ?_
  intro p hp
  simp
  refine ⟨fun hlt => ⟨by omega, by omega, Again.mk (p + 1) (by omega) (by simp [fill_step hlt]) (by first | omega | (simp; omega))⟩, fun hge => ?_⟩
  have : p = l.length := by omega
  subst this
  simp
theorem c82_ok : c82.ok Try.prog := mkCon_ok fun l hpre => c82_pc l hpre
/-- loop.example/g03007/laws.eqFindS -/
noncomputable def c84 : Con := mkCon 84 false (α := (List TFind) × (List TFind)) (fun x => (fun (a : List TFind) (b : List TFind) => [encLTFind a, encLTFind b]) x.1 x.2) (fun _ => []) (fun x => (fun (a : List TFind) (b : List TFind) => a.length ≤ 1099511627776 ∧ b.length ≤ 1099511627776) x.1 x.2) (fun x => (fun (a : List TFind) (b : List TFind) => (dB (decide (a = b)) : D)) x.1 x.2) (fun x => (fun (a : List TFind) (b : List TFind) => []) x.1 x.2)
@[simp] theorem c84_f : c84.f = 84 := rfl
@[simp] theorem c84_own : c84.own = false := rfl
theorem c84_inj : ∀ u_ v_ : (List TFind) × (List TFind), ((fun x => (fun (a : List TFind) (b : List TFind) => [encLTFind a, encLTFind b]) x.1 x.2) u_).map nz = ((fun x => (fun (a : List TFind) (b : List TFind) => [encLTFind a, encLTFind b]) x.1 x.2) v_).map nz → u_ = v_ := by
  intro u_ v_ h
  obtain ⟨a, b⟩ := u_
  obtain ⟨a', b'⟩ := v_
  simp [nz_lit, nz1_lit, nz_agg, nz_sl, nz1_sl, encLTFind] at h
  first | (simp [h]; done) | (obtain ⟨⟩ := h; simp_all; done) | simp_all
@[simp] theorem c84_fn (a : List TFind) (b : List TFind) : c84.fn [.sl false 8 yTFind (ML encTFind a), .sl false 8 yTFind (ML encTFind b)] [] = some ((fun (a : List TFind) (b : List TFind) => a.length ≤ 1099511627776 ∧ b.length ≤ 1099511627776) a b, (fun (a : List TFind) (b : List TFind) => (dB (decide (a = b)) : D)) a b, (fun (a : List TFind) (b : List TFind) => []) a b) :=
  mkCon_fn (fun x y h _ => c84_inj x y h) ((a, b) : (List TFind) × (List TFind)) (by simp [nz, nz1, ML_nil, encLTFind]) rfl
@[simp] theorem c84_fn1 (s_a : Nat) (z_a : D) (b : List TFind) : c84.fn [.sl false s_a z_a [], .sl false 8 yTFind (ML encTFind b)] [] = some ((fun (a : List TFind) (b : List TFind) => a.length ≤ 1099511627776 ∧ b.length ≤ 1099511627776) [] b, (fun (a : List TFind) (b : List TFind) => (dB (decide (a = b)) : D)) [] b, (fun (a : List TFind) (b : List TFind) => []) [] b) :=
  mkCon_fn (fun x y h _ => c84_inj x y h) (([], b) : (List TFind) × (List TFind)) (by simp [nz, nz1, ML_nil, encLTFind]) rfl
@[simp] theorem c84_fn2 (a : List TFind) (s_b : Nat) (z_b : D) : c84.fn [.sl false 8 yTFind (ML encTFind a), .sl false s_b z_b []] [] = some ((fun (a : List TFind) (b : List TFind) => a.length ≤ 1099511627776 ∧ b.length ≤ 1099511627776) a [], (fun (a : List TFind) (b : List TFind) => (dB (decide (a = b)) : D)) a [], (fun (a : List TFind) (b : List TFind) => []) a []) :=
  mkCon_fn (fun x y h _ => c84_inj x y h) ((a, []) : (List TFind) × (List TFind)) (by simp [nz, nz1, ML_nil, encLTFind]) rfl
@[simp] theorem c84_fn3 (s_a : Nat) (z_a : D) (s_b : Nat) (z_b : D) : c84.fn [.sl false s_a z_a [], .sl false s_b z_b []] [] = some ((fun (a : List TFind) (b : List TFind) => a.length ≤ 1099511627776 ∧ b.length ≤ 1099511627776) [] [], (fun (a : List TFind) (b : List TFind) => (dB (decide (a = b)) : D)) [] [], (fun (a : List TFind) (b : List TFind) => []) [] []) :=
  mkCon_fn (fun x y h _ => c84_inj x y h) (([], []) : (List TFind) × (List TFind)) (by simp [nz, nz1, ML_nil, encLTFind]) rfl
theorem c84_pc (a : List TFind) (b : List TFind) (hpre : a.length ≤ 1099511627776 ∧ b.length ≤ 1099511627776) : PCo Try.prog 84 [encLTFind a, encLTFind b] (Tab.of []) (dB (decide (a = b))) (Tab.of []) := by
  refine pco_of_run [] (E := ⟨[c138], []⟩) (m := false) (base := 0) (Env.ok_cons c138_ok Env.ok_nil) G_ok mix 300 6 Try.func84 (by kernel_rfl) rfl (by kernel_rfl) (by kernel_rfl) rfl ?_
  simp [Try.f84]
  obtain ⟨pre1, pre2⟩ := hpre
  refine ⟨fun h => ?_, fun h => by intro e; subst e; exact absurd rfl h⟩
  refine loop_inv (fun p : Nat => p ≤ a.length ∧ a.take p = b.take p) (fun p => [(0, encLTFind a), (1, encLTFind b), (5, dI p)]) (fun _ => []) 1 (fun p => a.length - p) 0 100 (by simp) (by simp) (by simp) ?_
  intro p ⟨hp, hi⟩
  simp
  refine ⟨fun hlt => ⟨by omega, fun h2 => ⟨by omega, Again.mk (p + 1) ⟨by omega, take_eq_step hi (by omega) (by omega) h2⟩ (by simp) (by first | omega | (simp; omega))⟩, fun h2 => by intro e; subst e; exact absurd rfl h2⟩, fun hge => ?_⟩
  exact take_eq_full hi (by omega) (by omega)
theorem c84_ok : c84.ok Try.prog := mkCon_ok fun ⟨a, b⟩ hpre => c84_pc a b hpre
def likeK (f : TFind) : List Int := [f.Thing.Kind, f.Thing.Colour, f.Thing.Size, f.Place]
abbrev Gq := List (List Int × List TFind)
abbrev bkQ (l : List TFind) : Gq := grpLQ likeK l
def twin (x y : TFind) : Bool := mTwins y x
/-- loop.example/g03007/impl.TwinsOf$1 -/
noncomputable def c136 : Con := mkCon 136 false (α := TFind × TFind) (fun x => (fun (y : TFind) (x : TFind) => ([encTFind y, .el (encTFind x)] : List D)) x.1 x.2) (fun x => (fun (y : TFind) (x : TFind) => ([] : List (Nm × OO))) x.1 x.2) (fun x => (fun (y : TFind) (x : TFind) => True) x.1 x.2) (fun x => (fun (y : TFind) (x : TFind) => (dB (twin x y) : D)) x.1 x.2) (fun x => (fun (y : TFind) (x : TFind) => ([] : List (Nm × OO))) x.1 x.2)
@[simp] theorem c136_f : c136.f = 136 := rfl
@[simp] theorem c136_own : c136.own = false := rfl
theorem c136_inj : ∀ u_ v_ : TFind × TFind, ((fun x => (fun (y : TFind) (x : TFind) => ([encTFind y, .el (encTFind x)] : List D)) x.1 x.2) u_).map nz = ((fun x => (fun (y : TFind) (x : TFind) => ([encTFind y, .el (encTFind x)] : List D)) x.1 x.2) v_).map nz → (fun x => (fun (y : TFind) (x : TFind) => ([] : List (Nm × OO))) x.1 x.2) u_ = (fun x => (fun (y : TFind) (x : TFind) => ([] : List (Nm × OO))) x.1 x.2) v_ → u_ = v_ := by
  intro u_ v_ h h2_
  obtain ⟨⟨⟨y_Thing_Id, y_Thing_Kind, y_Thing_Colour, y_Thing_Size, y_Thing_Worth⟩, y_Place, y_At, y_Finder⟩, ⟨⟨x_Thing_Id, x_Thing_Kind, x_Thing_Colour, x_Thing_Size, x_Thing_Worth⟩, x_Place, x_At, x_Finder⟩⟩ := u_
  obtain ⟨⟨⟨y_Thing_Id', y_Thing_Kind', y_Thing_Colour', y_Thing_Size', y_Thing_Worth'⟩, y_Place', y_At', y_Finder'⟩, ⟨⟨x_Thing_Id', x_Thing_Kind', x_Thing_Colour', x_Thing_Size', x_Thing_Worth'⟩, x_Place', x_At', x_Finder'⟩⟩ := v_
  simp [nz_lit, nz1_lit, nz_agg, nz_sl, nz1_sl, nz_sx, nz_el, nz1_el, nz_own, nz1_own, nz_ptr, nz_fn, nz_iface] at h h2_
  first | (simp [h, h2_]; done) | (obtain ⟨h3_, h4_⟩ := List.append_inj h2_ h.1; simp_all; done) | simp_all | grind
@[simp] theorem c136_fn (y_Thing_Id : Int) (y_Thing_Kind : Int) (y_Thing_Colour : Int) (y_Thing_Size : Int) (y_Thing_Worth : Int) (y_Place : Int) (y_At : Int) (y_Finder : Int) (x_Thing_Id : Int) (x_Thing_Kind : Int) (x_Thing_Colour : Int) (x_Thing_Size : Int) (x_Thing_Worth : Int) (x_Place : Int) (x_At : Int) (x_Finder : Int) : c136.fn ([.agg [.lit (.int .i64 y_Thing_Id), .lit (.int .i64 y_Thing_Kind), .lit (.int .i64 y_Thing_Colour), .lit (.int .i64 y_Thing_Size), .lit (.int .i64 y_Thing_Worth), .lit (.int .i64 y_Place), .lit (.int .i64 y_At), .lit (.int .i64 y_Finder)], .el (.agg [.lit (.int .i64 x_Thing_Id), .lit (.int .i64 x_Thing_Kind), .lit (.int .i64 x_Thing_Colour), .lit (.int .i64 x_Thing_Size), .lit (.int .i64 x_Thing_Worth), .lit (.int .i64 x_Place), .lit (.int .i64 x_At), .lit (.int .i64 x_Finder)])]) ([]) = some (True, dB (twin (⟨⟨x_Thing_Id, x_Thing_Kind, x_Thing_Colour, x_Thing_Size, x_Thing_Worth⟩, x_Place, x_At, x_Finder⟩ : TFind) (⟨⟨y_Thing_Id, y_Thing_Kind, y_Thing_Colour, y_Thing_Size, y_Thing_Worth⟩, y_Place, y_At, y_Finder⟩ : TFind)), []) :=
  mkCon_fn c136_inj ((⟨⟨y_Thing_Id, y_Thing_Kind, y_Thing_Colour, y_Thing_Size, y_Thing_Worth⟩, y_Place, y_At, y_Finder⟩, ⟨⟨x_Thing_Id, x_Thing_Kind, x_Thing_Colour, x_Thing_Size, x_Thing_Worth⟩, x_Place, x_At, x_Finder⟩) : TFind × TFind) rfl rfl
theorem c136_pc (y : TFind) (x : TFind) : PCo Try.prog 136 ([encTFind y, .el (encTFind x)]) (Tab.of ([])) (dB (twin x y)) (Tab.of ([])) := by
  refine pco_of_run [] (E := ⟨[c137], []⟩) (m := false) (base := 0) (Env.ok_cons c137_ok Env.ok_nil) G_ok mix 300 6 Try.func136 (by kernel_rfl) rfl (by kernel_rfl) (by kernel_rfl) rfl ?_
  simp [Try.f136]
  first | done | rfl
theorem c136_ok : c136.ok Try.prog := mkCon_ok fun ⟨y, x⟩ hpre => c136_pc y x
/-- slices.IndexFunc[[]loop.example/g03007/impl.Fin -/
noncomputable def c167_t : Con := mkCon 167 false (α := (List TFind) × TFind) (fun x => (fun (l : List TFind) (x : TFind) => ([encLTFind l, .fn (.func 136) [] [.el (encTFind x)]] : List D)) x.1 x.2) (fun x => (fun (l : List TFind) (x : TFind) => ([] : List (Nm × OO))) x.1 x.2) (fun x => (fun (l : List TFind) (x : TFind) => l.length ≤ 1099511627776) x.1 x.2) (fun x => (fun (l : List TFind) (x : TFind) => (dI (indexBy (twin x) 0 l) : D)) x.1 x.2) (fun x => (fun (l : List TFind) (x : TFind) => ([] : List (Nm × OO))) x.1 x.2)
@[simp] theorem c167_t_f : c167_t.f = 167 := rfl
@[simp] theorem c167_t_own : c167_t.own = false := rfl
theorem c167_t_inj : ∀ u_ v_ : (List TFind) × TFind, ((fun x => (fun (l : List TFind) (x : TFind) => ([encLTFind l, .fn (.func 136) [] [.el (encTFind x)]] : List D)) x.1 x.2) u_).map nz = ((fun x => (fun (l : List TFind) (x : TFind) => ([encLTFind l, .fn (.func 136) [] [.el (encTFind x)]] : List D)) x.1 x.2) v_).map nz → (fun x => (fun (l : List TFind) (x : TFind) => ([] : List (Nm × OO))) x.1 x.2) u_ = (fun x => (fun (l : List TFind) (x : TFind) => ([] : List (Nm × OO))) x.1 x.2) v_ → u_ = v_ := by
  intro u_ v_ h h2_
  obtain ⟨l, ⟨⟨x_Thing_Id, x_Thing_Kind, x_Thing_Colour, x_Thing_Size, x_Thing_Worth⟩, x_Place, x_At, x_Finder⟩⟩ := u_
  obtain ⟨l', ⟨⟨x_Thing_Id', x_Thing_Kind', x_Thing_Colour', x_Thing_Size', x_Thing_Worth'⟩, x_Place', x_At', x_Finder'⟩⟩ := v_
  simp [nz_lit, nz1_lit, nz_agg, nz_sl, nz1_sl, nz_sx, nz_el, nz1_el, nz_own, nz1_own, nz_ptr, nz_fn, nz_iface] at h h2_
  first | (simp [h, h2_]; done) | (obtain ⟨h3_, h4_⟩ := List.append_inj h2_ h.1; simp_all; done) | simp_all | grind
@[simp] theorem c167_t_fn (l : List TFind) (x_Thing_Id : Int) (x_Thing_Kind : Int) (x_Thing_Colour : Int) (x_Thing_Size : Int) (x_Thing_Worth : Int) (x_Place : Int) (x_At : Int) (x_Finder : Int) : c167_t.fn ([(.sl false 8 yTFind (ML encTFind l)), .fn (.func 136) [] [.el (.agg [.lit (.int .i64 x_Thing_Id), .lit (.int .i64 x_Thing_Kind), .lit (.int .i64 x_Thing_Colour), .lit (.int .i64 x_Thing_Size), .lit (.int .i64 x_Thing_Worth), .lit (.int .i64 x_Place), .lit (.int .i64 x_At), .lit (.int .i64 x_Finder)])]]) ([]) = some (l.length ≤ 1099511627776, dI (indexBy (twin (⟨⟨x_Thing_Id, x_Thing_Kind, x_Thing_Colour, x_Thing_Size, x_Thing_Worth⟩, x_Place, x_At, x_Finder⟩ : TFind)) 0 l), []) :=
  mkCon_fn c167_t_inj ((l, ⟨⟨x_Thing_Id, x_Thing_Kind, x_Thing_Colour, x_Thing_Size, x_Thing_Worth⟩, x_Place, x_At, x_Finder⟩) : (List TFind) × TFind) rfl rfl
theorem c167_t_pc (l : List TFind) (x : TFind) (hpre : l.length ≤ 1099511627776) : PCo Try.prog 167 ([encLTFind l, .fn (.func 136) [] [.el (encTFind x)]]) (Tab.of ([])) (dI (indexBy (twin x) 0 l)) (Tab.of ([])) := by
  refine pco_of_run [] (E := ⟨[c136], []⟩) (m := false) (base := 0) (Env.ok_cons c136_ok Env.ok_nil) G_ok mix 300 6 Try.func167 (by kernel_rfl) rfl (by kernel_rfl) (by kernel_rfl) rfl ?_
  simp [Try.f167]
  refine loop_inv (fun p : Nat => p ≤ l.length ∧ indexBy (twin x) 0 l = indexBy (twin x) p (l.drop p)) (fun p => [(0, encLTFind l), (1, .fn (.func 136) [] [.el (encTFind x)]), (7, dI l.length), (8, dI p)]) (fun _ => []) 1 (fun p => l.length - p) 0 400 (by simp) (by simp) (by simp) ?_
  intro p ⟨hp, hi⟩
  simp
  refine ⟨fun hlt => ?_, fun hge => ?_⟩
  · rw [indexBy_at (d := default) hlt] at hi
    repeat' (first | omega | refine And.intro ?_ ?_ | intro _)
    all_goals first | exact Again.mk (p + 1) ⟨by omega, by rw [hi]; grind⟩ (by simp) (by first | omega | (simp; omega)) | (rw [hi]; grind)
  · rw [hi, indexBy_end hge]
theorem c167_t_ok : c167_t.ok Try.prog := mkCon_ok fun ⟨l, x⟩ hpre => c167_t_pc l x hpre
theorem mem_at {l : List Int} {p : Nat} {n : Int} (h : p < l.length) : n ∈ l.drop p ↔ (n = l[p]?.getD 0 ∨ n ∈ l.drop (p + 1)) := by
  rw [drop_at (d := 0) h, List.mem_cons]
theorem mem_end {l : List Int} {p : Nat} {n : Int} (h : l.length ≤ p) : ¬ n ∈ l.drop p := by
  rw [List.drop_eq_nil_of_le h]; simp
theorem indexBy_mem {n : Int} : ∀ (l : List Int) (i : Int), 0 ≤ i → (0 ≤ indexBy (wantN (fun x => x) n) i l ↔ n ∈ l)
  | [], i, _ => by simp [indexBy]
  | x :: r, i, hi => by
    simp only [indexBy, List.mem_cons]
    by_cases h : x = n
    · have hw : wantN (fun x => x) n x = true := by simp [wantN, h]
      rw [if_pos hw]; simp [hi, h]
    · have hw : wantN (fun x => x) n x = false := by simp [wantN, h]
      rw [if_neg (by simp [hw]), indexBy_mem r (i + 1) (by omega)]
      constructor
      · exact .inr
      · rintro (e | e)
        · exact absurd e.symm h
        · exact e
/-- slices.Index[[]in -/
noncomputable def c172 : Con := mkCon 172 false (α := (List Int) × Int) (fun x => (fun (l : List Int) (n : Int) => [encLI l, dI n]) x.1 x.2) (fun _ => []) (fun x => (fun (l : List Int) (n : Int) => l.length ≤ 1099511627776) x.1 x.2) (fun x => (fun (l : List Int) (n : Int) => (dI (indexBy (wantN (fun x => x) n) 0 l) : D)) x.1 x.2) (fun x => (fun (l : List Int) (n : Int) => []) x.1 x.2)
@[simp] theorem c172_f : c172.f = 172 := rfl
@[simp] theorem c172_own : c172.own = false := rfl
theorem c172_inj : ∀ u_ v_ : (List Int) × Int, ((fun x => (fun (l : List Int) (n : Int) => [encLI l, dI n]) x.1 x.2) u_).map nz = ((fun x => (fun (l : List Int) (n : Int) => [encLI l, dI n]) x.1 x.2) v_).map nz → u_ = v_ := by
  intro u_ v_ h
  obtain ⟨l, n⟩ := u_
  obtain ⟨l', n'⟩ := v_
  simp [nz_lit, nz1_lit, nz_agg, nz_sl, nz1_sl, encLI] at h
  first | (simp [h]; done) | (obtain ⟨⟩ := h; simp_all; done) | simp_all
@[simp] theorem c172_fn (l : List Int) (n : Int) : c172.fn [.sl false 1 (.lit (.int .i64 0)) (ML dI l), .lit (.int .i64 n)] [] = some ((fun (l : List Int) (n : Int) => l.length ≤ 1099511627776) l n, (fun (l : List Int) (n : Int) => (dI (indexBy (wantN (fun x => x) n) 0 l) : D)) l n, (fun (l : List Int) (n : Int) => []) l n) :=
  mkCon_fn (fun x y h _ => c172_inj x y h) ((l, n) : (List Int) × Int) (by simp [nz, nz1, ML_nil, encLI]) rfl
@[simp] theorem c172_fn1 (s_l : Nat) (z_l : D) (n : Int) : c172.fn [.sl false s_l z_l [], .lit (.int .i64 n)] [] = some ((fun (l : List Int) (n : Int) => l.length ≤ 1099511627776) [] n, (fun (l : List Int) (n : Int) => (dI (indexBy (wantN (fun x => x) n) 0 l) : D)) [] n, (fun (l : List Int) (n : Int) => []) [] n) :=
  mkCon_fn (fun x y h _ => c172_inj x y h) (([], n) : (List Int) × Int) (by simp [nz, nz1, ML_nil, encLI]) rfl
theorem c172_pc (l : List Int) (n : Int) (hpre : l.length ≤ 1099511627776) : PCo Try.prog 172 [encLI l, dI n] (Tab.of []) (dI (indexBy (wantN (fun x => x) n) 0 l)) (Tab.of []) := by
  refine pco_of_run [] (E := ⟨[], []⟩) (m := false) (base := 0) Env.ok_nil G_ok mix 300 6 Try.func172 (by kernel_rfl) rfl (by kernel_rfl) (by kernel_rfl) rfl ?_
  simp [Try.f172]
  refine loop_inv (fun p : Nat => p ≤ l.length ∧ indexBy (wantN (fun x => x) n) 0 l = indexBy (wantN (fun x => x) n) p (l.drop p)) (fun p => [(0, encLI l), (1, dI n), (7, dI l.length), (8, dI p)]) (fun _ => []) 1 (fun p => l.length - p) 0 400 (by simp) (by simp) (by simp) ?_
  intro p ⟨hp, hi⟩
  simp
  refine ⟨fun hlt => ?_, fun hge => ?_⟩
  · rw [indexBy_at (d := 0) hlt] at hi; simp only [wantN, decide_eq_true_eq] at hi
    repeat' (first | omega | refine And.intro ?_ ?_ | intro _)
    all_goals first | exact Again.mk (p + 1) ⟨by omega, by rw [hi]; grind⟩ (by simp) (by first | omega | (simp; omega)) | (rw [hi]; grind)
  · rw [hi, indexBy_end hge]
theorem c172_ok : c172.ok Try.prog := mkCon_ok fun ⟨l, n⟩ hpre => c172_pc l n hpre
/-- slices.Contains[[]in -/
noncomputable def c142 : Con := mkCon 142 false (α := (List Int) × Int) (fun x => (fun (l : List Int) (n : Int) => [encLI l, dI n]) x.1 x.2) (fun _ => []) (fun x => (fun (l : List Int) (n : Int) => l.length ≤ 1099511627776) x.1 x.2) (fun x => (fun (l : List Int) (n : Int) => (dB (decide (n ∈ l)) : D)) x.1 x.2) (fun x => (fun (l : List Int) (n : Int) => []) x.1 x.2)
@[simp] theorem c142_f : c142.f = 142 := rfl
@[simp] theorem c142_own : c142.own = false := rfl
theorem c142_inj : ∀ u_ v_ : (List Int) × Int, ((fun x => (fun (l : List Int) (n : Int) => [encLI l, dI n]) x.1 x.2) u_).map nz = ((fun x => (fun (l : List Int) (n : Int) => [encLI l, dI n]) x.1 x.2) v_).map nz → u_ = v_ := by
  intro u_ v_ h
  obtain ⟨l, n⟩ := u_
  obtain ⟨l', n'⟩ := v_
  simp [nz_lit, nz1_lit, nz_agg, nz_sl, nz1_sl, encLI] at h
  first | (simp [h]; done) | (obtain ⟨⟩ := h; simp_all; done) | simp_all
@[simp] theorem c142_fn (l : List Int) (n : Int) : c142.fn [.sl false 1 (.lit (.int .i64 0)) (ML dI l), .lit (.int .i64 n)] [] = some ((fun (l : List Int) (n : Int) => l.length ≤ 1099511627776) l n, (fun (l : List Int) (n : Int) => (dB (decide (n ∈ l)) : D)) l n, (fun (l : List Int) (n : Int) => []) l n) :=
  mkCon_fn (fun x y h _ => c142_inj x y h) ((l, n) : (List Int) × Int) (by simp [nz, nz1, ML_nil, encLI]) rfl
@[simp] theorem c142_fn1 (s_l : Nat) (z_l : D) (n : Int) : c142.fn [.sl false s_l z_l [], .lit (.int .i64 n)] [] = some ((fun (l : List Int) (n : Int) => l.length ≤ 1099511627776) [] n, (fun (l : List Int) (n : Int) => (dB (decide (n ∈ l)) : D)) [] n, (fun (l : List Int) (n : Int) => []) [] n) :=
  mkCon_fn (fun x y h _ => c142_inj x y h) (([], n) : (List Int) × Int) (by simp [nz, nz1, ML_nil, encLI]) rfl
theorem c142_pc (l : List Int) (n : Int) (hpre : l.length ≤ 1099511627776) : PCo Try.prog 142 [encLI l, dI n] (Tab.of []) (dB (decide (n ∈ l))) (Tab.of []) := by
  refine pco_of_run [] (E := ⟨[c172], []⟩) (m := false) (base := 0) (Env.ok_cons c172_ok Env.ok_nil) G_ok mix 300 6 Try.func142 (by kernel_rfl) rfl (by kernel_rfl) (by kernel_rfl) rfl ?_
  simp [Try.f142]
  refine ⟨hpre, ?_⟩
  exact indexBy_mem l 0 (by omega)
theorem c142_ok : c142.ok Try.prog := mkCon_ok fun ⟨l, n⟩ hpre => c142_pc l n hpre
/-- loop.example/g03007/spec.l8Has -/
noncomputable def c119 : Con := mkCon 119 false (α := (List Int) × Int) (fun x => (fun (l : List Int) (n : Int) => [encLI l, dI n]) x.1 x.2) (fun _ => []) (fun x => (fun (l : List Int) (n : Int) => l.length ≤ 1099511627776) x.1 x.2) (fun x => (fun (l : List Int) (n : Int) => (dB (decide (n ∈ l)) : D)) x.1 x.2) (fun x => (fun (l : List Int) (n : Int) => []) x.1 x.2)
@[simp] theorem c119_f : c119.f = 119 := rfl
@[simp] theorem c119_own : c119.own = false := rfl
theorem c119_inj : ∀ u_ v_ : (List Int) × Int, ((fun x => (fun (l : List Int) (n : Int) => [encLI l, dI n]) x.1 x.2) u_).map nz = ((fun x => (fun (l : List Int) (n : Int) => [encLI l, dI n]) x.1 x.2) v_).map nz → u_ = v_ := by
  intro u_ v_ h
  obtain ⟨l, n⟩ := u_
  obtain ⟨l', n'⟩ := v_
  simp [nz_lit, nz1_lit, nz_agg, nz_sl, nz1_sl, encLI] at h
  first | (simp [h]; done) | (obtain ⟨⟩ := h; simp_all; done) | simp_all
@[simp] theorem c119_fn (l : List Int) (n : Int) : c119.fn [.sl false 1 (.lit (.int .i64 0)) (ML dI l), .lit (.int .i64 n)] [] = some ((fun (l : List Int) (n : Int) => l.length ≤ 1099511627776) l n, (fun (l : List Int) (n : Int) => (dB (decide (n ∈ l)) : D)) l n, (fun (l : List Int) (n : Int) => []) l n) :=
  mkCon_fn (fun x y h _ => c119_inj x y h) ((l, n) : (List Int) × Int) (by simp [nz, nz1, ML_nil, encLI]) rfl
@[simp] theorem c119_fn1 (s_l : Nat) (z_l : D) (n : Int) : c119.fn [.sl false s_l z_l [], .lit (.int .i64 n)] [] = some ((fun (l : List Int) (n : Int) => l.length ≤ 1099511627776) [] n, (fun (l : List Int) (n : Int) => (dB (decide (n ∈ l)) : D)) [] n, (fun (l : List Int) (n : Int) => []) [] n) :=
  mkCon_fn (fun x y h _ => c119_inj x y h) (([], n) : (List Int) × Int) (by simp [nz, nz1, ML_nil, encLI]) rfl
theorem c119_pc (l : List Int) (n : Int) (hpre : l.length ≤ 1099511627776) : PCo Try.prog 119 [encLI l, dI n] (Tab.of []) (dB (decide (n ∈ l))) (Tab.of []) := by
  refine pco_of_run [] (E := ⟨[], []⟩) (m := false) (base := 0) Env.ok_nil G_ok mix 300 6 Try.func119 (by kernel_rfl) rfl (by kernel_rfl) (by kernel_rfl) rfl ?_
  simp [Try.f119]
  refine loop_inv (fun p : Nat => p ≤ l.length ∧ (n ∈ l ↔ n ∈ l.drop p)) (fun p => [(0, encLI l), (1, dI n), (4, dB false), (5, dI p)]) (fun _ => []) 1 (fun p => l.length - p) 0 400 (by simp) (by simp) (by simp) ?_
  intro p ⟨hp, hi⟩
  simp
  refine ⟨fun hlt => ?_, fun hge => ?_⟩
  · rw [mem_at hlt] at hi
    repeat' (first | omega | refine And.intro ?_ ?_ | intro _)
    all_goals first | exact Again.mk (p + 1) ⟨by omega, by rw [hi]; grind⟩ (by simp) (by first | omega | (simp; omega)) | grind
  · have := mem_end (n := n) hge; grind
theorem c119_ok : c119.ok Try.prog := mkCon_ok fun ⟨l, n⟩ hpre => c119_pc l n hpre
def isTw (k : List Int) (x : TFind) : Bool := decide (x.Thing.Id ∈ k)
/-- loop.example/g03007/impl.DropTwins$1 -/
noncomputable def c141 : Con := mkCon 141 false (α := TFind × (List Int)) (fun x => (fun (x : TFind) (k : List Int) => ([encTFind x, .el (encLI k)] : List D)) x.1 x.2) (fun x => (fun (x : TFind) (k : List Int) => ([] : List (Nm × OO))) x.1 x.2) (fun x => (fun (x : TFind) (k : List Int) => k.length ≤ 1099511627776) x.1 x.2) (fun x => (fun (x : TFind) (k : List Int) => (dB (isTw k x) : D)) x.1 x.2) (fun x => (fun (x : TFind) (k : List Int) => ([] : List (Nm × OO))) x.1 x.2)
@[simp] theorem c141_f : c141.f = 141 := rfl
@[simp] theorem c141_own : c141.own = false := rfl
theorem c141_inj : ∀ u_ v_ : TFind × (List Int), ((fun x => (fun (x : TFind) (k : List Int) => ([encTFind x, .el (encLI k)] : List D)) x.1 x.2) u_).map nz = ((fun x => (fun (x : TFind) (k : List Int) => ([encTFind x, .el (encLI k)] : List D)) x.1 x.2) v_).map nz → (fun x => (fun (x : TFind) (k : List Int) => ([] : List (Nm × OO))) x.1 x.2) u_ = (fun x => (fun (x : TFind) (k : List Int) => ([] : List (Nm × OO))) x.1 x.2) v_ → u_ = v_ := by
  intro u_ v_ h h2_
  obtain ⟨⟨⟨x_Thing_Id, x_Thing_Kind, x_Thing_Colour, x_Thing_Size, x_Thing_Worth⟩, x_Place, x_At, x_Finder⟩, k⟩ := u_
  obtain ⟨⟨⟨x_Thing_Id', x_Thing_Kind', x_Thing_Colour', x_Thing_Size', x_Thing_Worth'⟩, x_Place', x_At', x_Finder'⟩, k'⟩ := v_
  simp [nz_lit, nz1_lit, nz_agg, nz_sl, nz1_sl, nz_sx, nz_el, nz1_el, nz_own, nz1_own, nz_ptr, nz_fn, nz_iface] at h h2_
  first | (simp [h, h2_]; done) | (obtain ⟨h3_, h4_⟩ := List.append_inj h2_ h.1; simp_all; done) | simp_all | grind
@[simp] theorem c141_fn (x_Thing_Id : Int) (x_Thing_Kind : Int) (x_Thing_Colour : Int) (x_Thing_Size : Int) (x_Thing_Worth : Int) (x_Place : Int) (x_At : Int) (x_Finder : Int) (k : List Int) : c141.fn ([.agg [.lit (.int .i64 x_Thing_Id), .lit (.int .i64 x_Thing_Kind), .lit (.int .i64 x_Thing_Colour), .lit (.int .i64 x_Thing_Size), .lit (.int .i64 x_Thing_Worth), .lit (.int .i64 x_Place), .lit (.int .i64 x_At), .lit (.int .i64 x_Finder)], .el ((.sl false 1 (.lit (.int .i64 0)) (ML dI k)))]) ([]) = some (k.length ≤ 1099511627776, dB (isTw k (⟨⟨x_Thing_Id, x_Thing_Kind, x_Thing_Colour, x_Thing_Size, x_Thing_Worth⟩, x_Place, x_At, x_Finder⟩ : TFind)), []) :=
  mkCon_fn c141_inj ((⟨⟨x_Thing_Id, x_Thing_Kind, x_Thing_Colour, x_Thing_Size, x_Thing_Worth⟩, x_Place, x_At, x_Finder⟩, k) : TFind × (List Int)) rfl rfl
theorem c141_pc (x : TFind) (k : List Int) (hpre : k.length ≤ 1099511627776) : PCo Try.prog 141 ([encTFind x, .el (encLI k)]) (Tab.of ([])) (dB (isTw k x)) (Tab.of ([])) := by
  refine pco_of_run [] (E := ⟨[c142], []⟩) (m := false) (base := 0) (Env.ok_cons c142_ok Env.ok_nil) G_ok mix 300 6 Try.func141 (by kernel_rfl) rfl (by kernel_rfl) (by kernel_rfl) rfl ?_
  simp [Try.f141]
  exact ⟨hpre, rfl⟩
theorem c141_ok : c141.ok Try.prog := mkCon_ok fun ⟨x, k⟩ hpre => c141_pc x k hpre
/-- slices.IndexFunc[[]loop.example/g03007/impl.Fin -/
noncomputable def c167_d : Con := mkCon 167 false (α := (List TFind) × (List Int)) (fun x => (fun (l : List TFind) (k : List Int) => ([encLTFind l, .fn (.func 141) [] [.el (encLI k)]] : List D)) x.1 x.2) (fun x => (fun (l : List TFind) (k : List Int) => ([] : List (Nm × OO))) x.1 x.2) (fun x => (fun (l : List TFind) (k : List Int) => l.length ≤ 1099511627776 ∧ k.length ≤ 1099511627776) x.1 x.2) (fun x => (fun (l : List TFind) (k : List Int) => (dI (indexBy (isTw k) 0 l) : D)) x.1 x.2) (fun x => (fun (l : List TFind) (k : List Int) => ([] : List (Nm × OO))) x.1 x.2)
@[simp] theorem c167_d_f : c167_d.f = 167 := rfl
@[simp] theorem c167_d_own : c167_d.own = false := rfl
theorem c167_d_inj : ∀ u_ v_ : (List TFind) × (List Int), ((fun x => (fun (l : List TFind) (k : List Int) => ([encLTFind l, .fn (.func 141) [] [.el (encLI k)]] : List D)) x.1 x.2) u_).map nz = ((fun x => (fun (l : List TFind) (k : List Int) => ([encLTFind l, .fn (.func 141) [] [.el (encLI k)]] : List D)) x.1 x.2) v_).map nz → (fun x => (fun (l : List TFind) (k : List Int) => ([] : List (Nm × OO))) x.1 x.2) u_ = (fun x => (fun (l : List TFind) (k : List Int) => ([] : List (Nm × OO))) x.1 x.2) v_ → u_ = v_ := by
  intro u_ v_ h h2_
  obtain ⟨l, k⟩ := u_
  obtain ⟨l', k'⟩ := v_
  simp [nz_lit, nz1_lit, nz_agg, nz_sl, nz1_sl, nz_sx, nz_el, nz1_el, nz_own, nz1_own, nz_ptr, nz_fn, nz_iface] at h h2_
  first | (simp [h, h2_]; done) | (obtain ⟨h3_, h4_⟩ := List.append_inj h2_ h.1; simp_all; done) | simp_all | grind
@[simp] theorem c167_d_fn (l : List TFind) (k : List Int) : c167_d.fn ([(.sl false 8 yTFind (ML encTFind l)), .fn (.func 141) [] [.el ((.sl false 1 (.lit (.int .i64 0)) (ML dI k)))]]) ([]) = some (l.length ≤ 1099511627776 ∧ k.length ≤ 1099511627776, dI (indexBy (isTw k) 0 l), []) :=
  mkCon_fn c167_d_inj ((l, k) : (List TFind) × (List Int)) rfl rfl
theorem c167_d_pc (l : List TFind) (k : List Int) (hpre : l.length ≤ 1099511627776 ∧ k.length ≤ 1099511627776) : PCo Try.prog 167 ([encLTFind l, .fn (.func 141) [] [.el (encLI k)]]) (Tab.of ([])) (dI (indexBy (isTw k) 0 l)) (Tab.of ([])) := by
  refine pco_of_run [] (E := ⟨[c141], []⟩) (m := false) (base := 0) (Env.ok_cons c141_ok Env.ok_nil) G_ok mix 300 6 Try.func167 (by kernel_rfl) rfl (by kernel_rfl) (by kernel_rfl) rfl ?_
  simp [Try.f167]
  obtain ⟨hpre, hkl⟩ := hpre
  refine loop_inv (fun p : Nat => p ≤ l.length ∧ indexBy (isTw k) 0 l = indexBy (isTw k) p (l.drop p)) (fun p => [(0, encLTFind l), (1, .fn (.func 141) [] [.el (encLI k)]), (7, dI l.length), (8, dI p)]) (fun _ => []) 1 (fun p => l.length - p) 0 400 (by simp) (by simp) (by simp) ?_
  intro p ⟨hp, hi⟩
  simp
  refine ⟨fun hlt => ?_, fun hge => ?_⟩
  · rw [indexBy_at (d := default) hlt] at hi
    repeat' (first | omega | refine And.intro ?_ ?_ | intro _)
    all_goals first | exact Again.mk (p + 1) ⟨by omega, by rw [hi]; grind⟩ (by simp) (by first | omega | (simp; omega)) | (rw [hi]; grind)
  · rw [hi, indexBy_end hge]
theorem c167_d_ok : c167_d.ok Try.prog := mkCon_ok fun ⟨l, k⟩ hpre => c167_d_pc l k hpre
noncomputable def c167 : Con := selCon 167 false [([136], c167_t), ([141], c167_d)]
@[simp] theorem c167_f : c167.f = 167 := rfl
@[simp] theorem c167_own : c167.own = false := rfl
@[simp] theorem c167_fn0 (l : List TFind) (x_Thing_Id : Int) (x_Thing_Kind : Int) (x_Thing_Colour : Int) (x_Thing_Size : Int) (x_Thing_Worth : Int) (x_Place : Int) (x_At : Int) (x_Finder : Int) : c167.fn ([(.sl false 8 yTFind (ML encTFind l)), .fn (.func 136) [] [.el (.agg [.lit (.int .i64 x_Thing_Id), .lit (.int .i64 x_Thing_Kind), .lit (.int .i64 x_Thing_Colour), .lit (.int .i64 x_Thing_Size), .lit (.int .i64 x_Thing_Worth), .lit (.int .i64 x_Place), .lit (.int .i64 x_At), .lit (.int .i64 x_Finder)])]]) ([]) = some (l.length ≤ 1099511627776, dI (indexBy (twin (⟨⟨x_Thing_Id, x_Thing_Kind, x_Thing_Colour, x_Thing_Size, x_Thing_Worth⟩, x_Place, x_At, x_Finder⟩ : TFind)) 0 l), []) := by
  rw [c167, selCon_fn]
  have h : selK [([136], c167_t), ([141], c167_d)] (keyDs ([(.sl false 8 yTFind (ML encTFind l)), .fn (.func 136) [] [.el (.agg [.lit (.int .i64 x_Thing_Id), .lit (.int .i64 x_Thing_Kind), .lit (.int .i64 x_Thing_Colour), .lit (.int .i64 x_Thing_Size), .lit (.int .i64 x_Thing_Worth), .lit (.int .i64 x_Place), .lit (.int .i64 x_At), .lit (.int .i64 x_Finder)])]])) = some c167_t := by simp
  rw [h]
  exact c167_t_fn l x_Thing_Id x_Thing_Kind x_Thing_Colour x_Thing_Size x_Thing_Worth x_Place x_At x_Finder
@[simp] theorem c167_fn1 (l : List TFind) (k : List Int) : c167.fn ([(.sl false 8 yTFind (ML encTFind l)), .fn (.func 141) [] [.el ((.sl false 1 (.lit (.int .i64 0)) (ML dI k)))]]) ([]) = some (l.length ≤ 1099511627776 ∧ k.length ≤ 1099511627776, dI (indexBy (isTw k) 0 l), []) := by
  rw [c167, selCon_fn]
  have h : selK [([136], c167_t), ([141], c167_d)] (keyDs ([(.sl false 8 yTFind (ML encTFind l)), .fn (.func 141) [] [.el ((.sl false 1 (.lit (.int .i64 0)) (ML dI k)))]])) = some c167_d := by simp
  rw [h]
  exact c167_d_fn l k
theorem c167_ok : c167.ok Try.prog := selCon_ok fun p hp => by
  simp only [List.mem_cons, List.not_mem_nil, or_false] at hp
  rcases hp with rfl | rfl
  · exact ⟨rfl, c167_t_ok⟩
  · exact ⟨rfl, c167_d_ok⟩
theorem indexBy_anyQ {α : Type} {w : α → Bool} : ∀ (l : List α) (i : Int), 0 ≤ i → (0 ≤ indexBy w i l ↔ l.any w = true)
  | [], i, _ => by simp [indexBy]
  | x :: r, i, hi => by
    have := indexBy_anyQ (w := w) r (i + 1) (by omega)
    by_cases hx : w x = true
    · simp [indexBy, hx, hi]
    · simp [indexBy, hx, this]
/-- slices.ContainsFunc[[]loop.example/g03007/impl.Fin -/
noncomputable def c135 : Con := mkCon 135 false (α := (List TFind) × TFind) (fun x => (fun (l : List TFind) (x : TFind) => ([encLTFind l, .fn (.func 136) [] [.el (encTFind x)]] : List D)) x.1 x.2) (fun x => (fun (l : List TFind) (x : TFind) => ([] : List (Nm × OO))) x.1 x.2) (fun x => (fun (l : List TFind) (x : TFind) => l.length ≤ 1099511627776) x.1 x.2) (fun x => (fun (l : List TFind) (x : TFind) => (dB (l.any (twin x)) : D)) x.1 x.2) (fun x => (fun (l : List TFind) (x : TFind) => ([] : List (Nm × OO))) x.1 x.2)
@[simp] theorem c135_f : c135.f = 135 := rfl
@[simp] theorem c135_own : c135.own = false := rfl
theorem c135_inj : ∀ u_ v_ : (List TFind) × TFind, ((fun x => (fun (l : List TFind) (x : TFind) => ([encLTFind l, .fn (.func 136) [] [.el (encTFind x)]] : List D)) x.1 x.2) u_).map nz = ((fun x => (fun (l : List TFind) (x : TFind) => ([encLTFind l, .fn (.func 136) [] [.el (encTFind x)]] : List D)) x.1 x.2) v_).map nz → (fun x => (fun (l : List TFind) (x : TFind) => ([] : List (Nm × OO))) x.1 x.2) u_ = (fun x => (fun (l : List TFind) (x : TFind) => ([] : List (Nm × OO))) x.1 x.2) v_ → u_ = v_ := by
  intro u_ v_ h h2_
  obtain ⟨l, ⟨⟨x_Thing_Id, x_Thing_Kind, x_Thing_Colour, x_Thing_Size, x_Thing_Worth⟩, x_Place, x_At, x_Finder⟩⟩ := u_
  obtain ⟨l', ⟨⟨x_Thing_Id', x_Thing_Kind', x_Thing_Colour', x_Thing_Size', x_Thing_Worth'⟩, x_Place', x_At', x_Finder'⟩⟩ := v_
  simp [nz_lit, nz1_lit, nz_agg, nz_sl, nz1_sl, nz_sx, nz_el, nz1_el, nz_own, nz1_own, nz_ptr, nz_fn, nz_iface] at h h2_
  first | (simp [h, h2_]; done) | (obtain ⟨h3_, h4_⟩ := List.append_inj h2_ h.1; simp_all; done) | simp_all | grind
@[simp] theorem c135_fn (l : List TFind) (x_Thing_Id : Int) (x_Thing_Kind : Int) (x_Thing_Colour : Int) (x_Thing_Size : Int) (x_Thing_Worth : Int) (x_Place : Int) (x_At : Int) (x_Finder : Int) : c135.fn ([(.sl false 8 yTFind (ML encTFind l)), .fn (.func 136) [] [.el (.agg [.lit (.int .i64 x_Thing_Id), .lit (.int .i64 x_Thing_Kind), .lit (.int .i64 x_Thing_Colour), .lit (.int .i64 x_Thing_Size), .lit (.int .i64 x_Thing_Worth), .lit (.int .i64 x_Place), .lit (.int .i64 x_At), .lit (.int .i64 x_Finder)])]]) ([]) = some (l.length ≤ 1099511627776, dB (l.any (twin (⟨⟨x_Thing_Id, x_Thing_Kind, x_Thing_Colour, x_Thing_Size, x_Thing_Worth⟩, x_Place, x_At, x_Finder⟩ : TFind))), []) :=
  mkCon_fn c135_inj ((l, ⟨⟨x_Thing_Id, x_Thing_Kind, x_Thing_Colour, x_Thing_Size, x_Thing_Worth⟩, x_Place, x_At, x_Finder⟩) : (List TFind) × TFind) rfl rfl
theorem c135_pc (l : List TFind) (x : TFind) (hpre : l.length ≤ 1099511627776) : PCo Try.prog 135 ([encLTFind l, .fn (.func 136) [] [.el (encTFind x)]]) (Tab.of ([])) (dB (l.any (twin x))) (Tab.of ([])) := by
  refine pco_of_run [] (E := ⟨[c167, c136], []⟩) (m := false) (base := 0) (Env.ok_cons c167_ok (Env.ok_cons c136_ok Env.ok_nil)) G_ok mix 300 6 Try.func135 (by kernel_rfl) rfl (by kernel_rfl) (by kernel_rfl) rfl ?_
  simp [Try.f135]
  refine ⟨hpre, ?_⟩
  have := indexBy_anyQ (w := twin x) l 0 (by omega)
  rw [Bool.eq_iff_iff, ← this]
  simp
theorem c135_ok : c135.ok Try.prog := mkCon_ok fun ⟨l, x⟩ hpre => c135_pc l x hpre
@[simp] theorem contains_nil (x_Thing_Id x_Thing_Kind x_Thing_Colour x_Thing_Size x_Thing_Worth x_Place x_At x_Finder : Int) : c135.fn ([(.sl false 8 yTFind []), .fn (.func 136) [] [.el (.agg [.lit (.int .i64 x_Thing_Id), .lit (.int .i64 x_Thing_Kind), .lit (.int .i64 x_Thing_Colour), .lit (.int .i64 x_Thing_Size), .lit (.int .i64 x_Thing_Worth), .lit (.int .i64 x_Place), .lit (.int .i64 x_At), .lit (.int .i64 x_Finder)])]]) ([]) = some (0 ≤ 1099511627776, dB false, []) := c135_fn [] x_Thing_Id x_Thing_Kind x_Thing_Colour x_Thing_Size x_Thing_Worth x_Place x_At x_Finder
def twP (l : List TFind) : Nat → List Int
  | 0 => []
  | p + 1 => twP l p ++ if (l.take p).any (twin (l[p]?.getD default)) then [nFind (l[p]?.getD default)] else []
theorem twP_len (l : List TFind) : ∀ p, (twP l p).length ≤ p
  | 0 => by simp [twP]
  | p + 1 => by have := twP_len l p; simp only [twP]; split <;> simp <;> omega
theorem twP_yes {l : List TFind} {p : Nat} (h : (l.take p).any (twin (l[p]?.getD default)) = true) : twP l (p + 1) = twP l p ++ [nFind (l[p]?.getD default)] := by rw [twP, if_pos h]
theorem twP_no {l : List TFind} {p : Nat} (h : (l.take p).any (twin (l[p]?.getD default)) = false) : twP l (p + 1) = twP l p := by rw [twP, if_neg (by rw [h]; simp), List.append_nil]
def mTwinsOf (l : List TFind) : List Int := if mAreFinds l then twP l l.length else []
theorem twin_like {x y : TFind} (h : twin x y = true) : likeK y = likeK x := by
  simp only [twin, mTwins, likeB, Bool.and_eq_true, decide_eq_true_eq] at h
  simp only [likeK, h.1.2.1.1.1, h.1.2.1.1.2, h.1.2.1.2, h.1.2.2]
theorem alike_any (l : List TFind) (x : TFind) : (getGQ (bkQ l) (likeK x)).any (twin x) = l.any (twin x) := by
  rw [bkQ, getG_grpQ, List.any_filter]
  congr 1
  funext y
  cases h : twin x y with
  | false => simp
  | true => simp [twin_like h]
/-- loop.example/g03007/impl.TwinsOf -/
noncomputable def c83 : Con := mkCon 83 false (α := (List TFind)) (fun x => (fun (l : List TFind) => [encLTFind l]) x) (fun _ => []) (fun x => (fun (l : List TFind) => l.length ≤ 1073741823) x) (fun x => (fun (l : List TFind) => (.own (0, 1) 1 0 (mTwinsOf l).length : D)) x) (fun x => (fun (l : List TFind) => [((0, 1), .arr false 1 (dI 0) (ML dI (mTwinsOf l)))]) x)
@[simp] theorem c83_f : c83.f = 83 := rfl
@[simp] theorem c83_own : c83.own = false := rfl
theorem c83_inj : ∀ u_ v_ : (List TFind), ((fun x => (fun (l : List TFind) => [encLTFind l]) x) u_).map nz = ((fun x => (fun (l : List TFind) => [encLTFind l]) x) v_).map nz → u_ = v_ := by
  intro u_ v_ h
  obtain l := u_
  obtain l' := v_
  simp [nz_lit, nz1_lit, nz_agg, nz_sl, nz1_sl, encLTFind] at h
  first | (simp [h]; done) | (obtain ⟨⟩ := h; simp_all; done) | simp_all
@[simp] theorem c83_fn (l : List TFind) : c83.fn [.sl false 8 yTFind (ML encTFind l)] [] = some ((fun (l : List TFind) => l.length ≤ 1073741823) l, (fun (l : List TFind) => (.own (0, 1) 1 0 (mTwinsOf l).length : D)) l, (fun (l : List TFind) => [((0, 1), .arr false 1 (dI 0) (ML dI (mTwinsOf l)))]) l) :=
  mkCon_fn (fun x y h _ => c83_inj x y h) (l : (List TFind)) (by simp [nz, nz1, ML_nil, encLTFind]) rfl
@[simp] theorem c83_fn1 (s_l : Nat) (z_l : D) : c83.fn [.sl false s_l z_l []] [] = some ((fun (l : List TFind) => l.length ≤ 1073741823) [], (fun (l : List TFind) => (.own (0, 1) 1 0 (mTwinsOf l).length : D)) [], (fun (l : List TFind) => [((0, 1), .arr false 1 (dI 0) (ML dI (mTwinsOf l)))]) []) :=
  mkCon_fn (fun x y h _ => c83_inj x y h) ([] : (List TFind)) (by simp [nz, nz1, ML_nil, encLTFind]) rfl
theorem c83_pc (l : List TFind) (hpre : l.length ≤ 1073741823) : PCo Try.prog 83 [encLTFind l] (Tab.of []) (.own (0, 1) 1 0 (mTwinsOf l).length) (Tab.of [((0, 1), .arr false 1 (dI 0) (ML dI (mTwinsOf l)))]) := by
  refine pco_of_run [1011] (E := ⟨[c133, c134, c135, c136], []⟩) (m := false) (base := 0) (Env.ok_cons c133_ok (Env.ok_cons c134_ok (Env.ok_cons c135_ok (Env.ok_cons c136_ok Env.ok_nil)))) G_ok mix 300 6 Try.func83 (by kernel_rfl) rfl (by kernel_rfl) (by kernel_rfl) rfl ?_
  cases ha : mAreFinds l with
  | false =>
    have hm : mTwinsOf l = [] := by rw [mTwinsOf, ha]; rfl
    rw [hm]
    simp [Try.f83, ha]
    omega
  | true =>
    have hm : mTwinsOf l = twP l l.length := by rw [mTwinsOf, ha]; rfl
    rw [hm]
    simp [Try.f83, ha]
    refine ⟨by omega, ?_⟩
    refine loop_inv (fun p : Nat => p ≤ l.length) (fun p => [(3, .own (0, 1) 1 0 (twP l p).length), (4, .mp (1, 1)), (14, encLTFind l), (15, dI l.length), (16, dI p)]) (fun p => [((0, 1), .arr false 1 (dI 0) (ML dI (twP l p))), ((1, 1), .rmap 6 (keysGQ (bkQ (l.take p))) 8 yTFind (rowsGQ encTFind (bkQ (l.take p))) none)]) 2 (fun p => l.length - p) 0 400 (by simp) (by simp) (by simp [twP]) ?_
    intro p hp
    by_cases hlt : p < l.length
    · cases hq : posK (likeK (l[p]?.getD default)) (keysGQ (bkQ (l.take p))) with
      | none =>
        have hn := posK_none_GQ hq
        have hq2 := hq
        simp only [likeK] at hq2
        have hno : (l.take p).any (twin (l[p]?.getD default)) = false := by rw [← alike_any, hn]; rfl
        have hs := grpL_takeQ (key := likeK) (d := default) hlt
        have hk := keys_addQ (bkQ (l.take p)) (likeK (l[p]?.getD default)) (l[p]?.getD default)
        have hr := rows_addQ encTFind (bkQ (l.take p)) (likeK (l[p]?.getD default)) (l[p]?.getD default) [encTFind (l[p]?.getD default)] (by rw [hn]; rfl)
        simp only [bkQ] at hs hk hr ⊢
        simp [hq2]
        refine ⟨fun _ => ⟨hlt, by omega, Again.mk (p + 1) (by omega) ?_ (by first | omega | (simp; omega))⟩, fun h => by omega⟩
        simp [hs, twP_no hno]
        exact ⟨hk, hr⟩
      | some j =>
        have hn := rows_at2Q (enc := encTFind) hq
        have hq2 := hq
        simp only [likeK] at hq2
        have hs := grpL_takeQ (key := likeK) (d := default) hlt
        have hk := keys_addQ (bkQ (l.take p)) (likeK (l[p]?.getD default)) (l[p]?.getD default)
        have hr := rows_addQ encTFind (bkQ (l.take p)) (likeK (l[p]?.getD default)) (l[p]?.getD default) _ rfl
        have hgl : (getGQ (bkQ (l.take p)) (likeK (l[p]?.getD default))).length ≤ p := by
          rw [bkQ, getG_grpQ]
          have := List.length_filter_le (fun x => decide (likeK x = likeK (l[p]?.getD default))) (l.take p)
          simp at this ⊢; omega
        have htl := twP_len l p
        simp [hq2, hn]
        refine ⟨fun _ => ⟨hlt, by omega, fun y h1 h2 => ⟨by omega, by omega, by omega, ?_⟩, fun hno => ?_⟩, fun h => by omega⟩
        · have hyes : (l.take p).any (twin (l[p]?.getD default)) = true := by rw [← alike_any]; exact List.any_eq_true.2 ⟨y, h1, h2⟩
          refine Again.mk (p + 1) (by omega) ?_ (by first | omega | (simp; omega))
          simp [hs, twP_yes hyes]
          exact ⟨hk, hr⟩
        · have hno2 : (l.take p).any (twin (l[p]?.getD default)) = false := by rw [← alike_any]; exact List.any_eq_false.2 fun y hy => by simp [hno y hy]
          refine ⟨by omega, by omega, Again.mk (p + 1) (by omega) ?_ (by first | omega | (simp; omega))⟩
          simp [hs, twP_no hno2]
          exact ⟨hk, hr⟩
    · simp
      refine ⟨fun h => absurd h hlt, fun _ => ?_⟩
      rw [show p = l.length by omega]; exact ⟨rfl, rfl⟩
theorem c83_ok : c83.ok Try.prog := mkCon_ok fun l hpre => c83_pc l hpre
theorem any_take {l : List TFind} {k : Nat} {w : TFind → Bool} (h : k < l.length) : (l.take (k + 1)).any w = ((l.take k).any w || w (l[k]?.getD default)) := by
  rw [take_at (d := default) h]; simp
/-- loop.example/g03007/spec.TwinsOf -/
noncomputable def c81 : Con := mkCon 81 false (α := (List TFind)) (fun x => (fun (l : List TFind) => [encLTFind l]) x) (fun _ => []) (fun x => (fun (l : List TFind) => l.length ≤ 1073741823) x) (fun x => (fun (l : List TFind) => (.own (0, 1) 1 0 (mTwinsOf l).length : D)) x) (fun x => (fun (l : List TFind) => [((0, 1), .arr false 1 (dI 0) (ML dI (mTwinsOf l)))]) x)
@[simp] theorem c81_f : c81.f = 81 := rfl
@[simp] theorem c81_own : c81.own = false := rfl
theorem c81_inj : ∀ u_ v_ : (List TFind), ((fun x => (fun (l : List TFind) => [encLTFind l]) x) u_).map nz = ((fun x => (fun (l : List TFind) => [encLTFind l]) x) v_).map nz → u_ = v_ := by
  intro u_ v_ h
  obtain l := u_
  obtain l' := v_
  simp [nz_lit, nz1_lit, nz_agg, nz_sl, nz1_sl, encLTFind] at h
  first | (simp [h]; done) | (obtain ⟨⟩ := h; simp_all; done) | simp_all
@[simp] theorem c81_fn (l : List TFind) : c81.fn [.sl false 8 yTFind (ML encTFind l)] [] = some ((fun (l : List TFind) => l.length ≤ 1073741823) l, (fun (l : List TFind) => (.own (0, 1) 1 0 (mTwinsOf l).length : D)) l, (fun (l : List TFind) => [((0, 1), .arr false 1 (dI 0) (ML dI (mTwinsOf l)))]) l) :=
  mkCon_fn (fun x y h _ => c81_inj x y h) (l : (List TFind)) (by simp [nz, nz1, ML_nil, encLTFind]) rfl
@[simp] theorem c81_fn1 (s_l : Nat) (z_l : D) : c81.fn [.sl false s_l z_l []] [] = some ((fun (l : List TFind) => l.length ≤ 1073741823) [], (fun (l : List TFind) => (.own (0, 1) 1 0 (mTwinsOf l).length : D)) [], (fun (l : List TFind) => [((0, 1), .arr false 1 (dI 0) (ML dI (mTwinsOf l)))]) []) :=
  mkCon_fn (fun x y h _ => c81_inj x y h) ([] : (List TFind)) (by simp [nz, nz1, ML_nil, encLTFind]) rfl
theorem c81_pc (l : List TFind) (hpre : l.length ≤ 1073741823) : PCo Try.prog 81 [encLTFind l] (Tab.of []) (.own (0, 1) 1 0 (mTwinsOf l).length) (Tab.of [((0, 1), .arr false 1 (dI 0) (ML dI (mTwinsOf l)))]) := by
  refine pco_of_run [] (E := ⟨[c130, c131], []⟩) (m := false) (base := 0) (Env.ok_cons c130_ok (Env.ok_cons c131_ok Env.ok_nil)) G_ok mix 300 6 Try.func81 (by kernel_rfl) rfl (by kernel_rfl) (by kernel_rfl) rfl ?_
  simp [Try.f81]
  cases ha : mAreFinds l with
  | false =>
    have hm : mTwinsOf l = [] := by rw [mTwinsOf, ha]; rfl
    rw [hm]
    refine loop_unroll 400 ?_
    simp [ha]
    omega
  | true =>
    have hm : mTwinsOf l = twP l l.length := by rw [mTwinsOf, ha]; rfl
    rw [hm]
    refine loop_inv (fun p : Nat => p ≤ l.length) (fun p => [(0, encLTFind l), (3, .own (0, 1) 1 0 (twP l p).length), (4, dI p)]) (fun p => [((0, 1), .arr false 1 (dI 0) (ML dI (twP l p)))]) 2 (fun p => l.length - p) 0 400 (by simp) (by simp) (by simp [twP]) ?_
    intro p hp
    simp [ha]
    refine ⟨fun _ => by omega, fun hlt => ?_, fun hge => ?_⟩
    · refine loop_inv (fun k : Nat => k ≤ p) (fun k => [(0, encLTFind l), (3, .own (0, 1) 1 0 (twP l p).length), (4, dI p), (5, dB ((l.take k).any (twin (l[p]?.getD default)))), (6, dI k)]) (fun k => [((0, 1), .arr false 1 (dI 0) (ML dI (twP l p)))]) 3 (fun k => p - k) 0 400 (by simp) (by simp) (by simp) ?_
      intro k hk
      simp
      refine ⟨fun hkp => ⟨⟨fun _ => by omega, fun _ => by omega⟩, by omega, Again.mk (k + 1) (by omega) ?_ (by first | omega | (simp; omega))⟩, fun hkp => ?_⟩
      · have hat := any_take (l := l) (k := k) (w := twin (l[p]?.getD default)) (by omega)
        simp [hat, -List.any_eq_true]
        rfl
      · have hkp2 : k = p := by omega
        subst hkp2
        have htl := twP_len l k
        refine ⟨fun y h1 h2 => ⟨⟨hlt, by omega⟩, by omega, ?_⟩, fun hno => ⟨by omega, ?_⟩⟩
        · have hyes : (l.take k).any (twin (l[k]?.getD default)) = true := List.any_eq_true.2 ⟨y, h1, h2⟩
          refine Again.mk (k + 1) (by omega) ?_ (by first | omega | (simp; omega))
          simp [twP_yes hyes]
        · have hno2 : (l.take k).any (twin (l[k]?.getD default)) = false := List.any_eq_false.2 fun y hy => by simp [hno y hy]
          refine Again.mk (k + 1) (by omega) ?_ (by first | omega | (simp; omega))
          simp [twP_no hno2]
    · rw [show p = l.length by omega]; exact ⟨rfl, rfl⟩
theorem c81_ok : c81.ok Try.prog := mkCon_ok fun l hpre => c81_pc l hpre
theorem mTwinsOf_len (l : List TFind) : (mTwinsOf l).length ≤ l.length := by
  have := twP_len l l.length
  simp only [mTwinsOf]; split
  · exact this
  · simp
/-- loop.example/g03007/laws.FnExactTwinsOf -/
theorem law20 (l : List TFind) (wl : wfLTFind l) : PCo Try.prog 20 [encLTFind l] (Tab.of []) (dB true) (Tab.of []) := by
  refine pco_of_run [] (E := ⟨[c39, c40, c41, c80, c81, c82, c83, c84, c85], []⟩) (m := false) (base := 0) (Env.ok_cons c39_ok (Env.ok_cons c40_ok (Env.ok_cons c41_ok (Env.ok_cons c80_ok (Env.ok_cons c81_ok (Env.ok_cons c82_ok (Env.ok_cons c83_ok (Env.ok_cons c84_ok (Env.ok_cons c85_ok Env.ok_nil))))))))) G_ok mix 400 6 Try.func20 (by kernel_rfl) rfl (by kernel_rfl) (by kernel_rfl) rfl ?_
  simp (config := {maxSteps := 3000000}) [Try.f20]
  have h1 : l.length ≤ maxLen := wl.1
  have hb := mTwinsOf_len l
  refine ⟨h1, fun h => ?_⟩
  split at h
  · omega
  · repeat' (first | omega | refine And.intro ?_ ?_ | intro _)
theorem law20_pc (D0 : D) (h0 : Sh G 9 81 D0) : PC Try.prog 20 [D0] (dB true) [] := by
  obtain ⟨l, rfl, wl⟩ := sh81 (n := 5) h0
  exact law20 l wl

end Go.Proofs.Ytadbjlnfdjbbjaa
