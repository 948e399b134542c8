/- Contracts of the functions that the laws run. -/
import Derived.Test.Ytpnfkjbnhholfaach06
import Derived.Test.Ytpnfkjbnhholfaach01a
import Derived.Test.YtpnfkjbnhholfaahelpA
import Derived.Test.YtpnfkjbnhholfaaEngB
namespace Go.Proofs.Ytpnfkjbnhholfaa
open Go Go.Eng
set_option linter.unusedSimpArgs false
set_option linter.unusedVariables false
set_option maxRecDepth 10000
set_option maxHeartbeats 1000000
def placeIs (k : Int) (f : TFind) : Bool := decide (f.Place = k)
def heldIn (s : TSpan) (f : TFind) : Bool := mHolds s f.At
/-- loop.example/g03007/impl.FoundAt$1 -/
noncomputable def c80 : Con := mkCon 80 false (α := TFind × Int) (fun x => (fun (f : TFind) (k : Int) => ([encTFind f, .el (dI k)] : List D)) x.1 x.2) (fun x => (fun (f : TFind) (k : Int) => ([] : List (Nm × OO))) x.1 x.2) (fun x => (fun (f : TFind) (k : Int) => True) x.1 x.2) (fun x => (fun (f : TFind) (k : Int) => (dB (placeIs k f) : D)) x.1 x.2) (fun x => (fun (f : TFind) (k : Int) => ([] : List (Nm × OO))) x.1 x.2)
@[simp] theorem c80_f : c80.f = 80 := rfl
@[simp] theorem c80_own : c80.own = false := rfl
theorem c80_inj : ∀ u_ v_ : TFind × Int, ((fun x => (fun (f : TFind) (k : Int) => ([encTFind f, .el (dI k)] : List D)) x.1 x.2) u_).map nz = ((fun x => (fun (f : TFind) (k : Int) => ([encTFind f, .el (dI k)] : List D)) x.1 x.2) v_).map nz → (fun x => (fun (f : TFind) (k : Int) => ([] : List (Nm × OO))) x.1 x.2) u_ = (fun x => (fun (f : TFind) (k : Int) => ([] : List (Nm × OO))) x.1 x.2) v_ → u_ = v_ := by
  intro u_ v_ h h2_
  obtain ⟨⟨⟨f_Thing_Id, f_Thing_Kind, f_Thing_Colour, f_Thing_Size, f_Thing_Worth⟩, f_Place, f_At, f_Finder⟩, k⟩ := u_
  obtain ⟨⟨⟨f_Thing_Id', f_Thing_Kind', f_Thing_Colour', f_Thing_Size', f_Thing_Worth'⟩, f_Place', f_At', f_Finder'⟩, k'⟩ := v_
  simp [nz_lit, nz1_lit, nz_agg, nz_sl, nz1_sl, nz_sx, nz_el, nz1_el, nz_own, nz1_own, nz_ptr, nz_fn, nz_iface] at h h2_
  first | (simp [h, h2_]; done) | (obtain ⟨h3_, h4_⟩ := List.append_inj h2_ h.1; simp_all; done) | simp_all | grind
@[simp] theorem c80_fn (f_Thing_Id : Int) (f_Thing_Kind : Int) (f_Thing_Colour : Int) (f_Thing_Size : Int) (f_Thing_Worth : Int) (f_Place : Int) (f_At : Int) (f_Finder : Int) (k : Int) : c80.fn ([.agg [.lit (.int .i64 f_Thing_Id), .lit (.int .i64 f_Thing_Kind), .lit (.int .i64 f_Thing_Colour), .lit (.int .i64 f_Thing_Size), .lit (.int .i64 f_Thing_Worth), .lit (.int .i64 f_Place), .lit (.int .i64 f_At), .lit (.int .i64 f_Finder)], .el (dI k)]) ([]) = some (True, dB (placeIs k (⟨⟨f_Thing_Id, f_Thing_Kind, f_Thing_Colour, f_Thing_Size, f_Thing_Worth⟩, f_Place, f_At, f_Finder⟩ : TFind)), []) :=
  mkCon_fn c80_inj ((⟨⟨f_Thing_Id, f_Thing_Kind, f_Thing_Colour, f_Thing_Size, f_Thing_Worth⟩, f_Place, f_At, f_Finder⟩, k) : TFind × Int) rfl rfl
theorem c80_pc (f : TFind) (k : Int) : PCo Try.prog 80 ([encTFind f, .el (dI k)]) (Tab.of ([])) (dB (placeIs k f)) (Tab.of ([])) := by
  refine pco_of_run [] (E := ⟨[], [], []⟩) (m := false) (base := 0) Env.ok_nil G_ok mix 300 6 Try.func80 (by kernel_rfl) rfl (by kernel_rfl) (by kernel_rfl) rfl ?_
  simp [Try.f80]
  first | done | rfl
theorem c80_ok : c80.ok Try.prog := mkCon_ok fun ⟨f, k⟩ hpre => c80_pc f k
/-- loop.example/g03007/impl.FoundIn$1 -/
noncomputable def c82 : Con := mkCon 82 false (α := TFind × TSpan) (fun x => (fun (f : TFind) (s : TSpan) => ([encTFind f, .el (encTSpan s)] : List D)) x.1 x.2) (fun x => (fun (f : TFind) (s : TSpan) => ([] : List (Nm × OO))) x.1 x.2) (fun x => (fun (f : TFind) (s : TSpan) => True) x.1 x.2) (fun x => (fun (f : TFind) (s : TSpan) => (dB (heldIn s f) : D)) x.1 x.2) (fun x => (fun (f : TFind) (s : TSpan) => ([] : List (Nm × OO))) x.1 x.2)
@[simp] theorem c82_f : c82.f = 82 := rfl
@[simp] theorem c82_own : c82.own = false := rfl
theorem c82_inj : ∀ u_ v_ : TFind × TSpan, ((fun x => (fun (f : TFind) (s : TSpan) => ([encTFind f, .el (encTSpan s)] : List D)) x.1 x.2) u_).map nz = ((fun x => (fun (f : TFind) (s : TSpan) => ([encTFind f, .el (encTSpan s)] : List D)) x.1 x.2) v_).map nz → (fun x => (fun (f : TFind) (s : TSpan) => ([] : List (Nm × OO))) x.1 x.2) u_ = (fun x => (fun (f : TFind) (s : TSpan) => ([] : List (Nm × OO))) x.1 x.2) v_ → u_ = v_ := by
  intro u_ v_ h h2_
  obtain ⟨⟨⟨f_Thing_Id, f_Thing_Kind, f_Thing_Colour, f_Thing_Size, f_Thing_Worth⟩, f_Place, f_At, f_Finder⟩, ⟨s_From, s_Until⟩⟩ := u_
  obtain ⟨⟨⟨f_Thing_Id', f_Thing_Kind', f_Thing_Colour', f_Thing_Size', f_Thing_Worth'⟩, f_Place', f_At', f_Finder'⟩, ⟨s_From', s_Until'⟩⟩ := v_
  simp [nz_lit, nz1_lit, nz_agg, nz_sl, nz1_sl, nz_sx, nz_el, nz1_el, nz_own, nz1_own, nz_ptr, nz_fn, nz_iface] at h h2_
  first | (simp [h, h2_]; done) | (obtain ⟨h3_, h4_⟩ := List.append_inj h2_ h.1; simp_all; done) | simp_all | grind
@[simp] theorem c82_fn (f_Thing_Id : Int) (f_Thing_Kind : Int) (f_Thing_Colour : Int) (f_Thing_Size : Int) (f_Thing_Worth : Int) (f_Place : Int) (f_At : Int) (f_Finder : Int) (s_From : Int) (s_Until : Int) : c82.fn ([.agg [.lit (.int .i64 f_Thing_Id), .lit (.int .i64 f_Thing_Kind), .lit (.int .i64 f_Thing_Colour), .lit (.int .i64 f_Thing_Size), .lit (.int .i64 f_Thing_Worth), .lit (.int .i64 f_Place), .lit (.int .i64 f_At), .lit (.int .i64 f_Finder)], .el (.agg [.lit (.int .i64 s_From), .lit (.int .i64 s_Until)])]) ([]) = some (True, dB (heldIn (⟨s_From, s_Until⟩ : TSpan) (⟨⟨f_Thing_Id, f_Thing_Kind, f_Thing_Colour, f_Thing_Size, f_Thing_Worth⟩, f_Place, f_At, f_Finder⟩ : TFind)), []) :=
  mkCon_fn c82_inj ((⟨⟨f_Thing_Id, f_Thing_Kind, f_Thing_Colour, f_Thing_Size, f_Thing_Worth⟩, f_Place, f_At, f_Finder⟩, ⟨s_From, s_Until⟩) : TFind × TSpan) rfl rfl
theorem c82_pc (f : TFind) (s : TSpan) : PCo Try.prog 82 ([encTFind f, .el (encTSpan s)]) (Tab.of ([])) (dB (heldIn s f)) (Tab.of ([])) := by
  refine pco_of_run [] (E := ⟨[c18], [], []⟩) (m := false) (base := 0) (Env.ok_cons c18_ok Env.ok_nil) G_ok mix 300 6 Try.func82 (by kernel_rfl) rfl (by kernel_rfl) (by kernel_rfl) rfl ?_
  simp [Try.f82]
  first | done | rfl
theorem c82_ok : c82.ok Try.prog := mkCon_ok fun ⟨f, s⟩ hpre => c82_pc f s
/-- (loop.example/g03007/impl.sortedList[loop.example/g03007/impl.Find]).numbersWhere -/
noncomputable def c79_a : Con := mkCon 79 false (α := (List TFind) × Int) (fun x => (fun (l : List TFind) (k : Int) => ([.agg [encLTFind l, .fn (.func 144) [] []], .fn (.func 80) [] [.el (dI k)]] : List D)) x.1 x.2) (fun x => (fun (l : List TFind) (k : Int) => ([] : List (Nm × OO))) x.1 x.2) (fun x => (fun (l : List TFind) (k : Int) => l.length ≤ 1073741823) x.1 x.2) (fun x => (fun (l : List TFind) (k : Int) => (.own (0, 1) 1 0 (pick (placeIs k) nFind l).length : D)) x.1 x.2) (fun x => (fun (l : List TFind) (k : Int) => ([((0, 1), .arr false 1 (dI 0) (ML dI (pick (placeIs k) nFind l)))] : List (Nm × OO))) x.1 x.2)
@[simp] theorem c79_a_f : c79_a.f = 79 := rfl
@[simp] theorem c79_a_own : c79_a.own = false := rfl
theorem c79_a_inj : ∀ u_ v_ : (List TFind) × Int, ((fun x => (fun (l : List TFind) (k : Int) => ([.agg [encLTFind l, .fn (.func 144) [] []], .fn (.func 80) [] [.el (dI k)]] : List D)) x.1 x.2) u_).map nz = ((fun x => (fun (l : List TFind) (k : Int) => ([.agg [encLTFind l, .fn (.func 144) [] []], .fn (.func 80) [] [.el (dI k)]] : List D)) x.1 x.2) v_).map nz → (fun x => (fun (l : List TFind) (k : Int) => ([] : List (Nm × OO))) x.1 x.2) u_ = (fun x => (fun (l : List TFind) (k : Int) => ([] : List (Nm × OO))) x.1 x.2) v_ → u_ = v_ := by
  intro u_ v_ h h2_
  obtain ⟨l, k⟩ := u_
  obtain ⟨l', k'⟩ := v_
  simp [nz_lit, nz1_lit, nz_agg, nz_sl, nz1_sl, nz_sx, nz_el, nz1_el, nz_own, nz1_own, nz_ptr, nz_fn, nz_iface] at h h2_
  first | (simp [h, h2_]; done) | (obtain ⟨h3_, h4_⟩ := List.append_inj h2_ h.1; simp_all; done) | simp_all | grind
@[simp] theorem c79_a_fn (l : List TFind) (k : Int) : c79_a.fn ([.agg [(.sl false 8 yTFind (ML encTFind l)), .fn (.func 144) [] []], .fn (.func 80) [] [.el (dI k)]]) ([]) = some (l.length ≤ 1073741823, .own (0, 1) 1 0 (pick (placeIs k) nFind l).length, [((0, 1), .arr false 1 (dI 0) (ML dI (pick (placeIs k) nFind l)))]) :=
  mkCon_fn c79_a_inj ((l, k) : (List TFind) × Int) rfl rfl
theorem c79_a_pc (l : List TFind) (k : Int) (hpre : l.length ≤ 1073741823) : PCo Try.prog 79 ([.agg [encLTFind l, .fn (.func 144) [] []], .fn (.func 80) [] [.el (dI k)]]) (Tab.of ([])) (.own (0, 1) 1 0 (pick (placeIs k) nFind l).length) (Tab.of ([((0, 1), .arr false 1 (dI 0) (ML dI (pick (placeIs k) nFind l)))])) := by
  refine pco_of_run [] (E := ⟨[c80, c144], [], []⟩) (m := false) (base := 0) (Env.ok_cons c80_ok (Env.ok_cons c144_ok Env.ok_nil)) G_ok mix 300 6 Try.func79 (by kernel_rfl) rfl (by kernel_rfl) (by kernel_rfl) rfl ?_
  simp [Try.f79]
  refine loop_inv (fun p : Nat => p ≤ l.length) (fun p => [(1, .fn (.func 80) [] [.el (dI k)]), (2, .ptr (0, 1) 0), (5, .own (1, 1) 1 0 (pick (placeIs k) nFind (l.take p)).length), (10, encLTFind l), (11, dI l.length), (12, dI p)]) (fun p => [((0, 1), .box (.agg [encLTFind l, .fn (.func 144) [] []])), ((1, 1), .arr false 1 (dI 0) (ML dI (pick (placeIs k) nFind (l.take p))))]) 2 (fun p => l.length - p) 0 400 (by simp) (by simp) (by simp) ?_
  intro p hp
  simp
  refine ⟨fun hlt => ?_, fun hge => ?_⟩
  · have hs := pick_at (want := placeIs k) (f := nFind) (d := default) hlt
    have hb := pick_take_len (want := placeIs k) (f := nFind) l p
    have hsT : placeIs k (l[p]?.getD default) = true → pick (placeIs k) nFind (l.take (p + 1)) = pick (placeIs k) nFind (l.take p) ++ [nFind (l[p]?.getD default)] := fun h => by rw [hs, if_pos h]
    have hsF : placeIs k (l[p]?.getD default) = false → pick (placeIs k) nFind (l.take (p + 1)) = pick (placeIs k) nFind (l.take p) := fun h => by rw [hs, if_neg (by simp [h]), List.append_nil]
    repeat' (first | omega | refine And.intro ?_ ?_ | intro _)
    all_goals first | (have hw := hsT (by assumption); exact Again.mk (p + 1) (by omega) (by simp [hw]) (by first | omega | (simp; omega))) | (have hw := hsF (by assumption); exact Again.mk (p + 1) (by omega) (by simp [hw]) (by first | omega | (simp; omega)))
  · rw [List.take_of_length_le hge]; simp
theorem c79_a_ok : c79_a.ok Try.prog := mkCon_ok fun ⟨l, k⟩ hpre => c79_a_pc l k hpre
/-- (loop.example/g03007/impl.sortedList[loop.example/g03007/impl.Find]).numbersWhere -/
noncomputable def c79_s : Con := mkCon 79 false (α := (List TFind) × TSpan) (fun x => (fun (l : List TFind) (s : TSpan) => ([.agg [encLTFind l, .fn (.func 144) [] []], .fn (.func 82) [] [.el (encTSpan s)]] : List D)) x.1 x.2) (fun x => (fun (l : List TFind) (s : TSpan) => ([] : List (Nm × OO))) x.1 x.2) (fun x => (fun (l : List TFind) (s : TSpan) => l.length ≤ 1073741823) x.1 x.2) (fun x => (fun (l : List TFind) (s : TSpan) => (.own (0, 1) 1 0 (pick (heldIn s) nFind l).length : D)) x.1 x.2) (fun x => (fun (l : List TFind) (s : TSpan) => ([((0, 1), .arr false 1 (dI 0) (ML dI (pick (heldIn s) nFind l)))] : List (Nm × OO))) x.1 x.2)
@[simp] theorem c79_s_f : c79_s.f = 79 := rfl
@[simp] theorem c79_s_own : c79_s.own = false := rfl
theorem c79_s_inj : ∀ u_ v_ : (List TFind) × TSpan, ((fun x => (fun (l : List TFind) (s : TSpan) => ([.agg [encLTFind l, .fn (.func 144) [] []], .fn (.func 82) [] [.el (encTSpan s)]] : List D)) x.1 x.2) u_).map nz = ((fun x => (fun (l : List TFind) (s : TSpan) => ([.agg [encLTFind l, .fn (.func 144) [] []], .fn (.func 82) [] [.el (encTSpan s)]] : List D)) x.1 x.2) v_).map nz → (fun x => (fun (l : List TFind) (s : TSpan) => ([] : List (Nm × OO))) x.1 x.2) u_ = (fun x => (fun (l : List TFind) (s : TSpan) => ([] : List (Nm × OO))) x.1 x.2) v_ → u_ = v_ := by
  intro u_ v_ h h2_
  obtain ⟨l, ⟨s_From, s_Until⟩⟩ := u_
  obtain ⟨l', ⟨s_From', s_Until'⟩⟩ := v_
  simp [nz_lit, nz1_lit, nz_agg, nz_sl, nz1_sl, nz_sx, nz_el, nz1_el, nz_own, nz1_own, nz_ptr, nz_fn, nz_iface] at h h2_
  first | (simp [h, h2_]; done) | (obtain ⟨h3_, h4_⟩ := List.append_inj h2_ h.1; simp_all; done) | simp_all | grind
@[simp] theorem c79_s_fn (l : List TFind) (s_From : Int) (s_Until : Int) : c79_s.fn ([.agg [(.sl false 8 yTFind (ML encTFind l)), .fn (.func 144) [] []], .fn (.func 82) [] [.el (.agg [.lit (.int .i64 s_From), .lit (.int .i64 s_Until)])]]) ([]) = some (l.length ≤ 1073741823, .own (0, 1) 1 0 (pick (heldIn (⟨s_From, s_Until⟩ : TSpan)) nFind l).length, [((0, 1), .arr false 1 (dI 0) (ML dI (pick (heldIn (⟨s_From, s_Until⟩ : TSpan)) nFind l)))]) :=
  mkCon_fn c79_s_inj ((l, ⟨s_From, s_Until⟩) : (List TFind) × TSpan) rfl rfl
theorem c79_s_pc (l : List TFind) (s : TSpan) (hpre : l.length ≤ 1073741823) : PCo Try.prog 79 ([.agg [encLTFind l, .fn (.func 144) [] []], .fn (.func 82) [] [.el (encTSpan s)]]) (Tab.of ([])) (.own (0, 1) 1 0 (pick (heldIn s) nFind l).length) (Tab.of ([((0, 1), .arr false 1 (dI 0) (ML dI (pick (heldIn s) nFind l)))])) := by
  refine pco_of_run [] (E := ⟨[c82, c144], [], []⟩) (m := false) (base := 0) (Env.ok_cons c82_ok (Env.ok_cons c144_ok Env.ok_nil)) G_ok mix 300 6 Try.func79 (by kernel_rfl) rfl (by kernel_rfl) (by kernel_rfl) rfl ?_
  simp [Try.f79]
  refine loop_inv (fun p : Nat => p ≤ l.length) (fun p => [(1, .fn (.func 82) [] [.el (encTSpan s)]), (2, .ptr (0, 1) 0), (5, .own (1, 1) 1 0 (pick (heldIn s) nFind (l.take p)).length), (10, encLTFind l), (11, dI l.length), (12, dI p)]) (fun p => [((0, 1), .box (.agg [encLTFind l, .fn (.func 144) [] []])), ((1, 1), .arr false 1 (dI 0) (ML dI (pick (heldIn s) nFind (l.take p))))]) 2 (fun p => l.length - p) 0 400 (by simp) (by simp) (by simp) ?_
  intro p hp
  simp
  refine ⟨fun hlt => ?_, fun hge => ?_⟩
  · have hs := pick_at (want := heldIn s) (f := nFind) (d := default) hlt
    have hb := pick_take_len (want := heldIn s) (f := nFind) l p
    have hsT : heldIn s (l[p]?.getD default) = true → pick (heldIn s) nFind (l.take (p + 1)) = pick (heldIn s) nFind (l.take p) ++ [nFind (l[p]?.getD default)] := fun h => by rw [hs, if_pos h]
    have hsF : heldIn s (l[p]?.getD default) = false → pick (heldIn s) nFind (l.take (p + 1)) = pick (heldIn s) nFind (l.take p) := fun h => by rw [hs, if_neg (by simp [h]), List.append_nil]
    repeat' (first | omega | refine And.intro ?_ ?_ | intro _)
    all_goals first | (have hw := hsT (by assumption); exact Again.mk (p + 1) (by omega) (by simp [hw]) (by first | omega | (simp; omega))) | (have hw := hsF (by assumption); exact Again.mk (p + 1) (by omega) (by simp [hw]) (by first | omega | (simp; omega)))
  · rw [List.take_of_length_le hge]; simp
theorem c79_s_ok : c79_s.ok Try.prog := mkCon_ok fun ⟨l, s⟩ hpre => c79_s_pc l s hpre
noncomputable def c79 : Con := selCon 79 false [([144, 80], c79_a), ([144, 82], c79_s)]
@[simp] theorem c79_f : c79.f = 79 := rfl
@[simp] theorem c79_own : c79.own = false := rfl
@[simp] theorem c79_fn0 (l : List TFind) (k : Int) : c79.fn ([.agg [(.sl false 8 yTFind (ML encTFind l)), .fn (.func 144) [] []], .fn (.func 80) [] [.el (dI k)]]) ([]) = some (l.length ≤ 1073741823, .own (0, 1) 1 0 (pick (placeIs k) nFind l).length, [((0, 1), .arr false 1 (dI 0) (ML dI (pick (placeIs k) nFind l)))]) := by
  rw [c79, selCon_fn]
  have h : selK [([144, 80], c79_a), ([144, 82], c79_s)] (keyDs ([.agg [(.sl false 8 yTFind (ML encTFind l)), .fn (.func 144) [] []], .fn (.func 80) [] [.el (dI k)]])) = some c79_a := by simp
  rw [h]
  exact c79_a_fn l k
@[simp] theorem c79_fn1 (l : List TFind) (s_From : Int) (s_Until : Int) : c79.fn ([.agg [(.sl false 8 yTFind (ML encTFind l)), .fn (.func 144) [] []], .fn (.func 82) [] [.el (.agg [.lit (.int .i64 s_From), .lit (.int .i64 s_Until)])]]) ([]) = some (l.length ≤ 1073741823, .own (0, 1) 1 0 (pick (heldIn (⟨s_From, s_Until⟩ : TSpan)) nFind l).length, [((0, 1), .arr false 1 (dI 0) (ML dI (pick (heldIn (⟨s_From, s_Until⟩ : TSpan)) nFind l)))]) := by
  rw [c79, selCon_fn]
  have h : selK [([144, 80], c79_a), ([144, 82], c79_s)] (keyDs ([.agg [(.sl false 8 yTFind (ML encTFind l)), .fn (.func 144) [] []], .fn (.func 82) [] [.el (.agg [.lit (.int .i64 s_From), .lit (.int .i64 s_Until)])]])) = some c79_s := by simp
  rw [h]
  exact c79_s_fn l s_From s_Until
theorem c79_ok : c79.ok Try.prog := selCon_ok fun p hp => by
  simp only [List.mem_cons, List.not_mem_nil, or_false] at hp
  rcases hp with rfl | rfl
  · exact ⟨rfl, c79_a_ok⟩
  · exact ⟨rfl, c79_s_ok⟩
/-- loop.example/g03007/impl.FoundAt -/
noncomputable def c15 : Con := mkCon 15 false (α := (List TFind) × Int) (fun x => (fun (l : List TFind) (k : Int) => [encLTFind l, dI k]) x.1 x.2) (fun _ => []) (fun x => (fun (l : List TFind) (k : Int) => l.length ≤ 1073741823) x.1 x.2) (fun x => (fun (l : List TFind) (k : Int) => (.own (0, 1) 1 0 (pick (placeIs k) nFind l).length : D)) x.1 x.2) (fun x => (fun (l : List TFind) (k : Int) => [((0, 1), .arr false 1 (dI 0) (ML dI (pick (placeIs k) nFind l)))]) x.1 x.2)
@[simp] theorem c15_f : c15.f = 15 := rfl
@[simp] theorem c15_own : c15.own = false := rfl
theorem c15_inj : ∀ u_ v_ : (List TFind) × Int, ((fun x => (fun (l : List TFind) (k : Int) => [encLTFind l, dI k]) x.1 x.2) u_).map nz = ((fun x => (fun (l : List TFind) (k : Int) => [encLTFind l, dI k]) x.1 x.2) v_).map nz → u_ = v_ := by
  intro u_ v_ h
  obtain ⟨l, k⟩ := u_
  obtain ⟨l', k'⟩ := v_
  simp [nz_lit, nz1_lit, nz_agg, nz_sl, nz1_sl, encLTFind] at h
  first | (simp [h]; done) | (obtain ⟨⟩ := h; simp_all; done) | simp_all
@[simp] theorem c15_fn (l : List TFind) (k : Int) : c15.fn [.sl false 8 yTFind (ML encTFind l), .lit (.int .i64 k)] [] = some ((fun (l : List TFind) (k : Int) => l.length ≤ 1073741823) l k, (fun (l : List TFind) (k : Int) => (.own (0, 1) 1 0 (pick (placeIs k) nFind l).length : D)) l k, (fun (l : List TFind) (k : Int) => [((0, 1), .arr false 1 (dI 0) (ML dI (pick (placeIs k) nFind l)))]) l k) :=
  mkCon_fn (fun x y h _ => c15_inj x y h) ((l, k) : (List TFind) × Int) (by simp [nz, nz1, ML_nil, encLTFind]) rfl
@[simp] theorem c15_fn1 (s_l : Nat) (z_l : D) (k : Int) : c15.fn [.sl false s_l z_l [], .lit (.int .i64 k)] [] = some ((fun (l : List TFind) (k : Int) => l.length ≤ 1073741823) [] k, (fun (l : List TFind) (k : Int) => (.own (0, 1) 1 0 (pick (placeIs k) nFind l).length : D)) [] k, (fun (l : List TFind) (k : Int) => [((0, 1), .arr false 1 (dI 0) (ML dI (pick (placeIs k) nFind l)))]) [] k) :=
  mkCon_fn (fun x y h _ => c15_inj x y h) (([], k) : (List TFind) × Int) (by simp [nz, nz1, ML_nil, encLTFind]) rfl
theorem c15_pc (l : List TFind) (k : Int) (hpre : l.length ≤ 1073741823) : PCo Try.prog 15 [encLTFind l, dI k] (Tab.of []) (.own (0, 1) 1 0 (pick (placeIs k) nFind l).length) (Tab.of [((0, 1), .arr false 1 (dI 0) (ML dI (pick (placeIs k) nFind l)))]) := by
  refine pco_of_run [] (E := ⟨[c74, c79, c80], [], []⟩) (m := false) (base := 0) (Env.ok_cons c74_ok (Env.ok_cons c79_ok (Env.ok_cons c80_ok Env.ok_nil))) G_ok mix 300 6 Try.func15 (by kernel_rfl) rfl (by kernel_rfl) (by kernel_rfl) rfl ?_
  simp [Try.f15]
  exact hpre
theorem c15_ok : c15.ok Try.prog := mkCon_ok fun ⟨l, k⟩ hpre => c15_pc l k hpre
/-- loop.example/g03007/impl.FoundIn -/
noncomputable def c17 : Con := mkCon 17 false (α := (List TFind) × TSpan) (fun x => (fun (l : List TFind) (s : TSpan) => [encLTFind l, encTSpan s]) x.1 x.2) (fun _ => []) (fun x => (fun (l : List TFind) (s : TSpan) => l.length ≤ 1073741823) x.1 x.2) (fun x => (fun (l : List TFind) (s : TSpan) => (.own (0, 1) 1 0 (pick (heldIn s) nFind l).length : D)) x.1 x.2) (fun x => (fun (l : List TFind) (s : TSpan) => [((0, 1), .arr false 1 (dI 0) (ML dI (pick (heldIn s) nFind l)))]) x.1 x.2)
@[simp] theorem c17_f : c17.f = 17 := rfl
@[simp] theorem c17_own : c17.own = false := rfl
theorem c17_inj : ∀ u_ v_ : (List TFind) × TSpan, ((fun x => (fun (l : List TFind) (s : TSpan) => [encLTFind l, encTSpan s]) x.1 x.2) u_).map nz = ((fun x => (fun (l : List TFind) (s : TSpan) => [encLTFind l, encTSpan s]) x.1 x.2) v_).map nz → u_ = v_ := by
  intro u_ v_ h
  obtain ⟨l, ⟨s_From, s_Until⟩⟩ := u_
  obtain ⟨l', ⟨s_From', s_Until'⟩⟩ := v_
  simp [nz_lit, nz1_lit, nz_agg, nz_sl, nz1_sl, encLTFind, encTSpan] at h
  first | (simp [h]; done) | (obtain ⟨⟩ := h; simp_all; done) | simp_all
@[simp] theorem c17_fn (l : List TFind) (s_From : Int) (s_Until : Int) : c17.fn [.sl false 8 yTFind (ML encTFind l), .agg [.lit (.int .i64 s_From), .lit (.int .i64 s_Until)]] [] = some ((fun (l : List TFind) (s : TSpan) => l.length ≤ 1073741823) l ⟨s_From, s_Until⟩, (fun (l : List TFind) (s : TSpan) => (.own (0, 1) 1 0 (pick (heldIn s) nFind l).length : D)) l ⟨s_From, s_Until⟩, (fun (l : List TFind) (s : TSpan) => [((0, 1), .arr false 1 (dI 0) (ML dI (pick (heldIn s) nFind l)))]) l ⟨s_From, s_Until⟩) :=
  mkCon_fn (fun x y h _ => c17_inj x y h) ((l, ⟨s_From, s_Until⟩) : (List TFind) × TSpan) (by simp [nz, nz1, ML_nil, encLTFind, encTSpan]) rfl
@[simp] theorem c17_fn1 (s_l : Nat) (z_l : D) (s_From : Int) (s_Until : Int) : c17.fn [.sl false s_l z_l [], .agg [.lit (.int .i64 s_From), .lit (.int .i64 s_Until)]] [] = some ((fun (l : List TFind) (s : TSpan) => l.length ≤ 1073741823) [] ⟨s_From, s_Until⟩, (fun (l : List TFind) (s : TSpan) => (.own (0, 1) 1 0 (pick (heldIn s) nFind l).length : D)) [] ⟨s_From, s_Until⟩, (fun (l : List TFind) (s : TSpan) => [((0, 1), .arr false 1 (dI 0) (ML dI (pick (heldIn s) nFind l)))]) [] ⟨s_From, s_Until⟩) :=
  mkCon_fn (fun x y h _ => c17_inj x y h) (([], ⟨s_From, s_Until⟩) : (List TFind) × TSpan) (by simp [nz, nz1, ML_nil, encLTFind, encTSpan]) rfl
theorem c17_pc (l : List TFind) (s : TSpan) (hpre : l.length ≤ 1073741823) : PCo Try.prog 17 [encLTFind l, encTSpan s] (Tab.of []) (.own (0, 1) 1 0 (pick (heldIn s) nFind l).length) (Tab.of [((0, 1), .arr false 1 (dI 0) (ML dI (pick (heldIn s) nFind l)))]) := by
  refine pco_of_run [] (E := ⟨[c74, c79, c82], [], []⟩) (m := false) (base := 0) (Env.ok_cons c74_ok (Env.ok_cons c79_ok (Env.ok_cons c82_ok Env.ok_nil))) G_ok mix 300 6 Try.func17 (by kernel_rfl) rfl (by kernel_rfl) (by kernel_rfl) rfl ?_
  simp [Try.f17]
  exact hpre
theorem c17_ok : c17.ok Try.prog := mkCon_ok fun ⟨l, s⟩ hpre => c17_pc l s hpre
end Go.Proofs.Ytpnfkjbnhholfaa
