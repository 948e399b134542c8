/- Contracts of the functions that the laws run. -/
import Derived.Test.Ytkccphdoolpmaaach06
import Derived.Test.Ytkccphdoolpmaaach01a
import Derived.Test.YtkccphdoolpmaaahelpA
import Derived.Test.YtkccphdoolpmaaaEngB
namespace Go.Proofs.Ytkccphdoolpmaaa
open Go Go.Eng
set_option linter.unusedSimpArgs false
set_option linter.unusedVariables false
set_option maxRecDepth 10000
set_option maxHeartbeats 1000000
def placeIs (k : Int) (f : TFind) : Bool := decide (f.Place = k)
def heldIn (s : TSpan) (f : TFind) : Bool := mHolds s f.At
/-- loop.example/g03007/impl.FoundAt$1 -/
noncomputable def c94 : Con := mkCon 94 false (α := TFind × Int) (fun x => (fun (f : TFind) (k : Int) => ([encTFind f, .el (dI k)] : List D)) x.1 x.2) (fun x => (fun (f : TFind) (k : Int) => ([] : List (Nm × OO))) x.1 x.2) (fun x => (fun (f : TFind) (k : Int) => True) x.1 x.2) (fun x => (fun (f : TFind) (k : Int) => (dB (placeIs k f) : D)) x.1 x.2) (fun x => (fun (f : TFind) (k : Int) => ([] : List (Nm × OO))) x.1 x.2)
@[simp] theorem c94_f : c94.f = 94 := rfl
@[simp] theorem c94_own : c94.own = false := rfl
theorem c94_inj : ∀ u_ v_ : TFind × Int, ((fun x => (fun (f : TFind) (k : Int) => ([encTFind f, .el (dI k)] : List D)) x.1 x.2) u_).map nz = ((fun x => (fun (f : TFind) (k : Int) => ([encTFind f, .el (dI k)] : List D)) x.1 x.2) v_).map nz → (fun x => (fun (f : TFind) (k : Int) => ([] : List (Nm × OO))) x.1 x.2) u_ = (fun x => (fun (f : TFind) (k : Int) => ([] : List (Nm × OO))) x.1 x.2) v_ → u_ = v_ := by
  intro u_ v_ h h2_
  obtain ⟨⟨⟨f_Thing_Id, f_Thing_Kind, f_Thing_Colour, f_Thing_Size, f_Thing_Worth⟩, f_Place, f_At, f_Finder⟩, k⟩ := u_
  obtain ⟨⟨⟨f_Thing_Id', f_Thing_Kind', f_Thing_Colour', f_Thing_Size', f_Thing_Worth'⟩, f_Place', f_At', f_Finder'⟩, k'⟩ := v_
  simp [nz_lit, nz1_lit, nz_agg, nz_sl, nz1_sl, nz_sx, nz_el, nz1_el, nz_own, nz1_own, nz_ptr, nz_fn, nz_iface] at h h2_
  first | (simp [h, h2_]; done) | simp_all | grind
@[simp] theorem c94_fn (f_Thing_Id : Int) (f_Thing_Kind : Int) (f_Thing_Colour : Int) (f_Thing_Size : Int) (f_Thing_Worth : Int) (f_Place : Int) (f_At : Int) (f_Finder : Int) (k : Int) : c94.fn ([.agg [.lit (.int .i64 f_Thing_Id), .lit (.int .i64 f_Thing_Kind), .lit (.int .i64 f_Thing_Colour), .lit (.int .i64 f_Thing_Size), .lit (.int .i64 f_Thing_Worth), .lit (.int .i64 f_Place), .lit (.int .i64 f_At), .lit (.int .i64 f_Finder)], .el (dI k)]) ([]) = some (True, dB (placeIs k (⟨⟨f_Thing_Id, f_Thing_Kind, f_Thing_Colour, f_Thing_Size, f_Thing_Worth⟩, f_Place, f_At, f_Finder⟩ : TFind)), []) :=
  mkCon_fn c94_inj ((⟨⟨f_Thing_Id, f_Thing_Kind, f_Thing_Colour, f_Thing_Size, f_Thing_Worth⟩, f_Place, f_At, f_Finder⟩, k) : TFind × Int) rfl rfl
theorem c94_pc (f : TFind) (k : Int) : PCo Try.prog 94 ([encTFind f, .el (dI k)]) (Tab.of ([])) (dB (placeIs k f)) (Tab.of ([])) := by
  refine pco_of_run [] (E := ⟨[], []⟩) (m := false) (base := 0) Env.ok_nil G_ok mix 300 6 Try.func94 (by kernel_rfl) rfl (by kernel_rfl) (by kernel_rfl) rfl ?_
  simp [Try.f94]
  first | done | rfl
theorem c94_ok : c94.ok Try.prog := mkCon_ok fun ⟨f, k⟩ hpre => c94_pc f k
/-- loop.example/g03007/impl.FoundIn$1 -/
noncomputable def c96 : Con := mkCon 96 false (α := TFind × TSpan) (fun x => (fun (f : TFind) (s : TSpan) => ([encTFind f, .el (encTSpan s)] : List D)) x.1 x.2) (fun x => (fun (f : TFind) (s : TSpan) => ([] : List (Nm × OO))) x.1 x.2) (fun x => (fun (f : TFind) (s : TSpan) => True) x.1 x.2) (fun x => (fun (f : TFind) (s : TSpan) => (dB (heldIn s f) : D)) x.1 x.2) (fun x => (fun (f : TFind) (s : TSpan) => ([] : List (Nm × OO))) x.1 x.2)
@[simp] theorem c96_f : c96.f = 96 := rfl
@[simp] theorem c96_own : c96.own = false := rfl
theorem c96_inj : ∀ u_ v_ : TFind × TSpan, ((fun x => (fun (f : TFind) (s : TSpan) => ([encTFind f, .el (encTSpan s)] : List D)) x.1 x.2) u_).map nz = ((fun x => (fun (f : TFind) (s : TSpan) => ([encTFind f, .el (encTSpan s)] : List D)) x.1 x.2) v_).map nz → (fun x => (fun (f : TFind) (s : TSpan) => ([] : List (Nm × OO))) x.1 x.2) u_ = (fun x => (fun (f : TFind) (s : TSpan) => ([] : List (Nm × OO))) x.1 x.2) v_ → u_ = v_ := by
  intro u_ v_ h h2_
  obtain ⟨⟨⟨f_Thing_Id, f_Thing_Kind, f_Thing_Colour, f_Thing_Size, f_Thing_Worth⟩, f_Place, f_At, f_Finder⟩, ⟨s_From, s_Until⟩⟩ := u_
  obtain ⟨⟨⟨f_Thing_Id', f_Thing_Kind', f_Thing_Colour', f_Thing_Size', f_Thing_Worth'⟩, f_Place', f_At', f_Finder'⟩, ⟨s_From', s_Until'⟩⟩ := v_
  simp [nz_lit, nz1_lit, nz_agg, nz_sl, nz1_sl, nz_sx, nz_el, nz1_el, nz_own, nz1_own, nz_ptr, nz_fn, nz_iface] at h h2_
  first | (simp [h, h2_]; done) | simp_all | grind
@[simp] theorem c96_fn (f_Thing_Id : Int) (f_Thing_Kind : Int) (f_Thing_Colour : Int) (f_Thing_Size : Int) (f_Thing_Worth : Int) (f_Place : Int) (f_At : Int) (f_Finder : Int) (s_From : Int) (s_Until : Int) : c96.fn ([.agg [.lit (.int .i64 f_Thing_Id), .lit (.int .i64 f_Thing_Kind), .lit (.int .i64 f_Thing_Colour), .lit (.int .i64 f_Thing_Size), .lit (.int .i64 f_Thing_Worth), .lit (.int .i64 f_Place), .lit (.int .i64 f_At), .lit (.int .i64 f_Finder)], .el (.agg [.lit (.int .i64 s_From), .lit (.int .i64 s_Until)])]) ([]) = some (True, dB (heldIn (⟨s_From, s_Until⟩ : TSpan) (⟨⟨f_Thing_Id, f_Thing_Kind, f_Thing_Colour, f_Thing_Size, f_Thing_Worth⟩, f_Place, f_At, f_Finder⟩ : TFind)), []) :=
  mkCon_fn c96_inj ((⟨⟨f_Thing_Id, f_Thing_Kind, f_Thing_Colour, f_Thing_Size, f_Thing_Worth⟩, f_Place, f_At, f_Finder⟩, ⟨s_From, s_Until⟩) : TFind × TSpan) rfl rfl
theorem c96_pc (f : TFind) (s : TSpan) : PCo Try.prog 96 ([encTFind f, .el (encTSpan s)]) (Tab.of ([])) (dB (heldIn s f)) (Tab.of ([])) := by
  refine pco_of_run [] (E := ⟨[c97], []⟩) (m := false) (base := 0) (Env.ok_cons c97_ok Env.ok_nil) G_ok mix 300 6 Try.func96 (by kernel_rfl) rfl (by kernel_rfl) (by kernel_rfl) rfl ?_
  simp [Try.f96]
  first | done | rfl
theorem c96_ok : c96.ok Try.prog := mkCon_ok fun ⟨f, s⟩ hpre => c96_pc f s
/-- (loop.example/g03007/impl.sortedList[loop.example/g03007/impl.Find]).numbersWhere -/
noncomputable def c93_a : Con := mkCon 93 false (α := (List TFind) × Int) (fun x => (fun (l : List TFind) (k : Int) => ([.agg [encLTFind l, .fn (.func 131) [] []], .fn (.func 94) [] [.el (dI k)]] : List D)) x.1 x.2) (fun x => (fun (l : List TFind) (k : Int) => ([] : List (Nm × OO))) x.1 x.2) (fun x => (fun (l : List TFind) (k : Int) => l.length ≤ 1073741823) x.1 x.2) (fun x => (fun (l : List TFind) (k : Int) => (.own (0, 1) 1 0 (pick (placeIs k) nFind l).length : D)) x.1 x.2) (fun x => (fun (l : List TFind) (k : Int) => ([((0, 1), .arr false 1 (dI 0) (ML dI (pick (placeIs k) nFind l)))] : List (Nm × OO))) x.1 x.2)
@[simp] theorem c93_a_f : c93_a.f = 93 := rfl
@[simp] theorem c93_a_own : c93_a.own = false := rfl
theorem c93_a_inj : ∀ u_ v_ : (List TFind) × Int, ((fun x => (fun (l : List TFind) (k : Int) => ([.agg [encLTFind l, .fn (.func 131) [] []], .fn (.func 94) [] [.el (dI k)]] : List D)) x.1 x.2) u_).map nz = ((fun x => (fun (l : List TFind) (k : Int) => ([.agg [encLTFind l, .fn (.func 131) [] []], .fn (.func 94) [] [.el (dI k)]] : List D)) x.1 x.2) v_).map nz → (fun x => (fun (l : List TFind) (k : Int) => ([] : List (Nm × OO))) x.1 x.2) u_ = (fun x => (fun (l : List TFind) (k : Int) => ([] : List (Nm × OO))) x.1 x.2) v_ → u_ = v_ := by
  intro u_ v_ h h2_
  obtain ⟨l, k⟩ := u_
  obtain ⟨l', k'⟩ := v_
  simp [nz_lit, nz1_lit, nz_agg, nz_sl, nz1_sl, nz_sx, nz_el, nz1_el, nz_own, nz1_own, nz_ptr, nz_fn, nz_iface] at h h2_
  first | (simp [h, h2_]; done) | simp_all | grind
@[simp] theorem c93_a_fn (l : List TFind) (k : Int) : c93_a.fn ([.agg [(.sl false 8 yTFind (ML encTFind l)), .fn (.func 131) [] []], .fn (.func 94) [] [.el (dI k)]]) ([]) = some (l.length ≤ 1073741823, .own (0, 1) 1 0 (pick (placeIs k) nFind l).length, [((0, 1), .arr false 1 (dI 0) (ML dI (pick (placeIs k) nFind l)))]) :=
  mkCon_fn c93_a_inj ((l, k) : (List TFind) × Int) rfl rfl
theorem c93_a_pc (l : List TFind) (k : Int) (hpre : l.length ≤ 1073741823) : PCo Try.prog 93 ([.agg [encLTFind l, .fn (.func 131) [] []], .fn (.func 94) [] [.el (dI k)]]) (Tab.of ([])) (.own (0, 1) 1 0 (pick (placeIs k) nFind l).length) (Tab.of ([((0, 1), .arr false 1 (dI 0) (ML dI (pick (placeIs k) nFind l)))])) := by
  refine pco_of_run [] (E := ⟨[c94, c131], []⟩) (m := false) (base := 0) (Env.ok_cons c94_ok (Env.ok_cons c131_ok Env.ok_nil)) G_ok mix 300 6 Try.func93 (by kernel_rfl) rfl (by kernel_rfl) (by kernel_rfl) rfl ?_
  simp [Try.f93]
  refine loop_inv (fun p : Nat => p ≤ l.length) (fun p => [(1, .fn (.func 94) [] [.el (dI k)]), (2, .ptr (0, 1) 0), (5, .own (1, 1) 1 0 (pick (placeIs k) nFind (l.take p)).length), (10, encLTFind l), (11, dI l.length), (12, dI p)]) (fun p => [((0, 1), .box (.agg [encLTFind l, .fn (.func 131) [] []])), ((1, 1), .arr false 1 (dI 0) (ML dI (pick (placeIs k) nFind (l.take p))))]) 2 (fun p => l.length - p) 0 400 (by simp) (by simp) (by simp) ?_
  intro p hp
  simp
  refine ⟨fun hlt => ?_, fun hge => ?_⟩
  · have hs := pick_at (want := placeIs k) (f := nFind) (d := default) hlt
    have hb := pick_take_len (want := placeIs k) (f := nFind) l p
    have hsT : placeIs k (l[p]?.getD default) = true → pick (placeIs k) nFind (l.take (p + 1)) = pick (placeIs k) nFind (l.take p) ++ [nFind (l[p]?.getD default)] := fun h => by rw [hs, if_pos h]
    have hsF : placeIs k (l[p]?.getD default) = false → pick (placeIs k) nFind (l.take (p + 1)) = pick (placeIs k) nFind (l.take p) := fun h => by rw [hs, if_neg (by simp [h]), List.append_nil]
    repeat' (first | omega | refine And.intro ?_ ?_ | intro _)
    all_goals first | (have hw := hsT (by assumption); exact Again.mk (p + 1) (by omega) (by simp [hw]) (by first | omega | (simp; omega))) | (have hw := hsF (by assumption); exact Again.mk (p + 1) (by omega) (by simp [hw]) (by first | omega | (simp; omega)))
  · rw [List.take_of_length_le hge]; simp
theorem c93_a_ok : c93_a.ok Try.prog := mkCon_ok fun ⟨l, k⟩ hpre => c93_a_pc l k hpre
/-- (loop.example/g03007/impl.sortedList[loop.example/g03007/impl.Find]).numbersWhere -/
noncomputable def c93_s : Con := mkCon 93 false (α := (List TFind) × TSpan) (fun x => (fun (l : List TFind) (s : TSpan) => ([.agg [encLTFind l, .fn (.func 131) [] []], .fn (.func 96) [] [.el (encTSpan s)]] : List D)) x.1 x.2) (fun x => (fun (l : List TFind) (s : TSpan) => ([] : List (Nm × OO))) x.1 x.2) (fun x => (fun (l : List TFind) (s : TSpan) => l.length ≤ 1073741823) x.1 x.2) (fun x => (fun (l : List TFind) (s : TSpan) => (.own (0, 1) 1 0 (pick (heldIn s) nFind l).length : D)) x.1 x.2) (fun x => (fun (l : List TFind) (s : TSpan) => ([((0, 1), .arr false 1 (dI 0) (ML dI (pick (heldIn s) nFind l)))] : List (Nm × OO))) x.1 x.2)
@[simp] theorem c93_s_f : c93_s.f = 93 := rfl
@[simp] theorem c93_s_own : c93_s.own = false := rfl
theorem c93_s_inj : ∀ u_ v_ : (List TFind) × TSpan, ((fun x => (fun (l : List TFind) (s : TSpan) => ([.agg [encLTFind l, .fn (.func 131) [] []], .fn (.func 96) [] [.el (encTSpan s)]] : List D)) x.1 x.2) u_).map nz = ((fun x => (fun (l : List TFind) (s : TSpan) => ([.agg [encLTFind l, .fn (.func 131) [] []], .fn (.func 96) [] [.el (encTSpan s)]] : List D)) x.1 x.2) v_).map nz → (fun x => (fun (l : List TFind) (s : TSpan) => ([] : List (Nm × OO))) x.1 x.2) u_ = (fun x => (fun (l : List TFind) (s : TSpan) => ([] : List (Nm × OO))) x.1 x.2) v_ → u_ = v_ := by
  intro u_ v_ h h2_
  obtain ⟨l, ⟨s_From, s_Until⟩⟩ := u_
  obtain ⟨l', ⟨s_From', s_Until'⟩⟩ := v_
  simp [nz_lit, nz1_lit, nz_agg, nz_sl, nz1_sl, nz_sx, nz_el, nz1_el, nz_own, nz1_own, nz_ptr, nz_fn, nz_iface] at h h2_
  first | (simp [h, h2_]; done) | simp_all | grind
@[simp] theorem c93_s_fn (l : List TFind) (s_From : Int) (s_Until : Int) : c93_s.fn ([.agg [(.sl false 8 yTFind (ML encTFind l)), .fn (.func 131) [] []], .fn (.func 96) [] [.el (.agg [.lit (.int .i64 s_From), .lit (.int .i64 s_Until)])]]) ([]) = some (l.length ≤ 1073741823, .own (0, 1) 1 0 (pick (heldIn (⟨s_From, s_Until⟩ : TSpan)) nFind l).length, [((0, 1), .arr false 1 (dI 0) (ML dI (pick (heldIn (⟨s_From, s_Until⟩ : TSpan)) nFind l)))]) :=
  mkCon_fn c93_s_inj ((l, ⟨s_From, s_Until⟩) : (List TFind) × TSpan) rfl rfl
theorem c93_s_pc (l : List TFind) (s : TSpan) (hpre : l.length ≤ 1073741823) : PCo Try.prog 93 ([.agg [encLTFind l, .fn (.func 131) [] []], .fn (.func 96) [] [.el (encTSpan s)]]) (Tab.of ([])) (.own (0, 1) 1 0 (pick (heldIn s) nFind l).length) (Tab.of ([((0, 1), .arr false 1 (dI 0) (ML dI (pick (heldIn s) nFind l)))])) := by
  refine pco_of_run [] (E := ⟨[c96, c131], []⟩) (m := false) (base := 0) (Env.ok_cons c96_ok (Env.ok_cons c131_ok Env.ok_nil)) G_ok mix 300 6 Try.func93 (by kernel_rfl) rfl (by kernel_rfl) (by kernel_rfl) rfl ?_
  simp [Try.f93]
  refine loop_inv (fun p : Nat => p ≤ l.length) (fun p => [(1, .fn (.func 96) [] [.el (encTSpan s)]), (2, .ptr (0, 1) 0), (5, .own (1, 1) 1 0 (pick (heldIn s) nFind (l.take p)).length), (10, encLTFind l), (11, dI l.length), (12, dI p)]) (fun p => [((0, 1), .box (.agg [encLTFind l, .fn (.func 131) [] []])), ((1, 1), .arr false 1 (dI 0) (ML dI (pick (heldIn s) nFind (l.take p))))]) 2 (fun p => l.length - p) 0 400 (by simp) (by simp) (by simp) ?_
  intro p hp
  simp
  refine ⟨fun hlt => ?_, fun hge => ?_⟩
  · have hs := pick_at (want := heldIn s) (f := nFind) (d := default) hlt
    have hb := pick_take_len (want := heldIn s) (f := nFind) l p
    have hsT : heldIn s (l[p]?.getD default) = true → pick (heldIn s) nFind (l.take (p + 1)) = pick (heldIn s) nFind (l.take p) ++ [nFind (l[p]?.getD default)] := fun h => by rw [hs, if_pos h]
    have hsF : heldIn s (l[p]?.getD default) = false → pick (heldIn s) nFind (l.take (p + 1)) = pick (heldIn s) nFind (l.take p) := fun h => by rw [hs, if_neg (by simp [h]), List.append_nil]
    repeat' (first | omega | refine And.intro ?_ ?_ | intro _)
    all_goals first | (have hw := hsT (by assumption); exact Again.mk (p + 1) (by omega) (by simp [hw]) (by first | omega | (simp; omega))) | (have hw := hsF (by assumption); exact Again.mk (p + 1) (by omega) (by simp [hw]) (by first | omega | (simp; omega)))
  · rw [List.take_of_length_le hge]; simp
theorem c93_s_ok : c93_s.ok Try.prog := mkCon_ok fun ⟨l, s⟩ hpre => c93_s_pc l s hpre
noncomputable def c93 : Con := selCon 93 false [([131, 94], c93_a), ([131, 96], c93_s)]
@[simp] theorem c93_f : c93.f = 93 := rfl
@[simp] theorem c93_own : c93.own = false := rfl
@[simp] theorem c93_fn0 (l : List TFind) (k : Int) : c93.fn ([.agg [(.sl false 8 yTFind (ML encTFind l)), .fn (.func 131) [] []], .fn (.func 94) [] [.el (dI k)]]) ([]) = some (l.length ≤ 1073741823, .own (0, 1) 1 0 (pick (placeIs k) nFind l).length, [((0, 1), .arr false 1 (dI 0) (ML dI (pick (placeIs k) nFind l)))]) := by
  rw [c93, selCon_fn]
  have h : selK [([131, 94], c93_a), ([131, 96], c93_s)] (keyDs ([.agg [(.sl false 8 yTFind (ML encTFind l)), .fn (.func 131) [] []], .fn (.func 94) [] [.el (dI k)]])) = some c93_a := by simp
  rw [h]
  exact c93_a_fn l k
@[simp] theorem c93_fn1 (l : List TFind) (s_From : Int) (s_Until : Int) : c93.fn ([.agg [(.sl false 8 yTFind (ML encTFind l)), .fn (.func 131) [] []], .fn (.func 96) [] [.el (.agg [.lit (.int .i64 s_From), .lit (.int .i64 s_Until)])]]) ([]) = some (l.length ≤ 1073741823, .own (0, 1) 1 0 (pick (heldIn (⟨s_From, s_Until⟩ : TSpan)) nFind l).length, [((0, 1), .arr false 1 (dI 0) (ML dI (pick (heldIn (⟨s_From, s_Until⟩ : TSpan)) nFind l)))]) := by
  rw [c93, selCon_fn]
  have h : selK [([131, 94], c93_a), ([131, 96], c93_s)] (keyDs ([.agg [(.sl false 8 yTFind (ML encTFind l)), .fn (.func 131) [] []], .fn (.func 96) [] [.el (.agg [.lit (.int .i64 s_From), .lit (.int .i64 s_Until)])]])) = some c93_s := by simp
  rw [h]
  exact c93_s_fn l s_From s_Until
theorem c93_ok : c93.ok Try.prog := selCon_ok fun p hp => by
  simp only [List.mem_cons, List.not_mem_nil, or_false] at hp
  rcases hp with rfl | rfl
  · exact ⟨rfl, c93_a_ok⟩
  · exact ⟨rfl, c93_s_ok⟩
/-- loop.example/g03007/impl.FoundAt -/
noncomputable def c32 : Con := mkCon 32 false (α := (List TFind) × Int) (fun x => (fun (l : List TFind) (k : Int) => [encLTFind l, dI k]) x.1 x.2) (fun _ => []) (fun x => (fun (l : List TFind) (k : Int) => l.length ≤ 1073741823) x.1 x.2) (fun x => (fun (l : List TFind) (k : Int) => (.own (0, 1) 1 0 (pick (placeIs k) nFind l).length : D)) x.1 x.2) (fun x => (fun (l : List TFind) (k : Int) => [((0, 1), .arr false 1 (dI 0) (ML dI (pick (placeIs k) nFind l)))]) x.1 x.2)
@[simp] theorem c32_f : c32.f = 32 := rfl
@[simp] theorem c32_own : c32.own = false := rfl
theorem c32_inj : ∀ u_ v_ : (List TFind) × Int, ((fun x => (fun (l : List TFind) (k : Int) => [encLTFind l, dI k]) x.1 x.2) u_).map nz = ((fun x => (fun (l : List TFind) (k : Int) => [encLTFind l, dI k]) x.1 x.2) v_).map nz → u_ = v_ := by
  intro u_ v_ h
  obtain ⟨l, k⟩ := u_
  obtain ⟨l', k'⟩ := v_
  simp [nz_lit, nz1_lit, nz_agg, nz_sl, nz1_sl, encLTFind] at h
  first | (simp [h]; done) | (obtain ⟨⟩ := h; simp_all; done) | simp_all
@[simp] theorem c32_fn (l : List TFind) (k : Int) : c32.fn [.sl false 8 yTFind (ML encTFind l), .lit (.int .i64 k)] [] = some ((fun (l : List TFind) (k : Int) => l.length ≤ 1073741823) l k, (fun (l : List TFind) (k : Int) => (.own (0, 1) 1 0 (pick (placeIs k) nFind l).length : D)) l k, (fun (l : List TFind) (k : Int) => [((0, 1), .arr false 1 (dI 0) (ML dI (pick (placeIs k) nFind l)))]) l k) :=
  mkCon_fn (fun x y h _ => c32_inj x y h) ((l, k) : (List TFind) × Int) (by simp [nz, nz1, ML_nil, encLTFind]) rfl
@[simp] theorem c32_fn1 (s_l : Nat) (z_l : D) (k : Int) : c32.fn [.sl false s_l z_l [], .lit (.int .i64 k)] [] = some ((fun (l : List TFind) (k : Int) => l.length ≤ 1073741823) [] k, (fun (l : List TFind) (k : Int) => (.own (0, 1) 1 0 (pick (placeIs k) nFind l).length : D)) [] k, (fun (l : List TFind) (k : Int) => [((0, 1), .arr false 1 (dI 0) (ML dI (pick (placeIs k) nFind l)))]) [] k) :=
  mkCon_fn (fun x y h _ => c32_inj x y h) (([], k) : (List TFind) × Int) (by simp [nz, nz1, ML_nil, encLTFind]) rfl
theorem c32_pc (l : List TFind) (k : Int) (hpre : l.length ≤ 1073741823) : PCo Try.prog 32 [encLTFind l, dI k] (Tab.of []) (.own (0, 1) 1 0 (pick (placeIs k) nFind l).length) (Tab.of [((0, 1), .arr false 1 (dI 0) (ML dI (pick (placeIs k) nFind l)))]) := by
  refine pco_of_run [] (E := ⟨[c89, c93, c94], []⟩) (m := false) (base := 0) (Env.ok_cons c89_ok (Env.ok_cons c93_ok (Env.ok_cons c94_ok Env.ok_nil))) G_ok mix 300 6 Try.func32 (by kernel_rfl) rfl (by kernel_rfl) (by kernel_rfl) rfl ?_
  simp [Try.f32]
  exact hpre
theorem c32_ok : c32.ok Try.prog := mkCon_ok fun ⟨l, k⟩ hpre => c32_pc l k hpre
/-- loop.example/g03007/impl.FoundIn -/
noncomputable def c35 : Con := mkCon 35 false (α := (List TFind) × TSpan) (fun x => (fun (l : List TFind) (s : TSpan) => [encLTFind l, encTSpan s]) x.1 x.2) (fun _ => []) (fun x => (fun (l : List TFind) (s : TSpan) => l.length ≤ 1073741823) x.1 x.2) (fun x => (fun (l : List TFind) (s : TSpan) => (.own (0, 1) 1 0 (pick (heldIn s) nFind l).length : D)) x.1 x.2) (fun x => (fun (l : List TFind) (s : TSpan) => [((0, 1), .arr false 1 (dI 0) (ML dI (pick (heldIn s) nFind l)))]) x.1 x.2)
@[simp] theorem c35_f : c35.f = 35 := rfl
@[simp] theorem c35_own : c35.own = false := rfl
theorem c35_inj : ∀ u_ v_ : (List TFind) × TSpan, ((fun x => (fun (l : List TFind) (s : TSpan) => [encLTFind l, encTSpan s]) x.1 x.2) u_).map nz = ((fun x => (fun (l : List TFind) (s : TSpan) => [encLTFind l, encTSpan s]) x.1 x.2) v_).map nz → u_ = v_ := by
  intro u_ v_ h
  obtain ⟨l, ⟨s_From, s_Until⟩⟩ := u_
  obtain ⟨l', ⟨s_From', s_Until'⟩⟩ := v_
  simp [nz_lit, nz1_lit, nz_agg, nz_sl, nz1_sl, encLTFind, encTSpan] at h
  first | (simp [h]; done) | (obtain ⟨⟩ := h; simp_all; done) | simp_all
@[simp] theorem c35_fn (l : List TFind) (s_From : Int) (s_Until : Int) : c35.fn [.sl false 8 yTFind (ML encTFind l), .agg [.lit (.int .i64 s_From), .lit (.int .i64 s_Until)]] [] = some ((fun (l : List TFind) (s : TSpan) => l.length ≤ 1073741823) l ⟨s_From, s_Until⟩, (fun (l : List TFind) (s : TSpan) => (.own (0, 1) 1 0 (pick (heldIn s) nFind l).length : D)) l ⟨s_From, s_Until⟩, (fun (l : List TFind) (s : TSpan) => [((0, 1), .arr false 1 (dI 0) (ML dI (pick (heldIn s) nFind l)))]) l ⟨s_From, s_Until⟩) :=
  mkCon_fn (fun x y h _ => c35_inj x y h) ((l, ⟨s_From, s_Until⟩) : (List TFind) × TSpan) (by simp [nz, nz1, ML_nil, encLTFind, encTSpan]) rfl
@[simp] theorem c35_fn1 (s_l : Nat) (z_l : D) (s_From : Int) (s_Until : Int) : c35.fn [.sl false s_l z_l [], .agg [.lit (.int .i64 s_From), .lit (.int .i64 s_Until)]] [] = some ((fun (l : List TFind) (s : TSpan) => l.length ≤ 1073741823) [] ⟨s_From, s_Until⟩, (fun (l : List TFind) (s : TSpan) => (.own (0, 1) 1 0 (pick (heldIn s) nFind l).length : D)) [] ⟨s_From, s_Until⟩, (fun (l : List TFind) (s : TSpan) => [((0, 1), .arr false 1 (dI 0) (ML dI (pick (heldIn s) nFind l)))]) [] ⟨s_From, s_Until⟩) :=
  mkCon_fn (fun x y h _ => c35_inj x y h) (([], ⟨s_From, s_Until⟩) : (List TFind) × TSpan) (by simp [nz, nz1, ML_nil, encLTFind, encTSpan]) rfl
theorem c35_pc (l : List TFind) (s : TSpan) (hpre : l.length ≤ 1073741823) : PCo Try.prog 35 [encLTFind l, encTSpan s] (Tab.of []) (.own (0, 1) 1 0 (pick (heldIn s) nFind l).length) (Tab.of [((0, 1), .arr false 1 (dI 0) (ML dI (pick (heldIn s) nFind l)))]) := by
  refine pco_of_run [] (E := ⟨[c89, c93, c96], []⟩) (m := false) (base := 0) (Env.ok_cons c89_ok (Env.ok_cons c93_ok (Env.ok_cons c96_ok Env.ok_nil))) G_ok mix 300 6 Try.func35 (by kernel_rfl) rfl (by kernel_rfl) (by kernel_rfl) rfl ?_
  simp [Try.f35]
  exact hpre
theorem c35_ok : c35.ok Try.prog := mkCon_ok fun ⟨l, s⟩ hpre => c35_pc l s hpre
/-- loop.example/g03007/spec.FoundAt -/
noncomputable def c31 : Con := mkCon 31 false (α := (List TFind) × Int) (fun x => (fun (l : List TFind) (k : Int) => [encLTFind l, dI k]) x.1 x.2) (fun _ => []) (fun x => (fun (l : List TFind) (k : Int) => l.length ≤ 1073741823) x.1 x.2) (fun x => (fun (l : List TFind) (k : Int) => (.own (0, 1) 1 0 (pick (placeIs k) nFind l).length : D)) x.1 x.2) (fun x => (fun (l : List TFind) (k : Int) => [((0, 1), .arr false 1 (dI 0) (ML dI (pick (placeIs k) nFind l)))]) x.1 x.2)
@[simp] theorem c31_f : c31.f = 31 := rfl
@[simp] theorem c31_own : c31.own = false := rfl
theorem c31_inj : ∀ u_ v_ : (List TFind) × Int, ((fun x => (fun (l : List TFind) (k : Int) => [encLTFind l, dI k]) x.1 x.2) u_).map nz = ((fun x => (fun (l : List TFind) (k : Int) => [encLTFind l, dI k]) x.1 x.2) v_).map nz → u_ = v_ := by
  intro u_ v_ h
  obtain ⟨l, k⟩ := u_
  obtain ⟨l', k'⟩ := v_
  simp [nz_lit, nz1_lit, nz_agg, nz_sl, nz1_sl, encLTFind] at h
  first | (simp [h]; done) | (obtain ⟨⟩ := h; simp_all; done) | simp_all
@[simp] theorem c31_fn (l : List TFind) (k : Int) : c31.fn [.sl false 8 yTFind (ML encTFind l), .lit (.int .i64 k)] [] = some ((fun (l : List TFind) (k : Int) => l.length ≤ 1073741823) l k, (fun (l : List TFind) (k : Int) => (.own (0, 1) 1 0 (pick (placeIs k) nFind l).length : D)) l k, (fun (l : List TFind) (k : Int) => [((0, 1), .arr false 1 (dI 0) (ML dI (pick (placeIs k) nFind l)))]) l k) :=
  mkCon_fn (fun x y h _ => c31_inj x y h) ((l, k) : (List TFind) × Int) (by simp [nz, nz1, ML_nil, encLTFind]) rfl
@[simp] theorem c31_fn1 (s_l : Nat) (z_l : D) (k : Int) : c31.fn [.sl false s_l z_l [], .lit (.int .i64 k)] [] = some ((fun (l : List TFind) (k : Int) => l.length ≤ 1073741823) [] k, (fun (l : List TFind) (k : Int) => (.own (0, 1) 1 0 (pick (placeIs k) nFind l).length : D)) [] k, (fun (l : List TFind) (k : Int) => [((0, 1), .arr false 1 (dI 0) (ML dI (pick (placeIs k) nFind l)))]) [] k) :=
  mkCon_fn (fun x y h _ => c31_inj x y h) (([], k) : (List TFind) × Int) (by simp [nz, nz1, ML_nil, encLTFind]) rfl
theorem c31_pc (l : List TFind) (k : Int) (hpre : l.length ≤ 1073741823) : PCo Try.prog 31 [encLTFind l, dI k] (Tab.of []) (.own (0, 1) 1 0 (pick (placeIs k) nFind l).length) (Tab.of [((0, 1), .arr false 1 (dI 0) (ML dI (pick (placeIs k) nFind l)))]) := by
  refine pco_of_run [] (E := ⟨[], []⟩) (m := false) (base := 0) Env.ok_nil G_ok mix 300 6 Try.func31 (by kernel_rfl) rfl (by kernel_rfl) (by kernel_rfl) rfl ?_
  simp [Try.f31]
  refine loop_inv (fun p : Nat => p ≤ l.length) (fun p => [(0, encLTFind l), (1, dI k), (5, .own (0, 1) 1 0 (pick (placeIs k) nFind (l.take p)).length), (6, dI p)]) (fun p => [((0, 1), .arr false 1 (dI 0) (ML dI (pick (placeIs k) nFind (l.take p))))]) 2 (fun p => l.length - p) 0 400 (by simp) (by simp) (by simp) ?_
  intro p hp
  simp
  refine ⟨fun hlt => ?_, fun hge => ?_⟩
  · have hs := pick_at (want := placeIs k) (f := nFind) (d := default) hlt
    have hb := pick_take_len (want := placeIs k) (f := nFind) l p
    have hsT : (l[p]?.getD default).Place = k → pick (placeIs k) nFind (l.take (p + 1)) = pick (placeIs k) nFind (l.take p) ++ [nFind (l[p]?.getD default)] := fun h => by rw [hs, if_pos (by simp [placeIs, h])]
    have hsF : ¬ (l[p]?.getD default).Place = k → pick (placeIs k) nFind (l.take (p + 1)) = pick (placeIs k) nFind (l.take p) := fun h => by rw [hs, if_neg (by simp [placeIs, h]), List.append_nil]
    repeat' (first | omega | refine And.intro ?_ ?_ | intro _)
    all_goals first | (have hw := hsT (by assumption); exact Again.mk (p + 1) (by omega) (by simp [hw]) (by first | omega | (simp; omega))) | (have hw := hsF (by assumption); exact Again.mk (p + 1) (by omega) (by simp [hw]) (by first | omega | (simp; omega)))
  · rw [List.take_of_length_le hge]; simp
theorem c31_ok : c31.ok Try.prog := mkCon_ok fun ⟨l, k⟩ hpre => c31_pc l k hpre
/-- loop.example/g03007/spec.FoundIn -/
noncomputable def c33 : Con := mkCon 33 false (α := (List TFind) × TSpan) (fun x => (fun (l : List TFind) (s : TSpan) => [encLTFind l, encTSpan s]) x.1 x.2) (fun _ => []) (fun x => (fun (l : List TFind) (s : TSpan) => l.length ≤ 1073741823) x.1 x.2) (fun x => (fun (l : List TFind) (s : TSpan) => (.own (0, 1) 1 0 (pick (heldIn s) nFind l).length : D)) x.1 x.2) (fun x => (fun (l : List TFind) (s : TSpan) => [((0, 1), .arr false 1 (dI 0) (ML dI (pick (heldIn s) nFind l)))]) x.1 x.2)
@[simp] theorem c33_f : c33.f = 33 := rfl
@[simp] theorem c33_own : c33.own = false := rfl
theorem c33_inj : ∀ u_ v_ : (List TFind) × TSpan, ((fun x => (fun (l : List TFind) (s : TSpan) => [encLTFind l, encTSpan s]) x.1 x.2) u_).map nz = ((fun x => (fun (l : List TFind) (s : TSpan) => [encLTFind l, encTSpan s]) x.1 x.2) v_).map nz → u_ = v_ := by
  intro u_ v_ h
  obtain ⟨l, ⟨s_From, s_Until⟩⟩ := u_
  obtain ⟨l', ⟨s_From', s_Until'⟩⟩ := v_
  simp [nz_lit, nz1_lit, nz_agg, nz_sl, nz1_sl, encLTFind, encTSpan] at h
  first | (simp [h]; done) | (obtain ⟨⟩ := h; simp_all; done) | simp_all
@[simp] theorem c33_fn (l : List TFind) (s_From : Int) (s_Until : Int) : c33.fn [.sl false 8 yTFind (ML encTFind l), .agg [.lit (.int .i64 s_From), .lit (.int .i64 s_Until)]] [] = some ((fun (l : List TFind) (s : TSpan) => l.length ≤ 1073741823) l ⟨s_From, s_Until⟩, (fun (l : List TFind) (s : TSpan) => (.own (0, 1) 1 0 (pick (heldIn s) nFind l).length : D)) l ⟨s_From, s_Until⟩, (fun (l : List TFind) (s : TSpan) => [((0, 1), .arr false 1 (dI 0) (ML dI (pick (heldIn s) nFind l)))]) l ⟨s_From, s_Until⟩) :=
  mkCon_fn (fun x y h _ => c33_inj x y h) ((l, ⟨s_From, s_Until⟩) : (List TFind) × TSpan) (by simp [nz, nz1, ML_nil, encLTFind, encTSpan]) rfl
@[simp] theorem c33_fn1 (s_l : Nat) (z_l : D) (s_From : Int) (s_Until : Int) : c33.fn [.sl false s_l z_l [], .agg [.lit (.int .i64 s_From), .lit (.int .i64 s_Until)]] [] = some ((fun (l : List TFind) (s : TSpan) => l.length ≤ 1073741823) [] ⟨s_From, s_Until⟩, (fun (l : List TFind) (s : TSpan) => (.own (0, 1) 1 0 (pick (heldIn s) nFind l).length : D)) [] ⟨s_From, s_Until⟩, (fun (l : List TFind) (s : TSpan) => [((0, 1), .arr false 1 (dI 0) (ML dI (pick (heldIn s) nFind l)))]) [] ⟨s_From, s_Until⟩) :=
  mkCon_fn (fun x y h _ => c33_inj x y h) (([], ⟨s_From, s_Until⟩) : (List TFind) × TSpan) (by simp [nz, nz1, ML_nil, encLTFind, encTSpan]) rfl
theorem c33_pc (l : List TFind) (s : TSpan) (hpre : l.length ≤ 1073741823) : PCo Try.prog 33 [encLTFind l, encTSpan s] (Tab.of []) (.own (0, 1) 1 0 (pick (heldIn s) nFind l).length) (Tab.of [((0, 1), .arr false 1 (dI 0) (ML dI (pick (heldIn s) nFind l)))]) := by
  refine pco_of_run [] (E := ⟨[c95], []⟩) (m := false) (base := 0) (Env.ok_cons c95_ok Env.ok_nil) G_ok mix 300 6 Try.func33 (by kernel_rfl) rfl (by kernel_rfl) (by kernel_rfl) rfl ?_
  simp [Try.f33]
  refine loop_inv (fun p : Nat => p ≤ l.length) (fun p => [(0, encLTFind l), (3, .ptr (0, 1) 0), (5, .own (1, 1) 1 0 (pick (heldIn s) nFind (l.take p)).length), (6, dI p)]) (fun p => [((0, 1), .box (encTSpan s)), ((1, 1), .arr false 1 (dI 0) (ML dI (pick (heldIn s) nFind (l.take p))))]) 2 (fun p => l.length - p) 0 400 (by simp) (by simp) (by simp) ?_
  intro p hp
  simp
  refine ⟨fun hlt => ?_, fun hge => ?_⟩
  · have hs := pick_at (want := heldIn s) (f := nFind) (d := default) hlt
    have hb := pick_take_len (want := heldIn s) (f := nFind) l p
    have hd : heldIn s (l[p]?.getD default) = mHolds s (l[p]?.getD default).At := rfl
    have hsT : mHolds s (l[p]?.getD default).At = true → pick (heldIn s) nFind (l.take (p + 1)) = pick (heldIn s) nFind (l.take p) ++ [nFind (l[p]?.getD default)] := fun h => by rw [hs, if_pos (hd.trans h)]
    have hsF : mHolds s (l[p]?.getD default).At = false → pick (heldIn s) nFind (l.take (p + 1)) = pick (heldIn s) nFind (l.take p) := fun h => by rw [hs, if_neg (by rw [hd, h]; simp), List.append_nil]
    repeat' (first | omega | refine And.intro ?_ ?_ | intro _)
    all_goals first | (have hw := hsT (by assumption); exact Again.mk (p + 1) (by omega) (by simp [hw]) (by first | omega | (simp; omega))) | (have hw := hsF (by assumption); exact Again.mk (p + 1) (by omega) (by simp [hw]) (by first | omega | (simp; omega)))
  · rw [List.take_of_length_le hge]; simp
theorem c33_ok : c33.ok Try.prog := mkCon_ok fun ⟨l, s⟩ hpre => c33_pc l s hpre
/-- loop.example/g03007/laws.FnExactFoundAt -/
theorem law5 (l : List TFind) (wl : wfLTFind l) (k : Int) (wk : inR .i64 k) : PCo Try.prog 5 [encLTFind l, dI k] (Tab.of []) (dB true) (Tab.of []) := by
  refine pco_of_run [] (E := ⟨[c18, c21, c22, c23, c25, c28, c29, c31, c32], []⟩) (m := false) (base := 0) (Env.ok_cons c18_ok (Env.ok_cons c21_ok (Env.ok_cons c22_ok (Env.ok_cons c23_ok (Env.ok_cons c25_ok (Env.ok_cons c28_ok (Env.ok_cons c29_ok (Env.ok_cons c31_ok (Env.ok_cons c32_ok Env.ok_nil))))))))) G_ok mix 400 6 Try.func5 (by kernel_rfl) rfl (by kernel_rfl) (by kernel_rfl) rfl ?_
  simp [Try.f5]
  have h1 : l.length ≤ maxLen := wl.1
  have hb := pick_len (want := placeIs k) (f := nFind) l
  refine ⟨h1, fun h => ?_⟩
  split at h
  · omega
  · repeat' (first | omega | refine And.intro ?_ ?_ | intro _)
theorem law5_pc (D0 : D) (h0 : Sh G 9 31 D0) (D1 : D) (h1 : Sh G 9 3 D1) : PC Try.prog 5 [D0, D1] (dB true) [] := by
  obtain ⟨l, rfl, wl⟩ := sh31 (n := 5) h0
  obtain ⟨k, rfl, wk⟩ := sh3 (n := 8) h1
  exact law5 l wl k wk

end Go.Proofs.Ytkccphdoolpmaaa
