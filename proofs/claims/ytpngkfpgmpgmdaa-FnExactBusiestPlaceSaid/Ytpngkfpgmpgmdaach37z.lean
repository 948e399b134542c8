/- Contracts of the functions that the laws run. -/
import Derived.Test.Ytpngkfpgmpgmdaach06
import Derived.Test.YtpngkfpgmpgmdaaEngB
namespace Go.Proofs.Ytpngkfpgmpgmdaa
open Go Go.Eng
set_option linter.unusedSimpArgs false
set_option linter.unusedVariables false
set_option maxRecDepth 10000
set_option maxHeartbeats 1000000
def placeIs (k : Int) (f : TFind) : Bool := decide (f.Place = k)
/-- loop.example/g03007/impl.BusiestPlace$1 -/
noncomputable def c15 : Con := mkCon 15 false (α := TFind × Int) (fun x => (fun (f : TFind) (k : Int) => ([encTFind f, .el (dI k)] : List D)) x.1 x.2) (fun x => (fun (f : TFind) (k : Int) => ([] : List (Nm × OO))) x.1 x.2) (fun x => (fun (f : TFind) (k : Int) => True) x.1 x.2) (fun x => (fun (f : TFind) (k : Int) => (dB (placeIs k f) : D)) x.1 x.2) (fun x => (fun (f : TFind) (k : Int) => ([] : List (Nm × OO))) x.1 x.2)
@[simp] theorem c15_f : c15.f = 15 := rfl
@[simp] theorem c15_own : c15.own = false := rfl
theorem c15_inj : ∀ u_ v_ : TFind × Int, ((fun x => (fun (f : TFind) (k : Int) => ([encTFind f, .el (dI k)] : List D)) x.1 x.2) u_).map nz = ((fun x => (fun (f : TFind) (k : Int) => ([encTFind f, .el (dI k)] : List D)) x.1 x.2) v_).map nz → (fun x => (fun (f : TFind) (k : Int) => ([] : List (Nm × OO))) x.1 x.2) u_ = (fun x => (fun (f : TFind) (k : Int) => ([] : List (Nm × OO))) x.1 x.2) v_ → u_ = v_ := by
  intro u_ v_ h h2_
  obtain ⟨⟨⟨f_Thing_Id, f_Thing_Kind, f_Thing_Colour, f_Thing_Size, f_Thing_Worth⟩, f_Place, f_At, f_Finder⟩, k⟩ := u_
  obtain ⟨⟨⟨f_Thing_Id', f_Thing_Kind', f_Thing_Colour', f_Thing_Size', f_Thing_Worth'⟩, f_Place', f_At', f_Finder'⟩, k'⟩ := v_
  simp [nz_lit, nz1_lit, nz_agg, nz_sl, nz1_sl, nz_sx, nz_el, nz1_el, nz_own, nz1_own, nz_ptr, nz_fn, nz_iface] at h h2_
  first | (simp [h, h2_]; done) | (obtain ⟨h3_, h4_⟩ := List.append_inj h2_ h.1; simp_all; done) | simp_all | grind
@[simp] theorem c15_fn (f_Thing_Id : Int) (f_Thing_Kind : Int) (f_Thing_Colour : Int) (f_Thing_Size : Int) (f_Thing_Worth : Int) (f_Place : Int) (f_At : Int) (f_Finder : Int) (k : Int) : c15.fn ([.agg [.lit (.int .i64 f_Thing_Id), .lit (.int .i64 f_Thing_Kind), .lit (.int .i64 f_Thing_Colour), .lit (.int .i64 f_Thing_Size), .lit (.int .i64 f_Thing_Worth), .lit (.int .i64 f_Place), .lit (.int .i64 f_At), .lit (.int .i64 f_Finder)], .el (dI k)]) ([]) = some (True, dB (placeIs k (⟨⟨f_Thing_Id, f_Thing_Kind, f_Thing_Colour, f_Thing_Size, f_Thing_Worth⟩, f_Place, f_At, f_Finder⟩ : TFind)), []) :=
  mkCon_fn c15_inj ((⟨⟨f_Thing_Id, f_Thing_Kind, f_Thing_Colour, f_Thing_Size, f_Thing_Worth⟩, f_Place, f_At, f_Finder⟩, k) : TFind × Int) rfl rfl
theorem c15_pc (f : TFind) (k : Int) : PCo Try.prog 15 ([encTFind f, .el (dI k)]) (Tab.of ([])) (dB (placeIs k f)) (Tab.of ([])) := by
  refine pco_of_run [] (E := ⟨[], []⟩) (m := false) (base := 0) Env.ok_nil G_ok mix 300 6 Try.func15 (by kernel_rfl) rfl (by kernel_rfl) (by kernel_rfl) rfl ?_
  simp [Try.f15]
  first | done | rfl
theorem c15_ok : c15.ok Try.prog := mkCon_ok fun ⟨f, k⟩ hpre => c15_pc f k
/-- loop.example/g03007/impl.countWhere[loop.example/g03007/impl.Find] -/
noncomputable def c14 : Con := mkCon 14 false (α := (List TFind) × Int) (fun x => (fun (l : List TFind) (k : Int) => ([encLTFind l, .fn (.func 15) [] [.el (dI k)]] : List D)) x.1 x.2) (fun x => (fun (l : List TFind) (k : Int) => ([] : List (Nm × OO))) x.1 x.2) (fun x => (fun (l : List TFind) (k : Int) => l.length ≤ 1099511627776) x.1 x.2) (fun x => (fun (l : List TFind) (k : Int) => (dI (l.countP (placeIs k)) : D)) x.1 x.2) (fun x => (fun (l : List TFind) (k : Int) => ([] : List (Nm × OO))) x.1 x.2)
@[simp] theorem c14_f : c14.f = 14 := rfl
@[simp] theorem c14_own : c14.own = false := rfl
theorem c14_inj : ∀ u_ v_ : (List TFind) × Int, ((fun x => (fun (l : List TFind) (k : Int) => ([encLTFind l, .fn (.func 15) [] [.el (dI k)]] : List D)) x.1 x.2) u_).map nz = ((fun x => (fun (l : List TFind) (k : Int) => ([encLTFind l, .fn (.func 15) [] [.el (dI k)]] : List D)) x.1 x.2) v_).map nz → (fun x => (fun (l : List TFind) (k : Int) => ([] : List (Nm × OO))) x.1 x.2) u_ = (fun x => (fun (l : List TFind) (k : Int) => ([] : List (Nm × OO))) x.1 x.2) v_ → u_ = v_ := by
  intro u_ v_ h h2_
  obtain ⟨l, k⟩ := u_
  obtain ⟨l', k'⟩ := v_
  simp [nz_lit, nz1_lit, nz_agg, nz_sl, nz1_sl, nz_sx, nz_el, nz1_el, nz_own, nz1_own, nz_ptr, nz_fn, nz_iface] at h h2_
  first | (simp [h, h2_]; done) | (obtain ⟨h3_, h4_⟩ := List.append_inj h2_ h.1; simp_all; done) | simp_all | grind
@[simp] theorem c14_fn (l : List TFind) (k : Int) : c14.fn ([(.sl false 8 yTFind (ML encTFind l)), .fn (.func 15) [] [.el (dI k)]]) ([]) = some (l.length ≤ 1099511627776, dI (l.countP (placeIs k)), []) :=
  mkCon_fn c14_inj ((l, k) : (List TFind) × Int) rfl rfl
theorem c14_pc (l : List TFind) (k : Int) (hpre : l.length ≤ 1099511627776) : PCo Try.prog 14 ([encLTFind l, .fn (.func 15) [] [.el (dI k)]]) (Tab.of ([])) (dI (l.countP (placeIs k))) (Tab.of ([])) := by
  refine pco_of_run [] (E := ⟨[c15], []⟩) (m := false) (base := 0) (Env.ok_cons c15_ok Env.ok_nil) G_ok mix 300 6 Try.func14 (by kernel_rfl) rfl (by kernel_rfl) (by kernel_rfl) rfl ?_
  simp [Try.f14]
  refine loop_inv (fun p : Nat => p ≤ l.length) (fun p => [(1, .fn (.func 15) [] [.el (dI k)]), (5, dI ((l.take p).countP (placeIs k))), (8, encLTFind l), (9, dI l.length), (10, dI p)]) (fun _ => []) 1 (fun p => l.length - p) 0 400 (by simp) (by simp) (by simp) ?_
  intro p hp
  simp
  refine ⟨fun hlt => ?_, fun hge => ?_⟩
  · have hs := countP_at (want := placeIs k) (d := default) hlt
    have hb := countP_take (want := placeIs k) (l := l) (p := p)
    repeat' (first | omega | refine And.intro ?_ ?_ | intro _)
    all_goals (rename_i hw; refine Again.mk (p + 1) (by omega) (by simp [hs, hw]) (by first | omega | (simp; omega)))
  · rw [List.take_of_length_le hge]
theorem c14_ok : c14.ok Try.prog := mkCon_ok fun ⟨l, k⟩ hpre => c14_pc l k hpre
/-- loop.example/g03007/spec.FoundAt -/
noncomputable def c10 : Con := mkCon 10 false (α := (List TFind) × Int) (fun x => (fun (l : List TFind) (k : Int) => [encLTFind l, dI k]) x.1 x.2) (fun _ => []) (fun x => (fun (l : List TFind) (k : Int) => l.length ≤ 1073741823) x.1 x.2) (fun x => (fun (l : List TFind) (k : Int) => (.own (0, 1) 1 0 (pick (placeIs k) nFind l).length : D)) x.1 x.2) (fun x => (fun (l : List TFind) (k : Int) => [((0, 1), .arr false 1 (dI 0) (ML dI (pick (placeIs k) nFind l)))]) x.1 x.2)
@[simp] theorem c10_f : c10.f = 10 := rfl
@[simp] theorem c10_own : c10.own = false := rfl
theorem c10_inj : ∀ u_ v_ : (List TFind) × Int, ((fun x => (fun (l : List TFind) (k : Int) => [encLTFind l, dI k]) x.1 x.2) u_).map nz = ((fun x => (fun (l : List TFind) (k : Int) => [encLTFind l, dI k]) x.1 x.2) v_).map nz → u_ = v_ := by
  intro u_ v_ h
  obtain ⟨l, k⟩ := u_
  obtain ⟨l', k'⟩ := v_
  simp [nz_lit, nz1_lit, nz_agg, nz_sl, nz1_sl, encLTFind] at h
  first | (simp [h]; done) | (obtain ⟨⟩ := h; simp_all; done) | simp_all
@[simp] theorem c10_fn (l : List TFind) (k : Int) : c10.fn [.sl false 8 yTFind (ML encTFind l), .lit (.int .i64 k)] [] = some ((fun (l : List TFind) (k : Int) => l.length ≤ 1073741823) l k, (fun (l : List TFind) (k : Int) => (.own (0, 1) 1 0 (pick (placeIs k) nFind l).length : D)) l k, (fun (l : List TFind) (k : Int) => [((0, 1), .arr false 1 (dI 0) (ML dI (pick (placeIs k) nFind l)))]) l k) :=
  mkCon_fn (fun x y h _ => c10_inj x y h) ((l, k) : (List TFind) × Int) (by simp [nz, nz1, ML_nil, encLTFind]) rfl
@[simp] theorem c10_fn1 (s_l : Nat) (z_l : D) (k : Int) : c10.fn [.sl false s_l z_l [], .lit (.int .i64 k)] [] = some ((fun (l : List TFind) (k : Int) => l.length ≤ 1073741823) [] k, (fun (l : List TFind) (k : Int) => (.own (0, 1) 1 0 (pick (placeIs k) nFind l).length : D)) [] k, (fun (l : List TFind) (k : Int) => [((0, 1), .arr false 1 (dI 0) (ML dI (pick (placeIs k) nFind l)))]) [] k) :=
  mkCon_fn (fun x y h _ => c10_inj x y h) (([], k) : (List TFind) × Int) (by simp [nz, nz1, ML_nil, encLTFind]) rfl
theorem c10_pc (l : List TFind) (k : Int) (hpre : l.length ≤ 1073741823) : PCo Try.prog 10 [encLTFind l, dI k] (Tab.of []) (.own (0, 1) 1 0 (pick (placeIs k) nFind l).length) (Tab.of [((0, 1), .arr false 1 (dI 0) (ML dI (pick (placeIs k) nFind l)))]) := by
  refine pco_of_run [] (E := ⟨[], []⟩) (m := false) (base := 0) Env.ok_nil G_ok mix 300 6 Try.func10 (by kernel_rfl) rfl (by kernel_rfl) (by kernel_rfl) rfl ?_
  simp [Try.f10]
  refine loop_inv (fun p : Nat => p ≤ l.length) (fun p => [(0, encLTFind l), (1, dI k), (5, .own (0, 1) 1 0 (pick (placeIs k) nFind (l.take p)).length), (6, dI p)]) (fun p => [((0, 1), .arr false 1 (dI 0) (ML dI (pick (placeIs k) nFind (l.take p))))]) 2 (fun p => l.length - p) 0 400 (by simp) (by simp) (by simp) ?_
  intro p hp
  simp
  refine ⟨fun hlt => ?_, fun hge => ?_⟩
  · have hs := pick_at (want := placeIs k) (f := nFind) (d := default) hlt
    have hb := pick_take_len (want := placeIs k) (f := nFind) l p
    have hsT : (l[p]?.getD default).Place = k → pick (placeIs k) nFind (l.take (p + 1)) = pick (placeIs k) nFind (l.take p) ++ [nFind (l[p]?.getD default)] := fun h => by rw [hs, if_pos (by simp [placeIs, h])]
    have hsF : ¬ (l[p]?.getD default).Place = k → pick (placeIs k) nFind (l.take (p + 1)) = pick (placeIs k) nFind (l.take p) := fun h => by rw [hs, if_neg (by simp [placeIs, h]), List.append_nil]
    repeat' (first | omega | refine And.intro ?_ ?_ | intro _)
    all_goals first | (have hw := hsT (by assumption); exact Again.mk (p + 1) (by omega) (by simp [hw]) (by first | omega | (simp; omega))) | (have hw := hsF (by assumption); exact Again.mk (p + 1) (by omega) (by simp [hw]) (by first | omega | (simp; omega)))
  · rw [List.take_of_length_le hge]; simp
theorem c10_ok : c10.ok Try.prog := mkCon_ok fun ⟨l, k⟩ hpre => c10_pc l k hpre
theorem pick_count {w : TFind → Bool} {f : TFind → Int} : ∀ (l : List TFind), (pick w f l).length = l.countP w
  | [] => rfl
  | x :: t => by
    have ih := pick_count (w := w) (f := f) t
    simp only [pick] at ih ⊢
    by_cases h : w x = true
    · simp [h, ih]
    · simp [h, ih]
def bestP (l : List TFind) : Nat → Int × Int
  | 0 => (0, 0)
  | p + 1 => if (bestP l p).2 < (l.countP (placeIs ((p : Int) + 1)) : Int) then ((p : Int) + 1, (l.countP (placeIs ((p : Int) + 1)) : Int)) else bestP l p
theorem bestP_yes {l : List TFind} {p : Nat} (h : (bestP l p).2 < (l.countP (placeIs ((p : Int) + 1)) : Int)) : bestP l (p + 1) = ((p : Int) + 1, (l.countP (placeIs ((p : Int) + 1)) : Int)) := by simp only [bestP]; rw [if_pos h]
theorem bestP_no {l : List TFind} {p : Nat} (h : ¬ (bestP l p).2 < (l.countP (placeIs ((p : Int) + 1)) : Int)) : bestP l (p + 1) = bestP l p := by simp only [bestP]; rw [if_neg h]
theorem bestP_fst (l : List TFind) (p : Nat) : (bestP l (p + 1)).1 = if (bestP l p).2 < (l.countP (placeIs ((p : Int) + 1)) : Int) then (p : Int) + 1 else (bestP l p).1 := by simp only [bestP]; split <;> rfl
theorem bestP_snd (l : List TFind) (p : Nat) : (bestP l (p + 1)).2 = if (bestP l p).2 < (l.countP (placeIs ((p : Int) + 1)) : Int) then (l.countP (placeIs ((p : Int) + 1)) : Int) else (bestP l p).2 := by simp only [bestP]; split <;> rfl
def mBusiest (l : List TFind) : Int := if mAreFinds l then (bestP l 30).1 else 0
/-- (*loop.example/g03007/impl.peak).raise -/
noncomputable def c13 : Con := mkCon 13 true (α := Int × Int × Int × Int) (fun x => (fun (n : Int) (c : Int) (bn : Int) (bc : Int) => ([.ptr (0, 0) 0, dI n, dI c] : List D)) x.1 x.2.1 x.2.2.1 x.2.2.2) (fun x => (fun (n : Int) (c : Int) (bn : Int) (bc : Int) => ([((0, 0), .box (.agg [dI bn, dI bc]))] : List (Nm × OO))) x.1 x.2.1 x.2.2.1 x.2.2.2) (fun x => (fun (n : Int) (c : Int) (bn : Int) (bc : Int) => True) x.1 x.2.1 x.2.2.1 x.2.2.2) (fun x => (fun (n : Int) (c : Int) (bn : Int) (bc : Int) => (.tup [] : D)) x.1 x.2.1 x.2.2.1 x.2.2.2) (fun x => (fun (n : Int) (c : Int) (bn : Int) (bc : Int) => ([((0, 0), .box (.agg [dI (if bc < c then n else bn), dI (if bc < c then c else bc)]))] : List (Nm × OO))) x.1 x.2.1 x.2.2.1 x.2.2.2)
@[simp] theorem c13_f : c13.f = 13 := rfl
@[simp] theorem c13_own : c13.own = true := rfl
theorem c13_inj : ∀ u_ v_ : Int × Int × Int × Int, ((fun x => (fun (n : Int) (c : Int) (bn : Int) (bc : Int) => ([.ptr (0, 0) 0, dI n, dI c] : List D)) x.1 x.2.1 x.2.2.1 x.2.2.2) u_).map nz = ((fun x => (fun (n : Int) (c : Int) (bn : Int) (bc : Int) => ([.ptr (0, 0) 0, dI n, dI c] : List D)) x.1 x.2.1 x.2.2.1 x.2.2.2) v_).map nz → (fun x => (fun (n : Int) (c : Int) (bn : Int) (bc : Int) => ([((0, 0), .box (.agg [dI bn, dI bc]))] : List (Nm × OO))) x.1 x.2.1 x.2.2.1 x.2.2.2) u_ = (fun x => (fun (n : Int) (c : Int) (bn : Int) (bc : Int) => ([((0, 0), .box (.agg [dI bn, dI bc]))] : List (Nm × OO))) x.1 x.2.1 x.2.2.1 x.2.2.2) v_ → u_ = v_ := by
  intro u_ v_ h h2_
  obtain ⟨n, c, bn, bc⟩ := u_
  obtain ⟨n', c', bn', bc'⟩ := v_
  simp [nz_lit, nz1_lit, nz_agg, nz_sl, nz1_sl, nz_sx, nz_el, nz1_el, nz_own, nz1_own, nz_ptr, nz_fn, nz_iface] at h h2_
  first | (simp [h, h2_]; done) | (obtain ⟨h3_, h4_⟩ := List.append_inj h2_ h.1; simp_all; done) | simp_all | grind
@[simp] theorem c13_fn (n : Int) (c : Int) (bn : Int) (bc : Int) : c13.fn ([.ptr (0, 0) 0, dI n, dI c]) ([((0, 0), .box (.agg [dI bn, dI bc]))]) = some (True, .tup [], [((0, 0), .box (.agg [dI (if bc < c then n else bn), dI (if bc < c then c else bc)]))]) :=
  mkCon_fn c13_inj ((n, c, bn, bc) : Int × Int × Int × Int) rfl rfl
theorem c13_pc (n : Int) (c : Int) (bn : Int) (bc : Int) : PCo Try.prog 13 ([.ptr (0, 0) 0, dI n, dI c]) (Tab.of ([((0, 0), .box (.agg [dI bn, dI bc]))])) (.tup []) (Tab.of ([((0, 0), .box (.agg [dI (if bc < c then n else bn), dI (if bc < c then c else bc)]))])) := by
  refine pco_of_run [] (E := ⟨[], []⟩) (m := false) (base := 0) Env.ok_nil G_ok mix 300 6 Try.func13 (by kernel_rfl) rfl (by kernel_rfl) (by kernel_rfl) rfl ?_
  by_cases h : bc < c
  · simp [Try.f13, h]
  · simp [Try.f13, h]
theorem c13_ok : c13.ok Try.prog := mkCon_ok fun ⟨n, c, bn, bc⟩ hpre => c13_pc n c bn bc
/-- loop.example/g03007/impl.BusiestPlace -/
noncomputable def c7 : Con := mkCon 7 false (α := (List TFind)) (fun x => (fun (l : List TFind) => [encLTFind l]) x) (fun _ => []) (fun x => (fun (l : List TFind) => l.length ≤ 1099511627776) x) (fun x => (fun (l : List TFind) => (dI (mBusiest l) : D)) x) (fun x => (fun (l : List TFind) => []) x)
@[simp] theorem c7_f : c7.f = 7 := rfl
@[simp] theorem c7_own : c7.own = false := rfl
theorem c7_inj : ∀ u_ v_ : (List TFind), ((fun x => (fun (l : List TFind) => [encLTFind l]) x) u_).map nz = ((fun x => (fun (l : List TFind) => [encLTFind l]) x) v_).map nz → u_ = v_ := by
  intro u_ v_ h
  obtain l := u_
  obtain l' := v_
  simp [nz_lit, nz1_lit, nz_agg, nz_sl, nz1_sl, encLTFind] at h
  first | (simp [h]; done) | (obtain ⟨⟩ := h; simp_all; done) | simp_all
@[simp] theorem c7_fn (l : List TFind) : c7.fn [.sl false 8 yTFind (ML encTFind l)] [] = some ((fun (l : List TFind) => l.length ≤ 1099511627776) l, (fun (l : List TFind) => (dI (mBusiest l) : D)) l, (fun (l : List TFind) => []) l) :=
  mkCon_fn (fun x y h _ => c7_inj x y h) (l : (List TFind)) (by simp [nz, nz1, ML_nil, encLTFind]) rfl
@[simp] theorem c7_fn1 (s_l : Nat) (z_l : D) : c7.fn [.sl false s_l z_l []] [] = some ((fun (l : List TFind) => l.length ≤ 1099511627776) [], (fun (l : List TFind) => (dI (mBusiest l) : D)) [], (fun (l : List TFind) => []) []) :=
  mkCon_fn (fun x y h _ => c7_inj x y h) ([] : (List TFind)) (by simp [nz, nz1, ML_nil, encLTFind]) rfl
theorem c7_pc (l : List TFind) (hpre : l.length ≤ 1099511627776) : PCo Try.prog 7 [encLTFind l] (Tab.of []) (dI (mBusiest l)) (Tab.of []) := by
  refine pco_of_run [5007, 4000014] (E := ⟨[c12, c13, c14, c15], []⟩) (m := false) (base := 0) (Env.ok_cons c12_ok (Env.ok_cons c13_ok (Env.ok_cons c14_ok (Env.ok_cons c15_ok Env.ok_nil)))) G_ok mix 300 6 Try.func7 (by kernel_rfl) rfl (by kernel_rfl) (by kernel_rfl) rfl ?_
  cases hc : mAreFinds l with
  | false => simp [Try.f7, hc, mBusiest]; omega
  | true =>
    have hm : mBusiest l = (bestP l 30).1 := by rw [mBusiest, hc]; rfl
    rw [hm]
    simp [Try.f7, hc]
    refine ⟨by omega, ?_⟩
    refine loop_inv (fun p : Nat => p ≤ 30) (fun p => [(0, encLTFind l), (3, .ptr (0, 1) 0), (4, .ptr (1, 1) 0)]) (fun p => [((0, 1), .box (.agg [dI (bestP l p).1, dI (bestP l p).2])), ((1, 1), .box (dI ((p : Int) + 1)))]) 2 (fun p => 30 - p) 0 400 (by simp) (by simp) (by simp [bestP]) ?_
    intro p hp
    simp
    refine ⟨fun hlt => ⟨by omega, by omega, ?_⟩, fun hge => ?_⟩
    · exact Again.mk (p + 1) (by omega) (by simp [bestP_fst, bestP_snd]) (by first | omega | (simp; omega))
    · have : p = 30 := by omega
      subst this; rfl
theorem c7_ok : c7.ok Try.prog := mkCon_ok fun l hpre => c7_pc l hpre
/-- loop.example/g03007/spec.BusiestPlace -/
noncomputable def c5 : Con := mkCon 5 false (α := (List TFind)) (fun x => (fun (l : List TFind) => [encLTFind l]) x) (fun _ => []) (fun x => (fun (l : List TFind) => l.length ≤ 1073741823) x) (fun x => (fun (l : List TFind) => (dI (mBusiest l) : D)) x) (fun x => (fun (l : List TFind) => []) x)
@[simp] theorem c5_f : c5.f = 5 := rfl
@[simp] theorem c5_own : c5.own = false := rfl
theorem c5_inj : ∀ u_ v_ : (List TFind), ((fun x => (fun (l : List TFind) => [encLTFind l]) x) u_).map nz = ((fun x => (fun (l : List TFind) => [encLTFind l]) x) v_).map nz → u_ = v_ := by
  intro u_ v_ h
  obtain l := u_
  obtain l' := v_
  simp [nz_lit, nz1_lit, nz_agg, nz_sl, nz1_sl, encLTFind] at h
  first | (simp [h]; done) | (obtain ⟨⟩ := h; simp_all; done) | simp_all
@[simp] theorem c5_fn (l : List TFind) : c5.fn [.sl false 8 yTFind (ML encTFind l)] [] = some ((fun (l : List TFind) => l.length ≤ 1073741823) l, (fun (l : List TFind) => (dI (mBusiest l) : D)) l, (fun (l : List TFind) => []) l) :=
  mkCon_fn (fun x y h _ => c5_inj x y h) (l : (List TFind)) (by simp [nz, nz1, ML_nil, encLTFind]) rfl
@[simp] theorem c5_fn1 (s_l : Nat) (z_l : D) : c5.fn [.sl false s_l z_l []] [] = some ((fun (l : List TFind) => l.length ≤ 1073741823) [], (fun (l : List TFind) => (dI (mBusiest l) : D)) [], (fun (l : List TFind) => []) []) :=
  mkCon_fn (fun x y h _ => c5_inj x y h) ([] : (List TFind)) (by simp [nz, nz1, ML_nil, encLTFind]) rfl
theorem c5_pc (l : List TFind) (hpre : l.length ≤ 1073741823) : PCo Try.prog 5 [encLTFind l] (Tab.of []) (dI (mBusiest l)) (Tab.of []) := by
  refine pco_of_run [] (E := ⟨[c9, c10], []⟩) (m := false) (base := 0) (Env.ok_cons c9_ok (Env.ok_cons c10_ok Env.ok_nil)) G_ok mix 300 6 Try.func5 (by kernel_rfl) rfl (by kernel_rfl) (by kernel_rfl) rfl ?_
  cases hc : mAreFinds l with
  | false =>
    have hm : mBusiest l = 0 := by rw [mBusiest, hc]; rfl
    rw [hm]
    simp [Try.f5]
    refine loop_unroll 400 ?_
    simp [hc]
    omega
  | true =>
    have hm : mBusiest l = (bestP l 30).1 := by rw [mBusiest, hc]; rfl
    rw [hm]
    simp [Try.f5]
    refine loop_inv (fun p : Nat => p ≤ 30) (fun p => [(0, encLTFind l), (3, dI (bestP l p).1), (4, dI (bestP l p).2), (5, dI ((p : Int) + 1))]) (fun _ => []) 1 (fun p => 30 - p) 0 400 (by simp) (by simp) (by simp [bestP]) ?_
    intro p hp
    simp [hc, pick_count]
    have hle : l.countP (placeIs ((p : Int) + 1)) ≤ l.length := List.countP_le_length
    refine ⟨fun _ => by omega, fun hlt => ⟨by omega, fun hy => ?_, fun hn => ?_⟩, fun hge => ?_⟩
    · exact ⟨by omega, Again.mk (p + 1) (by omega) (by simp [bestP_yes hy]) (by first | omega | (simp; omega))⟩
    · exact ⟨by omega, Again.mk (p + 1) (by omega) (by simp [bestP_no (by omega : ¬ (bestP l p).2 < (l.countP (placeIs ((p : Int) + 1)) : Int))]) (by first | omega | (simp; omega))⟩
    · have : p = 30 := by omega
      subst this; rfl
theorem c5_ok : c5.ok Try.prog := mkCon_ok fun l hpre => c5_pc l hpre
/-- loop.example/g03007/laws.FnExactBusiestPlace -/
theorem law3 (l : List TFind) (wl : wfLTFind l) : PCo Try.prog 3 [encLTFind l] (Tab.of []) (dB true) (Tab.of []) := by
  refine pco_of_run [] (E := ⟨[c4, c5, c6, c7, c8], []⟩) (m := false) (base := 0) (Env.ok_cons c4_ok (Env.ok_cons c5_ok (Env.ok_cons c6_ok (Env.ok_cons c7_ok (Env.ok_cons c8_ok Env.ok_nil))))) G_ok mix 400 6 Try.func3 (by kernel_rfl) rfl (by kernel_rfl) (by kernel_rfl) rfl ?_
  simp (config := {maxSteps := 3000000}) [Try.f3]
  have h_l : l.length ≤ maxLen := wl.1
  repeat' (first | omega | assumption | refine And.intro ?_ ?_ | intro _)
  all_goals first | omega | grind | (split at * <;> omega)
theorem law3_pc (D0 : D) (h0 : Sh G 9 22 D0) : PC Try.prog 3 [D0] (dB true) [] := by
  obtain ⟨l, rfl, wl⟩ := sh22 (n := 5) h0
  exact law3 l wl

end Go.Proofs.Ytpngkfpgmpgmdaa
