/- Contracts of the functions that the laws run. -/
import Derived.Test.YtobofamoagbacaaDoorch18h
import Derived.Test.YtobofamoagbacaaDoorEngB
namespace Go.Proofs.YtobofamoagbacaaDoor
open Go Go.Eng
set_option linter.unusedSimpArgs false
set_option linter.unusedVariables false
set_option maxRecDepth 10000
set_option maxHeartbeats 1000000
/-- loop.example/g03007/laws.eqTask -/
noncomputable def c52 : Con := mkCon 52 false (α := TTask × TTask) (fun x => (fun (a : TTask) (b : TTask) => [encTTask a, encTTask b]) x.1 x.2) (fun _ => []) (fun x => (fun (a : TTask) (b : TTask) => True) x.1 x.2) (fun x => (fun (a : TTask) (b : TTask) => (dB (decide (a = b)) : D)) x.1 x.2) (fun x => (fun (a : TTask) (b : TTask) => []) x.1 x.2)
@[simp] theorem c52_f : c52.f = 52 := rfl
@[simp] theorem c52_own : c52.own = false := rfl
theorem c52_inj : ∀ u_ v_ : TTask × TTask, ((fun x => (fun (a : TTask) (b : TTask) => [encTTask a, encTTask b]) x.1 x.2) u_).map nz = ((fun x => (fun (a : TTask) (b : TTask) => [encTTask a, encTTask b]) x.1 x.2) v_).map nz → u_ = v_ := by
  intro u_ v_ h
  obtain ⟨⟨a_Thing, a_Fate, a_Day⟩, ⟨b_Thing, b_Fate, b_Day⟩⟩ := u_
  obtain ⟨⟨a_Thing', a_Fate', a_Day'⟩, ⟨b_Thing', b_Fate', b_Day'⟩⟩ := v_
  simp [nz_lit, nz1_lit, nz_agg, nz_sl, nz1_sl, encTTask] at h
  first | (simp [h]; done) | (obtain ⟨⟩ := h; simp_all; done) | simp_all
@[simp] theorem c52_fn (a_Thing : Int) (a_Fate : Int) (a_Day : Int) (b_Thing : Int) (b_Fate : Int) (b_Day : Int) : c52.fn [.agg [.lit (.int .i64 a_Thing), .lit (.int .i64 a_Fate), .lit (.int .i64 a_Day)], .agg [.lit (.int .i64 b_Thing), .lit (.int .i64 b_Fate), .lit (.int .i64 b_Day)]] [] = some ((fun (a : TTask) (b : TTask) => True) ⟨a_Thing, a_Fate, a_Day⟩ ⟨b_Thing, b_Fate, b_Day⟩, (fun (a : TTask) (b : TTask) => (dB (decide (a = b)) : D)) ⟨a_Thing, a_Fate, a_Day⟩ ⟨b_Thing, b_Fate, b_Day⟩, (fun (a : TTask) (b : TTask) => []) ⟨a_Thing, a_Fate, a_Day⟩ ⟨b_Thing, b_Fate, b_Day⟩) :=
  mkCon_fn (fun x y h _ => c52_inj x y h) ((⟨a_Thing, a_Fate, a_Day⟩, ⟨b_Thing, b_Fate, b_Day⟩) : TTask × TTask) (by simp [nz, nz1, ML_nil, encTTask]) rfl
theorem c52_pc (a : TTask) (b : TTask) : PCo Tryd.prog 52 [encTTask a, encTTask b] (Tab.of []) (dB (decide (a = b))) (Tab.of []) := by
  obtain ⟨a_Thing, a_Fate, a_Day⟩ := a
  obtain ⟨b_Thing, b_Fate, b_Day⟩ := b
  refine pco_of_run [] (E := ⟨[], []⟩) (m := false) (base := 0) Env.ok_nil G_ok mix 300 6 Tryd.func52 (by kernel_rfl) rfl (by kernel_rfl) (by kernel_rfl) rfl ?_
  simp [Tryd.f52]
  all_goals first | omega | (rw [Bool.eq_iff_iff]; simp; omega) | grind
theorem c52_ok : c52.ok Tryd.prog := mkCon_ok fun ⟨a, b⟩ hpre => c52_pc a b
def dayT (fate : Int) (f : TFind) (o : List Bool) (now : Int) : Int := if fate = 1 then mNext o (now.tdiv 24) else if fate = 0 then mLastDay o f else now.tdiv 24
def mTaskOf (f : TFind) (l : List TClaim) (o : List Bool) (now : Int) : TTask := if mIsFind f && isCal o && mIn now 0 100000 then ⟨f.Thing.Id, mFateOf l now f, dayT (mFateOf l now f) f o now⟩ else ⟨0, 0, 0⟩
/-- loop.example/g03007/spec.TaskOf -/
noncomputable def c50 : Con := mkCon 50 false (α := TFind × (List TClaim) × (List Bool) × Int) (fun x => (fun (f : TFind) (l : List TClaim) (o : List Bool) (now : Int) => [encTFind f, encLTClaim l, encLB o, dI now]) x.1 x.2.1 x.2.2.1 x.2.2.2) (fun _ => []) (fun x => (fun (f : TFind) (l : List TClaim) (o : List Bool) (now : Int) => l.length ≤ 1073741823 ∧ o.length ≤ 1099511627776) x.1 x.2.1 x.2.2.1 x.2.2.2) (fun x => (fun (f : TFind) (l : List TClaim) (o : List Bool) (now : Int) => (encTTask (mTaskOf f l o now) : D)) x.1 x.2.1 x.2.2.1 x.2.2.2) (fun x => (fun (f : TFind) (l : List TClaim) (o : List Bool) (now : Int) => []) x.1 x.2.1 x.2.2.1 x.2.2.2)
@[simp] theorem c50_f : c50.f = 50 := rfl
@[simp] theorem c50_own : c50.own = false := rfl
theorem c50_inj : ∀ u_ v_ : TFind × (List TClaim) × (List Bool) × Int, ((fun x => (fun (f : TFind) (l : List TClaim) (o : List Bool) (now : Int) => [encTFind f, encLTClaim l, encLB o, dI now]) x.1 x.2.1 x.2.2.1 x.2.2.2) u_).map nz = ((fun x => (fun (f : TFind) (l : List TClaim) (o : List Bool) (now : Int) => [encTFind f, encLTClaim l, encLB o, dI now]) x.1 x.2.1 x.2.2.1 x.2.2.2) v_).map nz → u_ = v_ := by
  intro u_ v_ h
  obtain ⟨⟨⟨f_Thing_Id, f_Thing_Kind, f_Thing_Colour, f_Thing_Size, f_Thing_Worth⟩, f_Place, f_At, f_Finder⟩, l, o, now⟩ := u_
  obtain ⟨⟨⟨f_Thing_Id', f_Thing_Kind', f_Thing_Colour', f_Thing_Size', f_Thing_Worth'⟩, f_Place', f_At', f_Finder'⟩, l', o', now'⟩ := v_
  simp [nz_lit, nz1_lit, nz_agg, nz_sl, nz1_sl, encLB, encLTClaim, encTFind, encTThing] at h
  first | (simp [h]; done) | (obtain ⟨⟩ := h; simp_all; done) | simp_all
@[simp] theorem c50_fn (f_Thing_Id : Int) (f_Thing_Kind : Int) (f_Thing_Colour : Int) (f_Thing_Size : Int) (f_Thing_Worth : Int) (f_Place : Int) (f_At : Int) (f_Finder : Int) (l : List TClaim) (o : List Bool) (now : Int) : c50.fn [.agg [.lit (.int .i64 f_Thing_Id), .lit (.int .i64 f_Thing_Kind), .lit (.int .i64 f_Thing_Colour), .lit (.int .i64 f_Thing_Size), .lit (.int .i64 f_Thing_Worth), .lit (.int .i64 f_Place), .lit (.int .i64 f_At), .lit (.int .i64 f_Finder)], .sl false 5 yTClaim (ML encTClaim l), .sl false 1 (.lit (.bool false)) (ML dB o), .lit (.int .i64 now)] [] = some ((fun (f : TFind) (l : List TClaim) (o : List Bool) (now : Int) => l.length ≤ 1073741823 ∧ o.length ≤ 1099511627776) ⟨⟨f_Thing_Id, f_Thing_Kind, f_Thing_Colour, f_Thing_Size, f_Thing_Worth⟩, f_Place, f_At, f_Finder⟩ l o now, (fun (f : TFind) (l : List TClaim) (o : List Bool) (now : Int) => (encTTask (mTaskOf f l o now) : D)) ⟨⟨f_Thing_Id, f_Thing_Kind, f_Thing_Colour, f_Thing_Size, f_Thing_Worth⟩, f_Place, f_At, f_Finder⟩ l o now, (fun (f : TFind) (l : List TClaim) (o : List Bool) (now : Int) => []) ⟨⟨f_Thing_Id, f_Thing_Kind, f_Thing_Colour, f_Thing_Size, f_Thing_Worth⟩, f_Place, f_At, f_Finder⟩ l o now) :=
  mkCon_fn (fun x y h _ => c50_inj x y h) ((⟨⟨f_Thing_Id, f_Thing_Kind, f_Thing_Colour, f_Thing_Size, f_Thing_Worth⟩, f_Place, f_At, f_Finder⟩, l, o, now) : TFind × (List TClaim) × (List Bool) × Int) (by simp [nz, nz1, ML_nil, encLB, encLTClaim, encTFind, encTThing]) rfl
@[simp] theorem c50_fn1 (f_Thing_Id : Int) (f_Thing_Kind : Int) (f_Thing_Colour : Int) (f_Thing_Size : Int) (f_Thing_Worth : Int) (f_Place : Int) (f_At : Int) (f_Finder : Int) (s_l : Nat) (z_l : D) (o : List Bool) (now : Int) : c50.fn [.agg [.lit (.int .i64 f_Thing_Id), .lit (.int .i64 f_Thing_Kind), .lit (.int .i64 f_Thing_Colour), .lit (.int .i64 f_Thing_Size), .lit (.int .i64 f_Thing_Worth), .lit (.int .i64 f_Place), .lit (.int .i64 f_At), .lit (.int .i64 f_Finder)], .sl false s_l z_l [], .sl false 1 (.lit (.bool false)) (ML dB o), .lit (.int .i64 now)] [] = some ((fun (f : TFind) (l : List TClaim) (o : List Bool) (now : Int) => l.length ≤ 1073741823 ∧ o.length ≤ 1099511627776) ⟨⟨f_Thing_Id, f_Thing_Kind, f_Thing_Colour, f_Thing_Size, f_Thing_Worth⟩, f_Place, f_At, f_Finder⟩ [] o now, (fun (f : TFind) (l : List TClaim) (o : List Bool) (now : Int) => (encTTask (mTaskOf f l o now) : D)) ⟨⟨f_Thing_Id, f_Thing_Kind, f_Thing_Colour, f_Thing_Size, f_Thing_Worth⟩, f_Place, f_At, f_Finder⟩ [] o now, (fun (f : TFind) (l : List TClaim) (o : List Bool) (now : Int) => []) ⟨⟨f_Thing_Id, f_Thing_Kind, f_Thing_Colour, f_Thing_Size, f_Thing_Worth⟩, f_Place, f_At, f_Finder⟩ [] o now) :=
  mkCon_fn (fun x y h _ => c50_inj x y h) ((⟨⟨f_Thing_Id, f_Thing_Kind, f_Thing_Colour, f_Thing_Size, f_Thing_Worth⟩, f_Place, f_At, f_Finder⟩, [], o, now) : TFind × (List TClaim) × (List Bool) × Int) (by simp [nz, nz1, ML_nil, encLB, encLTClaim, encTFind, encTThing]) rfl
@[simp] theorem c50_fn2 (f_Thing_Id : Int) (f_Thing_Kind : Int) (f_Thing_Colour : Int) (f_Thing_Size : Int) (f_Thing_Worth : Int) (f_Place : Int) (f_At : Int) (f_Finder : Int) (l : List TClaim) (s_o : Nat) (z_o : D) (now : Int) : c50.fn [.agg [.lit (.int .i64 f_Thing_Id), .lit (.int .i64 f_Thing_Kind), .lit (.int .i64 f_Thing_Colour), .lit (.int .i64 f_Thing_Size), .lit (.int .i64 f_Thing_Worth), .lit (.int .i64 f_Place), .lit (.int .i64 f_At), .lit (.int .i64 f_Finder)], .sl false 5 yTClaim (ML encTClaim l), .sl false s_o z_o [], .lit (.int .i64 now)] [] = some ((fun (f : TFind) (l : List TClaim) (o : List Bool) (now : Int) => l.length ≤ 1073741823 ∧ o.length ≤ 1099511627776) ⟨⟨f_Thing_Id, f_Thing_Kind, f_Thing_Colour, f_Thing_Size, f_Thing_Worth⟩, f_Place, f_At, f_Finder⟩ l [] now, (fun (f : TFind) (l : List TClaim) (o : List Bool) (now : Int) => (encTTask (mTaskOf f l o now) : D)) ⟨⟨f_Thing_Id, f_Thing_Kind, f_Thing_Colour, f_Thing_Size, f_Thing_Worth⟩, f_Place, f_At, f_Finder⟩ l [] now, (fun (f : TFind) (l : List TClaim) (o : List Bool) (now : Int) => []) ⟨⟨f_Thing_Id, f_Thing_Kind, f_Thing_Colour, f_Thing_Size, f_Thing_Worth⟩, f_Place, f_At, f_Finder⟩ l [] now) :=
  mkCon_fn (fun x y h _ => c50_inj x y h) ((⟨⟨f_Thing_Id, f_Thing_Kind, f_Thing_Colour, f_Thing_Size, f_Thing_Worth⟩, f_Place, f_At, f_Finder⟩, l, [], now) : TFind × (List TClaim) × (List Bool) × Int) (by simp [nz, nz1, ML_nil, encLB, encLTClaim, encTFind, encTThing]) rfl
@[simp] theorem c50_fn3 (f_Thing_Id : Int) (f_Thing_Kind : Int) (f_Thing_Colour : Int) (f_Thing_Size : Int) (f_Thing_Worth : Int) (f_Place : Int) (f_At : Int) (f_Finder : Int) (s_l : Nat) (z_l : D) (s_o : Nat) (z_o : D) (now : Int) : c50.fn [.agg [.lit (.int .i64 f_Thing_Id), .lit (.int .i64 f_Thing_Kind), .lit (.int .i64 f_Thing_Colour), .lit (.int .i64 f_Thing_Size), .lit (.int .i64 f_Thing_Worth), .lit (.int .i64 f_Place), .lit (.int .i64 f_At), .lit (.int .i64 f_Finder)], .sl false s_l z_l [], .sl false s_o z_o [], .lit (.int .i64 now)] [] = some ((fun (f : TFind) (l : List TClaim) (o : List Bool) (now : Int) => l.length ≤ 1073741823 ∧ o.length ≤ 1099511627776) ⟨⟨f_Thing_Id, f_Thing_Kind, f_Thing_Colour, f_Thing_Size, f_Thing_Worth⟩, f_Place, f_At, f_Finder⟩ [] [] now, (fun (f : TFind) (l : List TClaim) (o : List Bool) (now : Int) => (encTTask (mTaskOf f l o now) : D)) ⟨⟨f_Thing_Id, f_Thing_Kind, f_Thing_Colour, f_Thing_Size, f_Thing_Worth⟩, f_Place, f_At, f_Finder⟩ [] [] now, (fun (f : TFind) (l : List TClaim) (o : List Bool) (now : Int) => []) ⟨⟨f_Thing_Id, f_Thing_Kind, f_Thing_Colour, f_Thing_Size, f_Thing_Worth⟩, f_Place, f_At, f_Finder⟩ [] [] now) :=
  mkCon_fn (fun x y h _ => c50_inj x y h) ((⟨⟨f_Thing_Id, f_Thing_Kind, f_Thing_Colour, f_Thing_Size, f_Thing_Worth⟩, f_Place, f_At, f_Finder⟩, [], [], now) : TFind × (List TClaim) × (List Bool) × Int) (by simp [nz, nz1, ML_nil, encLB, encLTClaim, encTFind, encTThing]) rfl
theorem c50_pc (f : TFind) (l : List TClaim) (o : List Bool) (now : Int) (hpre : l.length ≤ 1073741823 ∧ o.length ≤ 1099511627776) : PCo Tryd.prog 50 [encTFind f, encLTClaim l, encLB o, dI now] (Tab.of []) (encTTask (mTaskOf f l o now)) (Tab.of []) := by
  refine pco_of_run [3] (E := ⟨[c37, c46, c64, c66, c78, c81], []⟩) (m := false) (base := 0) (Env.ok_cons c37_ok (Env.ok_cons c46_ok (Env.ok_cons c64_ok (Env.ok_cons c66_ok (Env.ok_cons c78_ok (Env.ok_cons c81_ok Env.ok_nil)))))) G_ok mix 300 6 Tryd.func50 (by kernel_rfl) rfl (by kernel_rfl) (by kernel_rfl) rfl ?_
  obtain ⟨pre1, pre2⟩ := hpre
  cases h1 : mIsFind f with
  | false =>
    have e : mTaskOf f l o now = ⟨0, 0, 0⟩ := by simp [mTaskOf, h1]
    rw [e]
    obtain ⟨⟨f_Thing_Id, f_Thing_Kind, f_Thing_Colour, f_Thing_Size, f_Thing_Worth⟩, f_Place, f_At, f_Finder⟩ := f
    simp [Tryd.f50, h1]
  | true =>
    cases h2 : isCal o with
    | false =>
      have e : mTaskOf f l o now = ⟨0, 0, 0⟩ := by simp [mTaskOf, h1, h2]
      rw [e]
      obtain ⟨⟨f_Thing_Id, f_Thing_Kind, f_Thing_Colour, f_Thing_Size, f_Thing_Worth⟩, f_Place, f_At, f_Finder⟩ := f
      simp [Tryd.f50, h1, h2]
      omega
    | true =>
      cases h3 : mIn now 0 100000 with
      | false =>
        have e : mTaskOf f l o now = ⟨0, 0, 0⟩ := by simp [mTaskOf, h1, h2, h3]
        rw [e]
        obtain ⟨⟨f_Thing_Id, f_Thing_Kind, f_Thing_Colour, f_Thing_Size, f_Thing_Worth⟩, f_Place, f_At, f_Finder⟩ := f
        simp [Tryd.f50, h1, h2, h3]
        omega
      | true =>
        have hb := mIn_iff.1 h3
        have hd := tdiv_bd hb.1 (show (0 : Int) < 24 by omega)
        have e : mTaskOf f l o now = ⟨f.Thing.Id, mFateOf l now f, dayT (mFateOf l now f) f o now⟩ := by simp [mTaskOf, h1, h2, h3]
        have hf := fate_bd l now f
        rw [e]
        have hv : mFateOf l now f = 1 ∨ mFateOf l now f = 0 ∨ (¬ mFateOf l now f = 1 ∧ ¬ mFateOf l now f = 0) := by omega
        obtain ⟨⟨f_Thing_Id, f_Thing_Kind, f_Thing_Colour, f_Thing_Size, f_Thing_Worth⟩, f_Place, f_At, f_Finder⟩ := f
        rcases hv with hv | hv | ⟨hv, hv2⟩
        · simp [Tryd.f50, h1, h2, h3, hv, dayT]
          repeat' (first | omega | refine And.intro ?_ ?_ | intro _)
        · simp [Tryd.f50, h1, h2, h3, hv, dayT]
          repeat' (first | omega | refine And.intro ?_ ?_ | intro _)
        · simp [Tryd.f50, h1, h2, h3, hv, hv2, dayT]
          repeat' (first | omega | refine And.intro ?_ ?_ | intro _)
theorem c50_ok : c50.ok Tryd.prog := mkCon_ok fun ⟨f, l, o, now⟩ hpre => c50_pc f l o now hpre
/-- loop.example/g03007/impl.TaskOf -/
noncomputable def c51 : Con := mkCon 51 false (α := TFind × (List TClaim) × (List Bool) × Int) (fun x => (fun (f : TFind) (l : List TClaim) (o : List Bool) (now : Int) => [encTFind f, encLTClaim l, encLB o, dI now]) x.1 x.2.1 x.2.2.1 x.2.2.2) (fun _ => []) (fun x => (fun (f : TFind) (l : List TClaim) (o : List Bool) (now : Int) => l.length ≤ 1073741823 ∧ o.length ≤ 1099511627776) x.1 x.2.1 x.2.2.1 x.2.2.2) (fun x => (fun (f : TFind) (l : List TClaim) (o : List Bool) (now : Int) => (encTTask (mTaskOf f l o now) : D)) x.1 x.2.1 x.2.2.1 x.2.2.2) (fun x => (fun (f : TFind) (l : List TClaim) (o : List Bool) (now : Int) => []) x.1 x.2.1 x.2.2.1 x.2.2.2)
@[simp] theorem c51_f : c51.f = 51 := rfl
@[simp] theorem c51_own : c51.own = false := rfl
theorem c51_inj : ∀ u_ v_ : TFind × (List TClaim) × (List Bool) × Int, ((fun x => (fun (f : TFind) (l : List TClaim) (o : List Bool) (now : Int) => [encTFind f, encLTClaim l, encLB o, dI now]) x.1 x.2.1 x.2.2.1 x.2.2.2) u_).map nz = ((fun x => (fun (f : TFind) (l : List TClaim) (o : List Bool) (now : Int) => [encTFind f, encLTClaim l, encLB o, dI now]) x.1 x.2.1 x.2.2.1 x.2.2.2) v_).map nz → u_ = v_ := by
  intro u_ v_ h
  obtain ⟨⟨⟨f_Thing_Id, f_Thing_Kind, f_Thing_Colour, f_Thing_Size, f_Thing_Worth⟩, f_Place, f_At, f_Finder⟩, l, o, now⟩ := u_
  obtain ⟨⟨⟨f_Thing_Id', f_Thing_Kind', f_Thing_Colour', f_Thing_Size', f_Thing_Worth'⟩, f_Place', f_At', f_Finder'⟩, l', o', now'⟩ := v_
  simp [nz_lit, nz1_lit, nz_agg, nz_sl, nz1_sl, encLB, encLTClaim, encTFind, encTThing] at h
  first | (simp [h]; done) | (obtain ⟨⟩ := h; simp_all; done) | simp_all
@[simp] theorem c51_fn (f_Thing_Id : Int) (f_Thing_Kind : Int) (f_Thing_Colour : Int) (f_Thing_Size : Int) (f_Thing_Worth : Int) (f_Place : Int) (f_At : Int) (f_Finder : Int) (l : List TClaim) (o : List Bool) (now : Int) : c51.fn [.agg [.lit (.int .i64 f_Thing_Id), .lit (.int .i64 f_Thing_Kind), .lit (.int .i64 f_Thing_Colour), .lit (.int .i64 f_Thing_Size), .lit (.int .i64 f_Thing_Worth), .lit (.int .i64 f_Place), .lit (.int .i64 f_At), .lit (.int .i64 f_Finder)], .sl false 5 yTClaim (ML encTClaim l), .sl false 1 (.lit (.bool false)) (ML dB o), .lit (.int .i64 now)] [] = some ((fun (f : TFind) (l : List TClaim) (o : List Bool) (now : Int) => l.length ≤ 1073741823 ∧ o.length ≤ 1099511627776) ⟨⟨f_Thing_Id, f_Thing_Kind, f_Thing_Colour, f_Thing_Size, f_Thing_Worth⟩, f_Place, f_At, f_Finder⟩ l o now, (fun (f : TFind) (l : List TClaim) (o : List Bool) (now : Int) => (encTTask (mTaskOf f l o now) : D)) ⟨⟨f_Thing_Id, f_Thing_Kind, f_Thing_Colour, f_Thing_Size, f_Thing_Worth⟩, f_Place, f_At, f_Finder⟩ l o now, (fun (f : TFind) (l : List TClaim) (o : List Bool) (now : Int) => []) ⟨⟨f_Thing_Id, f_Thing_Kind, f_Thing_Colour, f_Thing_Size, f_Thing_Worth⟩, f_Place, f_At, f_Finder⟩ l o now) :=
  mkCon_fn (fun x y h _ => c51_inj x y h) ((⟨⟨f_Thing_Id, f_Thing_Kind, f_Thing_Colour, f_Thing_Size, f_Thing_Worth⟩, f_Place, f_At, f_Finder⟩, l, o, now) : TFind × (List TClaim) × (List Bool) × Int) (by simp [nz, nz1, ML_nil, encLB, encLTClaim, encTFind, encTThing]) rfl
@[simp] theorem c51_fn1 (f_Thing_Id : Int) (f_Thing_Kind : Int) (f_Thing_Colour : Int) (f_Thing_Size : Int) (f_Thing_Worth : Int) (f_Place : Int) (f_At : Int) (f_Finder : Int) (s_l : Nat) (z_l : D) (o : List Bool) (now : Int) : c51.fn [.agg [.lit (.int .i64 f_Thing_Id), .lit (.int .i64 f_Thing_Kind), .lit (.int .i64 f_Thing_Colour), .lit (.int .i64 f_Thing_Size), .lit (.int .i64 f_Thing_Worth), .lit (.int .i64 f_Place), .lit (.int .i64 f_At), .lit (.int .i64 f_Finder)], .sl false s_l z_l [], .sl false 1 (.lit (.bool false)) (ML dB o), .lit (.int .i64 now)] [] = some ((fun (f : TFind) (l : List TClaim) (o : List Bool) (now : Int) => l.length ≤ 1073741823 ∧ o.length ≤ 1099511627776) ⟨⟨f_Thing_Id, f_Thing_Kind, f_Thing_Colour, f_Thing_Size, f_Thing_Worth⟩, f_Place, f_At, f_Finder⟩ [] o now, (fun (f : TFind) (l : List TClaim) (o : List Bool) (now : Int) => (encTTask (mTaskOf f l o now) : D)) ⟨⟨f_Thing_Id, f_Thing_Kind, f_Thing_Colour, f_Thing_Size, f_Thing_Worth⟩, f_Place, f_At, f_Finder⟩ [] o now, (fun (f : TFind) (l : List TClaim) (o : List Bool) (now : Int) => []) ⟨⟨f_Thing_Id, f_Thing_Kind, f_Thing_Colour, f_Thing_Size, f_Thing_Worth⟩, f_Place, f_At, f_Finder⟩ [] o now) :=
  mkCon_fn (fun x y h _ => c51_inj x y h) ((⟨⟨f_Thing_Id, f_Thing_Kind, f_Thing_Colour, f_Thing_Size, f_Thing_Worth⟩, f_Place, f_At, f_Finder⟩, [], o, now) : TFind × (List TClaim) × (List Bool) × Int) (by simp [nz, nz1, ML_nil, encLB, encLTClaim, encTFind, encTThing]) rfl
@[simp] theorem c51_fn2 (f_Thing_Id : Int) (f_Thing_Kind : Int) (f_Thing_Colour : Int) (f_Thing_Size : Int) (f_Thing_Worth : Int) (f_Place : Int) (f_At : Int) (f_Finder : Int) (l : List TClaim) (s_o : Nat) (z_o : D) (now : Int) : c51.fn [.agg [.lit (.int .i64 f_Thing_Id), .lit (.int .i64 f_Thing_Kind), .lit (.int .i64 f_Thing_Colour), .lit (.int .i64 f_Thing_Size), .lit (.int .i64 f_Thing_Worth), .lit (.int .i64 f_Place), .lit (.int .i64 f_At), .lit (.int .i64 f_Finder)], .sl false 5 yTClaim (ML encTClaim l), .sl false s_o z_o [], .lit (.int .i64 now)] [] = some ((fun (f : TFind) (l : List TClaim) (o : List Bool) (now : Int) => l.length ≤ 1073741823 ∧ o.length ≤ 1099511627776) ⟨⟨f_Thing_Id, f_Thing_Kind, f_Thing_Colour, f_Thing_Size, f_Thing_Worth⟩, f_Place, f_At, f_Finder⟩ l [] now, (fun (f : TFind) (l : List TClaim) (o : List Bool) (now : Int) => (encTTask (mTaskOf f l o now) : D)) ⟨⟨f_Thing_Id, f_Thing_Kind, f_Thing_Colour, f_Thing_Size, f_Thing_Worth⟩, f_Place, f_At, f_Finder⟩ l [] now, (fun (f : TFind) (l : List TClaim) (o : List Bool) (now : Int) => []) ⟨⟨f_Thing_Id, f_Thing_Kind, f_Thing_Colour, f_Thing_Size, f_Thing_Worth⟩, f_Place, f_At, f_Finder⟩ l [] now) :=
  mkCon_fn (fun x y h _ => c51_inj x y h) ((⟨⟨f_Thing_Id, f_Thing_Kind, f_Thing_Colour, f_Thing_Size, f_Thing_Worth⟩, f_Place, f_At, f_Finder⟩, l, [], now) : TFind × (List TClaim) × (List Bool) × Int) (by simp [nz, nz1, ML_nil, encLB, encLTClaim, encTFind, encTThing]) rfl
@[simp] theorem c51_fn3 (f_Thing_Id : Int) (f_Thing_Kind : Int) (f_Thing_Colour : Int) (f_Thing_Size : Int) (f_Thing_Worth : Int) (f_Place : Int) (f_At : Int) (f_Finder : Int) (s_l : Nat) (z_l : D) (s_o : Nat) (z_o : D) (now : Int) : c51.fn [.agg [.lit (.int .i64 f_Thing_Id), .lit (.int .i64 f_Thing_Kind), .lit (.int .i64 f_Thing_Colour), .lit (.int .i64 f_Thing_Size), .lit (.int .i64 f_Thing_Worth), .lit (.int .i64 f_Place), .lit (.int .i64 f_At), .lit (.int .i64 f_Finder)], .sl false s_l z_l [], .sl false s_o z_o [], .lit (.int .i64 now)] [] = some ((fun (f : TFind) (l : List TClaim) (o : List Bool) (now : Int) => l.length ≤ 1073741823 ∧ o.length ≤ 1099511627776) ⟨⟨f_Thing_Id, f_Thing_Kind, f_Thing_Colour, f_Thing_Size, f_Thing_Worth⟩, f_Place, f_At, f_Finder⟩ [] [] now, (fun (f : TFind) (l : List TClaim) (o : List Bool) (now : Int) => (encTTask (mTaskOf f l o now) : D)) ⟨⟨f_Thing_Id, f_Thing_Kind, f_Thing_Colour, f_Thing_Size, f_Thing_Worth⟩, f_Place, f_At, f_Finder⟩ [] [] now, (fun (f : TFind) (l : List TClaim) (o : List Bool) (now : Int) => []) ⟨⟨f_Thing_Id, f_Thing_Kind, f_Thing_Colour, f_Thing_Size, f_Thing_Worth⟩, f_Place, f_At, f_Finder⟩ [] [] now) :=
  mkCon_fn (fun x y h _ => c51_inj x y h) ((⟨⟨f_Thing_Id, f_Thing_Kind, f_Thing_Colour, f_Thing_Size, f_Thing_Worth⟩, f_Place, f_At, f_Finder⟩, [], [], now) : TFind × (List TClaim) × (List Bool) × Int) (by simp [nz, nz1, ML_nil, encLB, encLTClaim, encTFind, encTThing]) rfl
theorem c51_pc (f : TFind) (l : List TClaim) (o : List Bool) (now : Int) (hpre : l.length ≤ 1073741823 ∧ o.length ≤ 1099511627776) : PCo Tryd.prog 51 [encTFind f, encLTClaim l, encLB o, dI now] (Tab.of []) (encTTask (mTaskOf f l o now)) (Tab.of []) := by
  refine pco_of_run [3] (E := ⟨[c39, c48, c65, c68, c79, c80, c82], []⟩) (m := false) (base := 0) (Env.ok_cons c39_ok (Env.ok_cons c48_ok (Env.ok_cons c65_ok (Env.ok_cons c68_ok (Env.ok_cons c79_ok (Env.ok_cons c80_ok (Env.ok_cons c82_ok Env.ok_nil))))))) G_ok mix 300 6 Tryd.func51 (by kernel_rfl) rfl (by kernel_rfl) (by kernel_rfl) rfl ?_
  obtain ⟨pre1, pre2⟩ := hpre
  cases h1 : mIsFind f with
  | false =>
    have e : mTaskOf f l o now = ⟨0, 0, 0⟩ := by simp [mTaskOf, h1]
    rw [e]
    obtain ⟨⟨f_Thing_Id, f_Thing_Kind, f_Thing_Colour, f_Thing_Size, f_Thing_Worth⟩, f_Place, f_At, f_Finder⟩ := f
    simp [Tryd.f51, h1]
  | true =>
    cases h2 : isCal o with
    | false =>
      have e : mTaskOf f l o now = ⟨0, 0, 0⟩ := by simp [mTaskOf, h1, h2]
      rw [e]
      obtain ⟨⟨f_Thing_Id, f_Thing_Kind, f_Thing_Colour, f_Thing_Size, f_Thing_Worth⟩, f_Place, f_At, f_Finder⟩ := f
      simp [Tryd.f51, h1, h2]
      omega
    | true =>
      cases h3 : mIn now 0 100000 with
      | false =>
        have e : mTaskOf f l o now = ⟨0, 0, 0⟩ := by simp [mTaskOf, h1, h2, h3]
        rw [e]
        obtain ⟨⟨f_Thing_Id, f_Thing_Kind, f_Thing_Colour, f_Thing_Size, f_Thing_Worth⟩, f_Place, f_At, f_Finder⟩ := f
        simp [Tryd.f51, h1, h2, h3]
        omega
      | true =>
        have hb := mIn_iff.1 h3
        have hd := tdiv_bd hb.1 (show (0 : Int) < 24 by omega)
        have e : mTaskOf f l o now = ⟨f.Thing.Id, mFateOf l now f, dayT (mFateOf l now f) f o now⟩ := by simp [mTaskOf, h1, h2, h3]
        have hf := fate_bd l now f
        rw [e]
        have hv : mFateOf l now f = 1 ∨ mFateOf l now f = 0 ∨ (¬ mFateOf l now f = 1 ∧ ¬ mFateOf l now f = 0) := by omega
        obtain ⟨⟨f_Thing_Id, f_Thing_Kind, f_Thing_Colour, f_Thing_Size, f_Thing_Worth⟩, f_Place, f_At, f_Finder⟩ := f
        rcases hv with hv | hv | ⟨hv, hv2⟩
        · simp [Tryd.f51, h1, h2, h3, hv, dayT]
          repeat' (first | omega | refine And.intro ?_ ?_ | intro _)
        · simp [Tryd.f51, h1, h2, h3, hv, dayT]
          repeat' (first | omega | refine And.intro ?_ ?_ | intro _)
        · simp [Tryd.f51, h1, h2, h3, hv, hv2, dayT]
          repeat' (first | omega | refine And.intro ?_ ?_ | intro _)
theorem c51_ok : c51.ok Tryd.prog := mkCon_ok fun ⟨f, l, o, now⟩ hpre => c51_pc f l o now hpre
/-- loop.example/g03007/laws.FnExactTaskOf -/
theorem law13 (f : TFind) (wf : wfTFind f) (l : List TClaim) (wl : wfLTClaim l) (o : List Bool) (wo : wfLB o) (now : Int) (wnow : inR .i64 now) : PCo Tryd.prog 13 [encTFind f, encLTClaim l, encLB o, dI now] (Tab.of []) (dB true) (Tab.of []) := by
  obtain ⟨⟨f_Thing_Id, f_Thing_Kind, f_Thing_Colour, f_Thing_Size, f_Thing_Worth⟩, f_Place, f_At, f_Finder⟩ := f
  refine pco_of_run [] (E := ⟨[c19, c36, c38, c40, c47, c49, c50, c51, c52], []⟩) (m := false) (base := 0) (Env.ok_cons c19_ok (Env.ok_cons c36_ok (Env.ok_cons c38_ok (Env.ok_cons c40_ok (Env.ok_cons c47_ok (Env.ok_cons c49_ok (Env.ok_cons c50_ok (Env.ok_cons c51_ok (Env.ok_cons c52_ok Env.ok_nil))))))))) G_ok mix 400 6 Tryd.func13 (by kernel_rfl) rfl (by kernel_rfl) (by kernel_rfl) rfl ?_
  simp (config := {maxSteps := 3000000}) [Tryd.f13]
  have h1 := wl.1
  refine fun ho => ⟨h1, fun ha => ?_⟩
  have hf : (l.length : Int) ≤ 1048576 := by split at ha <;> omega
  repeat' (first | omega | refine And.intro ?_ ?_ | intro _)
theorem law13_pc (D0 : D) (h0 : Sh G 9 27 D0) (D1 : D) (h1 : Sh G 9 48 D1) (D2 : D) (h2 : Sh G 9 59 D2) (D3 : D) (h3 : Sh G 9 3 D3) : PC Tryd.prog 13 [D0, D1, D2, D3] (dB true) [] := by
  obtain ⟨f, rfl, wf⟩ := sh27 (n := 6) h0
  obtain ⟨l, rfl, wl⟩ := sh48 (n := 6) h1
  obtain ⟨o, rfl, wo⟩ := sh59 (n := 7) h2
  obtain ⟨now, rfl, wnow⟩ := sh3 (n := 8) h3
  exact law13 f wf l wl o wo now wnow

end Go.Proofs.YtobofamoagbacaaDoor
