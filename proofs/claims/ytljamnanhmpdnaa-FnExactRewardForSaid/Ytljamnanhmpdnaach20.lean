/- Contracts of the functions that the laws run. -/
import Derived.Test.Ytljamnanhmpdnaach04
import Derived.Test.YtljamnanhmpdnaaEngB
namespace Go.Proofs.Ytljamnanhmpdnaa
open Go Go.Eng
set_option linter.unusedSimpArgs false
set_option linter.unusedVariables false
set_option maxRecDepth 10000
set_option maxHeartbeats 1000000
theorem tdiv10 {x : Int} (h : 0 ≤ x) : x.tdiv 10 = x / 10 := Int.tdiv_eq_ediv_of_nonneg h
theorem tdiv100 {x : Int} (h : 0 ≤ x) : x.tdiv 100 = x / 100 := Int.tdiv_eq_ediv_of_nonneg h
theorem isThing_of {x : TThing} (h : mIsThing x = true) : 1 ≤ x.Id ∧ x.Id ≤ 999 ∧ 1 ≤ x.Kind ∧ x.Kind ≤ 8 ∧ 0 ≤ x.Colour ∧ x.Colour ≤ 7 ∧ 1 ≤ x.Size ∧ x.Size ≤ 50 ∧ 0 ≤ x.Worth ∧ x.Worth ≤ 10000000 := by
  simp [mIsThing, mIn] at h; omega
def mFee (x : TThing) (days : Int) : Int := if mIsThing x && mIn days 0 1000 then min (100 + 10 * days) (x.Worth / 10) else 0
/-- loop.example/g03007/spec.FeeFor -/
noncomputable def c49 : Con := mkCon 49 false (α := TThing × Int) (fun x => (fun (x : TThing) (days : Int) => [encTThing x, dI days]) x.1 x.2) (fun _ => []) (fun x => (fun (x : TThing) (days : Int) => True) x.1 x.2) (fun x => (fun (x : TThing) (days : Int) => (dI (mFee x days) : D)) x.1 x.2) (fun x => (fun (x : TThing) (days : Int) => []) x.1 x.2)
@[simp] theorem c49_f : c49.f = 49 := rfl
@[simp] theorem c49_own : c49.own = false := rfl
theorem c49_inj : ∀ u_ v_ : TThing × Int, ((fun x => (fun (x : TThing) (days : Int) => [encTThing x, dI days]) x.1 x.2) u_).map nz = ((fun x => (fun (x : TThing) (days : Int) => [encTThing x, dI days]) x.1 x.2) v_).map nz → u_ = v_ := by
  intro u_ v_ h
  obtain ⟨⟨x_Id, x_Kind, x_Colour, x_Size, x_Worth⟩, days⟩ := u_
  obtain ⟨⟨x_Id', x_Kind', x_Colour', x_Size', x_Worth'⟩, days'⟩ := v_
  simp [nz_lit, nz1_lit, nz_agg, nz_sl, nz1_sl, encTThing] at h
  first | (simp [h]; done) | (obtain ⟨⟩ := h; simp_all; done) | simp_all
@[simp] theorem c49_fn (x_Id : Int) (x_Kind : Int) (x_Colour : Int) (x_Size : Int) (x_Worth : Int) (days : Int) : c49.fn [.agg [.lit (.int .i64 x_Id), .lit (.int .i64 x_Kind), .lit (.int .i64 x_Colour), .lit (.int .i64 x_Size), .lit (.int .i64 x_Worth)], .lit (.int .i64 days)] [] = some ((fun (x : TThing) (days : Int) => True) ⟨x_Id, x_Kind, x_Colour, x_Size, x_Worth⟩ days, (fun (x : TThing) (days : Int) => (dI (mFee x days) : D)) ⟨x_Id, x_Kind, x_Colour, x_Size, x_Worth⟩ days, (fun (x : TThing) (days : Int) => []) ⟨x_Id, x_Kind, x_Colour, x_Size, x_Worth⟩ days) :=
  mkCon_fn (fun x y h _ => c49_inj x y h) ((⟨x_Id, x_Kind, x_Colour, x_Size, x_Worth⟩, days) : TThing × Int) (by simp [nz, nz1, ML_nil, encTThing]) rfl
theorem c49_pc (x : TThing) (days : Int) : PCo Try.prog 49 [encTThing x, dI days] (Tab.of []) (dI (mFee x days)) (Tab.of []) := by
  refine pco_of_run [] (E := ⟨[c61, c77, c78], []⟩) (m := false) (base := 0) (Env.ok_cons c61_ok (Env.ok_cons c77_ok (Env.ok_cons c78_ok Env.ok_nil))) G_ok mix 300 6 Try.func49 (by kernel_rfl) rfl (by kernel_rfl) (by kernel_rfl) rfl ?_
  simp [Try.f49]
  refine ⟨fun h => by grind [mFee], fun h1 h2 => ?_⟩
  have h3 := isThing_of h1
  have h4 := mIn_iff.1 h2
  have h5 := tdiv10 (x := x.Worth) (by omega)
  have e : mFee x days = min (100 + 10 * days) (x.Worth / 10) := by simp [mFee, h1, h2]
  repeat' (first | omega | refine And.intro ?_ ?_ | intro _)
  all_goals (rw [e]; omega)
theorem c49_ok : c49.ok Try.prog := mkCon_ok fun ⟨x, days⟩ hpre => c49_pc x days
/-- loop.example/g03007/impl.FeeFor -/
noncomputable def c51 : Con := mkCon 51 false (α := TThing × Int) (fun x => (fun (x : TThing) (days : Int) => [encTThing x, dI days]) x.1 x.2) (fun _ => []) (fun x => (fun (x : TThing) (days : Int) => True) x.1 x.2) (fun x => (fun (x : TThing) (days : Int) => (dI (mFee x days) : D)) x.1 x.2) (fun x => (fun (x : TThing) (days : Int) => []) x.1 x.2)
@[simp] theorem c51_f : c51.f = 51 := rfl
@[simp] theorem c51_own : c51.own = false := rfl
theorem c51_inj : ∀ u_ v_ : TThing × Int, ((fun x => (fun (x : TThing) (days : Int) => [encTThing x, dI days]) x.1 x.2) u_).map nz = ((fun x => (fun (x : TThing) (days : Int) => [encTThing x, dI days]) x.1 x.2) v_).map nz → u_ = v_ := by
  intro u_ v_ h
  obtain ⟨⟨x_Id, x_Kind, x_Colour, x_Size, x_Worth⟩, days⟩ := u_
  obtain ⟨⟨x_Id', x_Kind', x_Colour', x_Size', x_Worth'⟩, days'⟩ := v_
  simp [nz_lit, nz1_lit, nz_agg, nz_sl, nz1_sl, encTThing] at h
  first | (simp [h]; done) | (obtain ⟨⟩ := h; simp_all; done) | simp_all
@[simp] theorem c51_fn (x_Id : Int) (x_Kind : Int) (x_Colour : Int) (x_Size : Int) (x_Worth : Int) (days : Int) : c51.fn [.agg [.lit (.int .i64 x_Id), .lit (.int .i64 x_Kind), .lit (.int .i64 x_Colour), .lit (.int .i64 x_Size), .lit (.int .i64 x_Worth)], .lit (.int .i64 days)] [] = some ((fun (x : TThing) (days : Int) => True) ⟨x_Id, x_Kind, x_Colour, x_Size, x_Worth⟩ days, (fun (x : TThing) (days : Int) => (dI (mFee x days) : D)) ⟨x_Id, x_Kind, x_Colour, x_Size, x_Worth⟩ days, (fun (x : TThing) (days : Int) => []) ⟨x_Id, x_Kind, x_Colour, x_Size, x_Worth⟩ days) :=
  mkCon_fn (fun x y h _ => c51_inj x y h) ((⟨x_Id, x_Kind, x_Colour, x_Size, x_Worth⟩, days) : TThing × Int) (by simp [nz, nz1, ML_nil, encTThing]) rfl
theorem c51_pc (x : TThing) (days : Int) : PCo Try.prog 51 [encTThing x, dI days] (Tab.of []) (dI (mFee x days)) (Tab.of []) := by
  refine pco_of_run [] (E := ⟨[c79, c80, c81], []⟩) (m := false) (base := 0) (Env.ok_cons c79_ok (Env.ok_cons c80_ok (Env.ok_cons c81_ok Env.ok_nil))) G_ok mix 300 6 Try.func51 (by kernel_rfl) rfl (by kernel_rfl) (by kernel_rfl) rfl ?_
  simp [Try.f51]
  refine ⟨fun h => by grind [mFee], fun h1 h2 => ?_⟩
  have h3 := isThing_of h1
  have h4 := mIn_iff.1 h2
  have h5 := tdiv10 (x := x.Worth) (by omega)
  have e : mFee x days = min (100 + 10 * days) (x.Worth / 10) := by simp [mFee, h1, h2]
  repeat' (first | omega | refine And.intro ?_ ?_ | intro _)
  all_goals (rw [e]; omega)
theorem c51_ok : c51.ok Try.prog := mkCon_ok fun ⟨x, days⟩ hpre => c51_pc x days
def mReward (x : TThing) : Int := if mIsThing x then (min x.Worth 50000 * 5) / 100 + ((x.Worth - min x.Worth 50000) * 3) / 100 else 0
/-- loop.example/g03007/spec.RewardFor -/
noncomputable def c52 : Con := mkCon 52 false (α := TThing) (fun x => (fun (x : TThing) => [encTThing x]) x) (fun _ => []) (fun x => (fun (x : TThing) => True) x) (fun x => (fun (x : TThing) => (dI (mReward x) : D)) x) (fun x => (fun (x : TThing) => []) x)
@[simp] theorem c52_f : c52.f = 52 := rfl
@[simp] theorem c52_own : c52.own = false := rfl
theorem c52_inj : ∀ u_ v_ : TThing, ((fun x => (fun (x : TThing) => [encTThing x]) x) u_).map nz = ((fun x => (fun (x : TThing) => [encTThing x]) x) v_).map nz → u_ = v_ := by
  intro u_ v_ h
  obtain ⟨x_Id, x_Kind, x_Colour, x_Size, x_Worth⟩ := u_
  obtain ⟨x_Id', x_Kind', x_Colour', x_Size', x_Worth'⟩ := v_
  simp [nz_lit, nz1_lit, nz_agg, nz_sl, nz1_sl, encTThing] at h
  first | (simp [h]; done) | (obtain ⟨⟩ := h; simp_all; done) | simp_all
@[simp] theorem c52_fn (x_Id : Int) (x_Kind : Int) (x_Colour : Int) (x_Size : Int) (x_Worth : Int) : c52.fn [.agg [.lit (.int .i64 x_Id), .lit (.int .i64 x_Kind), .lit (.int .i64 x_Colour), .lit (.int .i64 x_Size), .lit (.int .i64 x_Worth)]] [] = some ((fun (x : TThing) => True) ⟨x_Id, x_Kind, x_Colour, x_Size, x_Worth⟩, (fun (x : TThing) => (dI (mReward x) : D)) ⟨x_Id, x_Kind, x_Colour, x_Size, x_Worth⟩, (fun (x : TThing) => []) ⟨x_Id, x_Kind, x_Colour, x_Size, x_Worth⟩) :=
  mkCon_fn (fun x y h _ => c52_inj x y h) (⟨x_Id, x_Kind, x_Colour, x_Size, x_Worth⟩ : TThing) (by simp [nz, nz1, ML_nil, encTThing]) rfl
theorem c52_pc (x : TThing) : PCo Try.prog 52 [encTThing x] (Tab.of []) (dI (mReward x)) (Tab.of []) := by
  refine pco_of_run [] (E := ⟨[c77, c78], []⟩) (m := false) (base := 0) (Env.ok_cons c77_ok (Env.ok_cons c78_ok Env.ok_nil)) G_ok mix 300 6 Try.func52 (by kernel_rfl) rfl (by kernel_rfl) (by kernel_rfl) rfl ?_
  simp [Try.f52]
  refine ⟨fun h => by grind [mReward], fun h1 => ?_⟩
  have h3 := isThing_of h1
  have h5 := tdiv100 (x := 5 * min 50000 x.Worth) (by omega)
  have h6 := tdiv100 (x := 3 * (x.Worth - min 50000 x.Worth)) (by omega)
  have e : mReward x = (min x.Worth 50000 * 5) / 100 + ((x.Worth - min x.Worth 50000) * 3) / 100 := by simp [mReward, h1]
  repeat' (first | omega | refine And.intro ?_ ?_ | intro _)
  all_goals (rw [e]; omega)
theorem c52_ok : c52.ok Try.prog := mkCon_ok fun x hpre => c52_pc x
/-- loop.example/g03007/impl.RewardFor -/
noncomputable def c53 : Con := mkCon 53 false (α := TThing) (fun x => (fun (x : TThing) => [encTThing x]) x) (fun _ => []) (fun x => (fun (x : TThing) => True) x) (fun x => (fun (x : TThing) => (dI (mReward x) : D)) x) (fun x => (fun (x : TThing) => []) x)
@[simp] theorem c53_f : c53.f = 53 := rfl
@[simp] theorem c53_own : c53.own = false := rfl
theorem c53_inj : ∀ u_ v_ : TThing, ((fun x => (fun (x : TThing) => [encTThing x]) x) u_).map nz = ((fun x => (fun (x : TThing) => [encTThing x]) x) v_).map nz → u_ = v_ := by
  intro u_ v_ h
  obtain ⟨x_Id, x_Kind, x_Colour, x_Size, x_Worth⟩ := u_
  obtain ⟨x_Id', x_Kind', x_Colour', x_Size', x_Worth'⟩ := v_
  simp [nz_lit, nz1_lit, nz_agg, nz_sl, nz1_sl, encTThing] at h
  first | (simp [h]; done) | (obtain ⟨⟩ := h; simp_all; done) | simp_all
@[simp] theorem c53_fn (x_Id : Int) (x_Kind : Int) (x_Colour : Int) (x_Size : Int) (x_Worth : Int) : c53.fn [.agg [.lit (.int .i64 x_Id), .lit (.int .i64 x_Kind), .lit (.int .i64 x_Colour), .lit (.int .i64 x_Size), .lit (.int .i64 x_Worth)]] [] = some ((fun (x : TThing) => True) ⟨x_Id, x_Kind, x_Colour, x_Size, x_Worth⟩, (fun (x : TThing) => (dI (mReward x) : D)) ⟨x_Id, x_Kind, x_Colour, x_Size, x_Worth⟩, (fun (x : TThing) => []) ⟨x_Id, x_Kind, x_Colour, x_Size, x_Worth⟩) :=
  mkCon_fn (fun x y h _ => c53_inj x y h) (⟨x_Id, x_Kind, x_Colour, x_Size, x_Worth⟩ : TThing) (by simp [nz, nz1, ML_nil, encTThing]) rfl
theorem c53_pc (x : TThing) : PCo Try.prog 53 [encTThing x] (Tab.of []) (dI (mReward x)) (Tab.of []) := by
  refine pco_of_run [] (E := ⟨[c79, c81], []⟩) (m := false) (base := 0) (Env.ok_cons c79_ok (Env.ok_cons c81_ok Env.ok_nil)) G_ok mix 300 6 Try.func53 (by kernel_rfl) rfl (by kernel_rfl) (by kernel_rfl) rfl ?_
  simp [Try.f53]
  refine ⟨fun h => by grind [mReward], fun h1 => ?_⟩
  have h3 := isThing_of h1
  have h5 := tdiv100 (x := min x.Worth 50000 * 5) (by omega)
  have h6 := tdiv100 (x := (x.Worth - min x.Worth 50000) * 3) (by omega)
  have e : mReward x = (min x.Worth 50000 * 5) / 100 + ((x.Worth - min x.Worth 50000) * 3) / 100 := by simp [mReward, h1]
  repeat' (first | omega | refine And.intro ?_ ?_ | intro _)
  all_goals (rw [e]; omega)
theorem c53_ok : c53.ok Try.prog := mkCon_ok fun x hpre => c53_pc x
/-- loop.example/g03007/laws.FnExactFeeFor -/
theorem law13 (x : TThing) (wx : wfTThing x) (days : Int) (wdays : inR .i64 days) : PCo Try.prog 13 [encTThing x, dI days] (Tab.of []) (dB true) (Tab.of []) := by
  obtain ⟨x_Id, x_Kind, x_Colour, x_Size, x_Worth⟩ := x
  refine pco_of_run [] (E := ⟨[c49, c50, c51], []⟩) (m := false) (base := 0) (Env.ok_cons c49_ok (Env.ok_cons c50_ok (Env.ok_cons c51_ok Env.ok_nil))) G_ok mix 400 6 Try.func13 (by kernel_rfl) rfl (by kernel_rfl) (by kernel_rfl) rfl ?_
  simp [Try.f13]
  repeat' (first | omega | assumption | refine And.intro ?_ ?_ | intro _)
  all_goals first | omega | grind | (split at * <;> omega)
theorem law13_pc (D0 : D) (h0 : Sh G 9 65 D0) (D1 : D) (h1 : Sh G 9 3 D1) : PC Try.prog 13 [D0, D1] (dB true) [] := by
  obtain ⟨x, rfl, wx⟩ := sh65 (n := 7) h0
  obtain ⟨days, rfl, wdays⟩ := sh3 (n := 8) h1
  exact law13 x wx days wdays
/-- loop.example/g03007/laws.FnExactRewardFor -/
theorem law14 (x : TThing) (wx : wfTThing x) : PCo Try.prog 14 [encTThing x] (Tab.of []) (dB true) (Tab.of []) := by
  obtain ⟨x_Id, x_Kind, x_Colour, x_Size, x_Worth⟩ := x
  refine pco_of_run [] (E := ⟨[c50, c52, c53], []⟩) (m := false) (base := 0) (Env.ok_cons c50_ok (Env.ok_cons c52_ok (Env.ok_cons c53_ok Env.ok_nil))) G_ok mix 400 6 Try.func14 (by kernel_rfl) rfl (by kernel_rfl) (by kernel_rfl) rfl ?_
  simp [Try.f14]
  repeat' (first | omega | assumption | refine And.intro ?_ ?_ | intro _)
  all_goals first | omega | grind | (split at * <;> omega)
theorem law14_pc (D0 : D) (h0 : Sh G 9 65 D0) : PC Try.prog 14 [D0] (dB true) [] := by
  obtain ⟨x, rfl, wx⟩ := sh65 (n := 7) h0
  exact law14 x wx
/-- loop.example/g03007/laws.toShare -/
noncomputable def c83 : Con := mkCon 83 false (α := TShare) (fun x => (fun (a : TShare) => [encTShare a]) x) (fun _ => []) (fun x => (fun (a : TShare) => True) x) (fun x => (fun (a : TShare) => (encTShare a : D)) x) (fun x => (fun (a : TShare) => []) x)
@[simp] theorem c83_f : c83.f = 83 := rfl
@[simp] theorem c83_own : c83.own = false := rfl
theorem c83_inj : ∀ u_ v_ : TShare, ((fun x => (fun (a : TShare) => [encTShare a]) x) u_).map nz = ((fun x => (fun (a : TShare) => [encTShare a]) x) v_).map nz → u_ = v_ := by
  intro u_ v_ h
  obtain ⟨a_Who, a_Cents⟩ := u_
  obtain ⟨a_Who', a_Cents'⟩ := v_
  simp [nz_lit, nz1_lit, nz_agg, nz_sl, nz1_sl, encTShare] at h
  first | (simp [h]; done) | (obtain ⟨⟩ := h; simp_all; done) | simp_all
@[simp] theorem c83_fn (a_Who : Int) (a_Cents : Int) : c83.fn [.agg [.lit (.int .i64 a_Who), .lit (.int .i64 a_Cents)]] [] = some ((fun (a : TShare) => True) ⟨a_Who, a_Cents⟩, (fun (a : TShare) => (encTShare a : D)) ⟨a_Who, a_Cents⟩, (fun (a : TShare) => []) ⟨a_Who, a_Cents⟩) :=
  mkCon_fn (fun x y h _ => c83_inj x y h) (⟨a_Who, a_Cents⟩ : TShare) (by simp [nz, nz1, ML_nil, encTShare]) rfl
theorem c83_pc (a : TShare) : PCo Try.prog 83 [encTShare a] (Tab.of []) (encTShare a) (Tab.of []) := by
  obtain ⟨a_Who, a_Cents⟩ := a
  refine pco_of_run [] (E := ⟨[], []⟩) (m := false) (base := 0) Env.ok_nil G_ok mix 300 6 Try.func83 (by kernel_rfl) rfl (by kernel_rfl) (by kernel_rfl) rfl ?_
  simp [Try.f83]
  all_goals first | omega | (rw [Bool.eq_iff_iff]; simp; omega) | grind
theorem c83_ok : c83.ok Try.prog := mkCon_ok fun a hpre => c83_pc a
/-- loop.example/g03007/laws.eqShare -/
noncomputable def c85 : Con := mkCon 85 false (α := TShare × TShare) (fun x => (fun (a : TShare) (b : TShare) => [encTShare a, encTShare b]) x.1 x.2) (fun _ => []) (fun x => (fun (a : TShare) (b : TShare) => True) x.1 x.2) (fun x => (fun (a : TShare) (b : TShare) => (dB (decide (a = b)) : D)) x.1 x.2) (fun x => (fun (a : TShare) (b : TShare) => []) x.1 x.2)
@[simp] theorem c85_f : c85.f = 85 := rfl
@[simp] theorem c85_own : c85.own = false := rfl
theorem c85_inj : ∀ u_ v_ : TShare × TShare, ((fun x => (fun (a : TShare) (b : TShare) => [encTShare a, encTShare b]) x.1 x.2) u_).map nz = ((fun x => (fun (a : TShare) (b : TShare) => [encTShare a, encTShare b]) x.1 x.2) v_).map nz → u_ = v_ := by
  intro u_ v_ h
  obtain ⟨⟨a_Who, a_Cents⟩, ⟨b_Who, b_Cents⟩⟩ := u_
  obtain ⟨⟨a_Who', a_Cents'⟩, ⟨b_Who', b_Cents'⟩⟩ := v_
  simp [nz_lit, nz1_lit, nz_agg, nz_sl, nz1_sl, encTShare] at h
  first | (simp [h]; done) | (obtain ⟨⟩ := h; simp_all; done) | simp_all
@[simp] theorem c85_fn (a_Who : Int) (a_Cents : Int) (b_Who : Int) (b_Cents : Int) : c85.fn [.agg [.lit (.int .i64 a_Who), .lit (.int .i64 a_Cents)], .agg [.lit (.int .i64 b_Who), .lit (.int .i64 b_Cents)]] [] = some ((fun (a : TShare) (b : TShare) => True) ⟨a_Who, a_Cents⟩ ⟨b_Who, b_Cents⟩, (fun (a : TShare) (b : TShare) => (dB (decide (a = b)) : D)) ⟨a_Who, a_Cents⟩ ⟨b_Who, b_Cents⟩, (fun (a : TShare) (b : TShare) => []) ⟨a_Who, a_Cents⟩ ⟨b_Who, b_Cents⟩) :=
  mkCon_fn (fun x y h _ => c85_inj x y h) ((⟨a_Who, a_Cents⟩, ⟨b_Who, b_Cents⟩) : TShare × TShare) (by simp [nz, nz1, ML_nil, encTShare]) rfl
theorem c85_pc (a : TShare) (b : TShare) : PCo Try.prog 85 [encTShare a, encTShare b] (Tab.of []) (dB (decide (a = b))) (Tab.of []) := by
  obtain ⟨a_Who, a_Cents⟩ := a
  obtain ⟨b_Who, b_Cents⟩ := b
  refine pco_of_run [] (E := ⟨[], []⟩) (m := false) (base := 0) Env.ok_nil G_ok mix 300 6 Try.func85 (by kernel_rfl) rfl (by kernel_rfl) (by kernel_rfl) rfl ?_
  simp [Try.f85]
  all_goals first | omega | (rw [Bool.eq_iff_iff]; simp; omega) | grind
theorem c85_ok : c85.ok Try.prog := mkCon_ok fun ⟨a, b⟩ hpre => c85_pc a b
/-- loop.example/g03007/laws.szShareS -/
noncomputable def c54 : Con := mkCon 54 false (α := (List TShare) × Int) (fun x => (fun (l : List TShare) (left : Int) => [encLTShare l, dI left]) x.1 x.2) (fun _ => []) (fun x => (fun (l : List TShare) (left : Int) => l.length ≤ maxLen ∧ 0 ≤ left ∧ left ≤ 1099511627776) x.1 x.2) (fun x => (fun (l : List TShare) (left : Int) => (dI (if left - l.length < 0 then -1 else left - l.length) : D)) x.1 x.2) (fun x => (fun (l : List TShare) (left : Int) => []) x.1 x.2)
@[simp] theorem c54_f : c54.f = 54 := rfl
@[simp] theorem c54_own : c54.own = false := rfl
theorem c54_inj : ∀ u_ v_ : (List TShare) × Int, ((fun x => (fun (l : List TShare) (left : Int) => [encLTShare l, dI left]) x.1 x.2) u_).map nz = ((fun x => (fun (l : List TShare) (left : Int) => [encLTShare l, dI left]) x.1 x.2) v_).map nz → u_ = v_ := by
  intro u_ v_ h
  obtain ⟨l, left⟩ := u_
  obtain ⟨l', left'⟩ := v_
  simp [nz_lit, nz1_lit, nz_agg, nz_sl, nz1_sl, encLTShare] at h
  first | (simp [h]; done) | (obtain ⟨⟩ := h; simp_all; done) | simp_all
@[simp] theorem c54_fn (l : List TShare) (left : Int) : c54.fn [.sl false 2 yTShare (ML encTShare l), .lit (.int .i64 left)] [] = some ((fun (l : List TShare) (left : Int) => l.length ≤ maxLen ∧ 0 ≤ left ∧ left ≤ 1099511627776) l left, (fun (l : List TShare) (left : Int) => (dI (if left - l.length < 0 then -1 else left - l.length) : D)) l left, (fun (l : List TShare) (left : Int) => []) l left) :=
  mkCon_fn (fun x y h _ => c54_inj x y h) ((l, left) : (List TShare) × Int) (by simp [nz, nz1, ML_nil, encLTShare]) rfl
@[simp] theorem c54_fn1 (s_l : Nat) (z_l : D) (left : Int) : c54.fn [.sl false s_l z_l [], .lit (.int .i64 left)] [] = some ((fun (l : List TShare) (left : Int) => l.length ≤ maxLen ∧ 0 ≤ left ∧ left ≤ 1099511627776) [] left, (fun (l : List TShare) (left : Int) => (dI (if left - l.length < 0 then -1 else left - l.length) : D)) [] left, (fun (l : List TShare) (left : Int) => []) [] left) :=
  mkCon_fn (fun x y h _ => c54_inj x y h) (([], left) : (List TShare) × Int) (by simp [nz, nz1, ML_nil, encLTShare]) rfl
theorem c54_pc (l : List TShare) (left : Int) (hpre : l.length ≤ maxLen ∧ 0 ≤ left ∧ left ≤ 1099511627776) : PCo Try.prog 54 [encLTShare l, dI left] (Tab.of []) (dI (if left - l.length < 0 then -1 else left - l.length)) (Tab.of []) := by
  refine pco_of_run [] (E := ⟨[], []⟩) (m := false) (base := 0) Env.ok_nil G_ok mix 300 6 Try.func54 (by kernel_rfl) rfl (by kernel_rfl) (by kernel_rfl) rfl ?_
  simp [Try.f54]
  simp [maxLen] at hpre
  all_goals omega
theorem c54_ok : c54.ok Try.prog := mkCon_ok fun ⟨l, left⟩ hpre => c54_pc l left hpre
/-- loop.example/g03007/laws.toShareS -/
noncomputable def c56 : Con := mkCon 56 false (α := (List TShare)) (fun x => (fun (l : List TShare) => [encLTShare l]) x) (fun _ => []) (fun x => (fun (l : List TShare) => l.length ≤ 1099511627776) x) (fun x => (fun (l : List TShare) => (encLTShare l : D)) x) (fun x => (fun (l : List TShare) => []) x)
@[simp] theorem c56_f : c56.f = 56 := rfl
@[simp] theorem c56_own : c56.own = false := rfl
theorem c56_inj : ∀ u_ v_ : (List TShare), ((fun x => (fun (l : List TShare) => [encLTShare l]) x) u_).map nz = ((fun x => (fun (l : List TShare) => [encLTShare l]) x) v_).map nz → u_ = v_ := by
  intro u_ v_ h
  obtain l := u_
  obtain l' := v_
  simp [nz_lit, nz1_lit, nz_agg, nz_sl, nz1_sl, encLTShare] at h
  first | (simp [h]; done) | (obtain ⟨⟩ := h; simp_all; done) | simp_all
@[simp] theorem c56_fn (l : List TShare) : c56.fn [.sl false 2 yTShare (ML encTShare l)] [] = some ((fun (l : List TShare) => l.length ≤ 1099511627776) l, (fun (l : List TShare) => (encLTShare l : D)) l, (fun (l : List TShare) => []) l) :=
  mkCon_fn (fun x y h _ => c56_inj x y h) (l : (List TShare)) (by simp [nz, nz1, ML_nil, encLTShare]) rfl
@[simp] theorem c56_fn1 (s_l : Nat) (z_l : D) : c56.fn [.sl false s_l z_l []] [] = some ((fun (l : List TShare) => l.length ≤ 1099511627776) [], (fun (l : List TShare) => (encLTShare l : D)) [], (fun (l : List TShare) => []) []) :=
  mkCon_fn (fun x y h _ => c56_inj x y h) ([] : (List TShare)) (by simp [nz, nz1, ML_nil, encLTShare]) rfl
theorem c56_pc (l : List TShare) (hpre : l.length ≤ 1099511627776) : PCo Try.prog 56 [encLTShare l] (Tab.of []) (encLTShare l) (Tab.of []) := by
  refine pco_of_run [] (E := ⟨[c83], []⟩) (m := false) (base := 0) (Env.ok_cons c83_ok Env.ok_nil) G_ok mix 300 6 Try.func56 (by kernel_rfl) rfl (by kernel_rfl) (by kernel_rfl) rfl ?_
  simp [Try.f56]
  refine ⟨by omega, ?_⟩
  refine loop_inv (fun p : Nat => p ≤ l.length) (fun p => [(0, encLTShare l), (3, .own (0, 1) 2 0 l.length), (4, dI p)]) (fun p => [((0, 1), .arr false 2 yTShare (ML encTShare (l.take p ++ List.replicate (l.length - p) ⟨0, 0⟩)))]) 2 (fun p => l.length - p) 0 100 (by simp) (by simp) (by first | (simp; done) | (simp; simp only [ML, List.map_replicate]; rfl)) ?_
  intro p hp
  simp
  refine ⟨fun hlt => ⟨by omega, by omega, Again.mk (p + 1) (by omega) (by simp [fill_step hlt]) (by first | omega | (simp; omega))⟩, fun hge => ?_⟩
  have : p = l.length := by omega
  subst this
  simp
theorem c56_ok : c56.ok Try.prog := mkCon_ok fun l hpre => c56_pc l hpre
/-- loop.example/g03007/laws.eqShareS -/
noncomputable def c58 : Con := mkCon 58 false (α := (List TShare) × (List TShare)) (fun x => (fun (a : List TShare) (b : List TShare) => [encLTShare a, encLTShare b]) x.1 x.2) (fun _ => []) (fun x => (fun (a : List TShare) (b : List TShare) => a.length ≤ 1099511627776 ∧ b.length ≤ 1099511627776) x.1 x.2) (fun x => (fun (a : List TShare) (b : List TShare) => (dB (decide (a = b)) : D)) x.1 x.2) (fun x => (fun (a : List TShare) (b : List TShare) => []) x.1 x.2)
@[simp] theorem c58_f : c58.f = 58 := rfl
@[simp] theorem c58_own : c58.own = false := rfl
theorem c58_inj : ∀ u_ v_ : (List TShare) × (List TShare), ((fun x => (fun (a : List TShare) (b : List TShare) => [encLTShare a, encLTShare b]) x.1 x.2) u_).map nz = ((fun x => (fun (a : List TShare) (b : List TShare) => [encLTShare a, encLTShare b]) x.1 x.2) v_).map nz → u_ = v_ := by
  intro u_ v_ h
  obtain ⟨a, b⟩ := u_
  obtain ⟨a', b'⟩ := v_
  simp [nz_lit, nz1_lit, nz_agg, nz_sl, nz1_sl, encLTShare] at h
  first | (simp [h]; done) | (obtain ⟨⟩ := h; simp_all; done) | simp_all
@[simp] theorem c58_fn (a : List TShare) (b : List TShare) : c58.fn [.sl false 2 yTShare (ML encTShare a), .sl false 2 yTShare (ML encTShare b)] [] = some ((fun (a : List TShare) (b : List TShare) => a.length ≤ 1099511627776 ∧ b.length ≤ 1099511627776) a b, (fun (a : List TShare) (b : List TShare) => (dB (decide (a = b)) : D)) a b, (fun (a : List TShare) (b : List TShare) => []) a b) :=
  mkCon_fn (fun x y h _ => c58_inj x y h) ((a, b) : (List TShare) × (List TShare)) (by simp [nz, nz1, ML_nil, encLTShare]) rfl
@[simp] theorem c58_fn1 (s_a : Nat) (z_a : D) (b : List TShare) : c58.fn [.sl false s_a z_a [], .sl false 2 yTShare (ML encTShare b)] [] = some ((fun (a : List TShare) (b : List TShare) => a.length ≤ 1099511627776 ∧ b.length ≤ 1099511627776) [] b, (fun (a : List TShare) (b : List TShare) => (dB (decide (a = b)) : D)) [] b, (fun (a : List TShare) (b : List TShare) => []) [] b) :=
  mkCon_fn (fun x y h _ => c58_inj x y h) (([], b) : (List TShare) × (List TShare)) (by simp [nz, nz1, ML_nil, encLTShare]) rfl
@[simp] theorem c58_fn2 (a : List TShare) (s_b : Nat) (z_b : D) : c58.fn [.sl false 2 yTShare (ML encTShare a), .sl false s_b z_b []] [] = some ((fun (a : List TShare) (b : List TShare) => a.length ≤ 1099511627776 ∧ b.length ≤ 1099511627776) a [], (fun (a : List TShare) (b : List TShare) => (dB (decide (a = b)) : D)) a [], (fun (a : List TShare) (b : List TShare) => []) a []) :=
  mkCon_fn (fun x y h _ => c58_inj x y h) ((a, []) : (List TShare) × (List TShare)) (by simp [nz, nz1, ML_nil, encLTShare]) rfl
@[simp] theorem c58_fn3 (s_a : Nat) (z_a : D) (s_b : Nat) (z_b : D) : c58.fn [.sl false s_a z_a [], .sl false s_b z_b []] [] = some ((fun (a : List TShare) (b : List TShare) => a.length ≤ 1099511627776 ∧ b.length ≤ 1099511627776) [] [], (fun (a : List TShare) (b : List TShare) => (dB (decide (a = b)) : D)) [] [], (fun (a : List TShare) (b : List TShare) => []) [] []) :=
  mkCon_fn (fun x y h _ => c58_inj x y h) (([], []) : (List TShare) × (List TShare)) (by simp [nz, nz1, ML_nil, encLTShare]) rfl
theorem c58_pc (a : List TShare) (b : List TShare) (hpre : a.length ≤ 1099511627776 ∧ b.length ≤ 1099511627776) : PCo Try.prog 58 [encLTShare a, encLTShare b] (Tab.of []) (dB (decide (a = b))) (Tab.of []) := by
  refine pco_of_run [] (E := ⟨[c85], []⟩) (m := false) (base := 0) (Env.ok_cons c85_ok Env.ok_nil) G_ok mix 300 6 Try.func58 (by kernel_rfl) rfl (by kernel_rfl) (by kernel_rfl) rfl ?_
  simp [Try.f58]
  obtain ⟨pre1, pre2⟩ := hpre
  refine ⟨fun h => ?_, fun h => by intro e; subst e; exact absurd rfl h⟩
  refine loop_inv (fun p : Nat => p ≤ a.length ∧ a.take p = b.take p) (fun p => [(0, encLTShare a), (1, encLTShare b), (5, dI p)]) (fun _ => []) 1 (fun p => a.length - p) 0 100 (by simp) (by simp) (by simp) ?_
  intro p ⟨hp, hi⟩
  simp
  refine ⟨fun hlt => ⟨by omega, fun h2 => ⟨by omega, Again.mk (p + 1) ⟨by omega, take_eq_step hi (by omega) (by omega) h2⟩ (by simp) (by first | omega | (simp; omega))⟩, fun h2 => by intro e; subst e; exact absurd rfl h2⟩, fun hge => ?_⟩
  exact take_eq_full hi (by omega) (by omega)
theorem c58_ok : c58.ok Try.prog := mkCon_ok fun ⟨a, b⟩ hpre => c58_pc a b hpre
def mTotal (l : List TShare) : Int := l.foldl (fun n s => n + min (max s.Cents 0) 10000000) 0
theorem mTotal_at {l : List TShare} {p : Nat} (h : p < l.length) : mTotal (l.take (p + 1)) = mTotal (l.take p) + min (max (l[p]?.getD default).Cents 0) 10000000 := by
  simp only [mTotal]; rw [foldl_at (d := default) h]
theorem mTotal_bd {l : List TShare} : ∀ (p : Nat), p ≤ l.length → 0 ≤ mTotal (l.take p) ∧ mTotal (l.take p) ≤ 10000000 * p
  | 0, _ => by simp [mTotal]
  | p + 1, h => by
    have h1 := mTotal_bd (l := l) p (by omega)
    rw [mTotal_at (by omega)]
    omega
/-- loop.example/g03007/spec.TotalShares -/
noncomputable def c55 : Con := mkCon 55 false (α := (List TShare)) (fun x => (fun (l : List TShare) => [encLTShare l]) x) (fun _ => []) (fun x => (fun (l : List TShare) => l.length ≤ 1073741823) x) (fun x => (fun (l : List TShare) => (dI (mTotal l) : D)) x) (fun x => (fun (l : List TShare) => []) x)
@[simp] theorem c55_f : c55.f = 55 := rfl
@[simp] theorem c55_own : c55.own = false := rfl
theorem c55_inj : ∀ u_ v_ : (List TShare), ((fun x => (fun (l : List TShare) => [encLTShare l]) x) u_).map nz = ((fun x => (fun (l : List TShare) => [encLTShare l]) x) v_).map nz → u_ = v_ := by
  intro u_ v_ h
  obtain l := u_
  obtain l' := v_
  simp [nz_lit, nz1_lit, nz_agg, nz_sl, nz1_sl, encLTShare] at h
  first | (simp [h]; done) | (obtain ⟨⟩ := h; simp_all; done) | simp_all
@[simp] theorem c55_fn (l : List TShare) : c55.fn [.sl false 2 yTShare (ML encTShare l)] [] = some ((fun (l : List TShare) => l.length ≤ 1073741823) l, (fun (l : List TShare) => (dI (mTotal l) : D)) l, (fun (l : List TShare) => []) l) :=
  mkCon_fn (fun x y h _ => c55_inj x y h) (l : (List TShare)) (by simp [nz, nz1, ML_nil, encLTShare]) rfl
@[simp] theorem c55_fn1 (s_l : Nat) (z_l : D) : c55.fn [.sl false s_l z_l []] [] = some ((fun (l : List TShare) => l.length ≤ 1073741823) [], (fun (l : List TShare) => (dI (mTotal l) : D)) [], (fun (l : List TShare) => []) []) :=
  mkCon_fn (fun x y h _ => c55_inj x y h) ([] : (List TShare)) (by simp [nz, nz1, ML_nil, encLTShare]) rfl
theorem c55_pc (l : List TShare) (hpre : l.length ≤ 1073741823) : PCo Try.prog 55 [encLTShare l] (Tab.of []) (dI (mTotal l)) (Tab.of []) := by
  refine pco_of_run [] (E := ⟨[c78, c82], []⟩) (m := false) (base := 0) (Env.ok_cons c78_ok (Env.ok_cons c82_ok Env.ok_nil)) G_ok mix 300 6 Try.func55 (by kernel_rfl) rfl (by kernel_rfl) (by kernel_rfl) rfl ?_
  simp [Try.f55]
  refine loop_inv (fun p : Nat => p ≤ l.length) (fun p => [(0, encLTShare l), (3, dI (mTotal (l.take p))), (4, dI p)]) (fun _ => []) 1 (fun p => l.length - p) 0 400 (by simp) (by simp) (by simp [mTotal]) ?_
  intro p hp
  simp
  refine ⟨fun hlt => ?_, fun hge => ?_⟩
  · have hs := mTotal_at hlt
    have hb := mTotal_bd p hp
    repeat' (first | omega | refine And.intro ?_ ?_ | intro _)
    refine Again.mk (p + 1) (by omega) (by simp [hs]; omega) (by first | omega | (simp; omega))
  · rw [List.take_of_length_le hge]
theorem c55_ok : c55.ok Try.prog := mkCon_ok fun l hpre => c55_pc l hpre
/-- loop.example/g03007/impl.TotalShares -/
noncomputable def c57 : Con := mkCon 57 false (α := (List TShare)) (fun x => (fun (l : List TShare) => [encLTShare l]) x) (fun _ => []) (fun x => (fun (l : List TShare) => l.length ≤ 1073741823) x) (fun x => (fun (l : List TShare) => (dI (mTotal l) : D)) x) (fun x => (fun (l : List TShare) => []) x)
@[simp] theorem c57_f : c57.f = 57 := rfl
@[simp] theorem c57_own : c57.own = false := rfl
theorem c57_inj : ∀ u_ v_ : (List TShare), ((fun x => (fun (l : List TShare) => [encLTShare l]) x) u_).map nz = ((fun x => (fun (l : List TShare) => [encLTShare l]) x) v_).map nz → u_ = v_ := by
  intro u_ v_ h
  obtain l := u_
  obtain l' := v_
  simp [nz_lit, nz1_lit, nz_agg, nz_sl, nz1_sl, encLTShare] at h
  first | (simp [h]; done) | (obtain ⟨⟩ := h; simp_all; done) | simp_all
@[simp] theorem c57_fn (l : List TShare) : c57.fn [.sl false 2 yTShare (ML encTShare l)] [] = some ((fun (l : List TShare) => l.length ≤ 1073741823) l, (fun (l : List TShare) => (dI (mTotal l) : D)) l, (fun (l : List TShare) => []) l) :=
  mkCon_fn (fun x y h _ => c57_inj x y h) (l : (List TShare)) (by simp [nz, nz1, ML_nil, encLTShare]) rfl
@[simp] theorem c57_fn1 (s_l : Nat) (z_l : D) : c57.fn [.sl false s_l z_l []] [] = some ((fun (l : List TShare) => l.length ≤ 1073741823) [], (fun (l : List TShare) => (dI (mTotal l) : D)) [], (fun (l : List TShare) => []) []) :=
  mkCon_fn (fun x y h _ => c57_inj x y h) ([] : (List TShare)) (by simp [nz, nz1, ML_nil, encLTShare]) rfl
theorem c57_pc (l : List TShare) (hpre : l.length ≤ 1073741823) : PCo Try.prog 57 [encLTShare l] (Tab.of []) (dI (mTotal l)) (Tab.of []) := by
  refine pco_of_run [] (E := ⟨[c84], []⟩) (m := false) (base := 0) (Env.ok_cons c84_ok Env.ok_nil) G_ok mix 300 6 Try.func57 (by kernel_rfl) rfl (by kernel_rfl) (by kernel_rfl) rfl ?_
  simp [Try.f57]
  refine loop_inv (fun p : Nat => p ≤ l.length) (fun p => [(3, dI (mTotal (l.take p))), (6, encLTShare l), (7, dI l.length), (8, dI p)]) (fun _ => []) 1 (fun p => l.length - p) 0 400 (by simp) (by simp) (by simp [mTotal]) ?_
  intro p hp
  simp
  refine ⟨fun hlt => ?_, fun hge => ?_⟩
  · have hs := mTotal_at hlt
    have hb := mTotal_bd p hp
    repeat' (first | omega | refine And.intro ?_ ?_ | intro _)
    refine Again.mk (p + 1) (by omega) (by simp [hs]) (by first | omega | (simp; omega))
  · rw [List.take_of_length_le hge]
theorem c57_ok : c57.ok Try.prog := mkCon_ok fun l hpre => c57_pc l hpre
/-- loop.example/g03007/laws.FnExactTotalShares -/
theorem law15 (l : List TShare) (wl : wfLTShare l) : PCo Try.prog 15 [encLTShare l] (Tab.of []) (dB true) (Tab.of []) := by
  refine pco_of_run [] (E := ⟨[c54, c55, c56, c57, c58], []⟩) (m := false) (base := 0) (Env.ok_cons c54_ok (Env.ok_cons c55_ok (Env.ok_cons c56_ok (Env.ok_cons c57_ok (Env.ok_cons c58_ok Env.ok_nil))))) G_ok mix 400 6 Try.func15 (by kernel_rfl) rfl (by kernel_rfl) (by kernel_rfl) rfl ?_
  simp [Try.f15]
  have h_l : l.length ≤ maxLen := wl.1
  repeat' (first | omega | assumption | refine And.intro ?_ ?_ | intro _)
  all_goals first | omega | grind | (split at * <;> omega)
theorem law15_pc (D0 : D) (h0 : Sh G 9 72 D0) : PC Try.prog 15 [D0] (dB true) [] := by
  obtain ⟨l, rfl, wl⟩ := sh72 (n := 6) h0
  exact law15 l wl

end Go.Proofs.Ytljamnanhmpdnaa
