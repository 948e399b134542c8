/- Contracts of the functions that the laws run. -/
import Derived.Test.Ytanmlliijcpdjaach04
import Derived.Test.YtanmlliijcpdjaaEngB
namespace Go.Proofs.Ytanmlliijcpdjaa
open Go Go.Eng
set_option linter.unusedSimpArgs false
set_option linter.unusedVariables false
set_option maxRecDepth 10000
set_option maxHeartbeats 1000000
theorem tdiv10 {x : Int} (h : 0 ≤ x) : x.tdiv 10 = x / 10 := Int.tdiv_eq_ediv_of_nonneg h
theorem tdiv100 {x : Int} (h : 0 ≤ x) : x.tdiv 100 = x / 100 := Int.tdiv_eq_ediv_of_nonneg h
theorem isThing_of {x : TThing} (h : mIsThing x = true) : 1 ≤ x.Id ∧ x.Id ≤ 999 ∧ 1 ≤ x.Kind ∧ x.Kind ≤ 8 ∧ 0 ≤ x.Colour ∧ x.Colour ≤ 7 ∧ 1 ≤ x.Size ∧ x.Size ≤ 50 ∧ 0 ≤ x.Worth ∧ x.Worth ≤ 10000000 := by
  simp [mIsThing, mIn] at h; omega
def mFee (x : TThing) (days : Int) : Int := if mIsThing x && mIn days 0 1000 then min (100 + 10 * days) (x.Worth / 10) else 0
/-- loop.example/g03007/impl.FeeFor -/
noncomputable def c12 : Con := mkCon 12 false (α := TThing × Int) (fun x => (fun (x : TThing) (days : Int) => [encTThing x, dI days]) x.1 x.2) (fun _ => []) (fun x => (fun (x : TThing) (days : Int) => True) x.1 x.2) (fun x => (fun (x : TThing) (days : Int) => (dI (mFee x days) : D)) x.1 x.2) (fun x => (fun (x : TThing) (days : Int) => []) x.1 x.2)
@[simp] theorem c12_f : c12.f = 12 := rfl
@[simp] theorem c12_own : c12.own = false := rfl
theorem c12_inj : ∀ u_ v_ : TThing × Int, ((fun x => (fun (x : TThing) (days : Int) => [encTThing x, dI days]) x.1 x.2) u_).map nz = ((fun x => (fun (x : TThing) (days : Int) => [encTThing x, dI days]) x.1 x.2) v_).map nz → u_ = v_ := by
  intro u_ v_ h
  obtain ⟨⟨x_Id, x_Kind, x_Colour, x_Size, x_Worth⟩, days⟩ := u_
  obtain ⟨⟨x_Id', x_Kind', x_Colour', x_Size', x_Worth'⟩, days'⟩ := v_
  simp [nz_lit, nz1_lit, nz_agg, nz_sl, nz1_sl, encTThing] at h
  first | (simp [h]; done) | (obtain ⟨⟩ := h; simp_all; done) | simp_all
@[simp] theorem c12_fn (x_Id : Int) (x_Kind : Int) (x_Colour : Int) (x_Size : Int) (x_Worth : Int) (days : Int) : c12.fn [.agg [.lit (.int .i64 x_Id), .lit (.int .i64 x_Kind), .lit (.int .i64 x_Colour), .lit (.int .i64 x_Size), .lit (.int .i64 x_Worth)], .lit (.int .i64 days)] [] = some ((fun (x : TThing) (days : Int) => True) ⟨x_Id, x_Kind, x_Colour, x_Size, x_Worth⟩ days, (fun (x : TThing) (days : Int) => (dI (mFee x days) : D)) ⟨x_Id, x_Kind, x_Colour, x_Size, x_Worth⟩ days, (fun (x : TThing) (days : Int) => []) ⟨x_Id, x_Kind, x_Colour, x_Size, x_Worth⟩ days) :=
  mkCon_fn (fun x y h _ => c12_inj x y h) ((⟨x_Id, x_Kind, x_Colour, x_Size, x_Worth⟩, days) : TThing × Int) (by simp [nz, nz1, ML_nil, encTThing]) rfl
theorem c12_pc (x : TThing) (days : Int) : PCo Try.prog 12 [encTThing x, dI days] (Tab.of []) (dI (mFee x days)) (Tab.of []) := by
  refine pco_of_run [] (E := ⟨[c19, c24, c25], [], []⟩) (m := false) (base := 0) (Env.ok_cons c19_ok (Env.ok_cons c24_ok (Env.ok_cons c25_ok Env.ok_nil))) G_ok mix 300 6 Try.func12 (by kernel_rfl) rfl (by kernel_rfl) (by kernel_rfl) rfl ?_
  simp [Try.f12]
  refine ⟨fun h => by grind [mFee], fun h1 h2 => ?_⟩
  have h3 := isThing_of h1
  have h4 := mIn_iff.1 h2
  have h5 := tdiv10 (x := x.Worth) (by omega)
  have e : mFee x days = min (100 + 10 * days) (x.Worth / 10) := by simp [mFee, h1, h2]
  repeat' (first | omega | refine And.intro ?_ ?_ | intro _)
  all_goals (rw [e]; omega)
theorem c12_ok : c12.ok Try.prog := mkCon_ok fun ⟨x, days⟩ hpre => c12_pc x days
def mReward (x : TThing) : Int := if mIsThing x then (min x.Worth 50000 * 5) / 100 + ((x.Worth - min x.Worth 50000) * 3) / 100 else 0
/-- loop.example/g03007/impl.RewardFor -/
noncomputable def c14 : Con := mkCon 14 false (α := TThing) (fun x => (fun (x : TThing) => [encTThing x]) x) (fun _ => []) (fun x => (fun (x : TThing) => True) x) (fun x => (fun (x : TThing) => (dI (mReward x) : D)) x) (fun x => (fun (x : TThing) => []) x)
@[simp] theorem c14_f : c14.f = 14 := rfl
@[simp] theorem c14_own : c14.own = false := rfl
theorem c14_inj : ∀ u_ v_ : TThing, ((fun x => (fun (x : TThing) => [encTThing x]) x) u_).map nz = ((fun x => (fun (x : TThing) => [encTThing x]) x) v_).map nz → u_ = v_ := by
  intro u_ v_ h
  obtain ⟨x_Id, x_Kind, x_Colour, x_Size, x_Worth⟩ := u_
  obtain ⟨x_Id', x_Kind', x_Colour', x_Size', x_Worth'⟩ := v_
  simp [nz_lit, nz1_lit, nz_agg, nz_sl, nz1_sl, encTThing] at h
  first | (simp [h]; done) | (obtain ⟨⟩ := h; simp_all; done) | simp_all
@[simp] theorem c14_fn (x_Id : Int) (x_Kind : Int) (x_Colour : Int) (x_Size : Int) (x_Worth : Int) : c14.fn [.agg [.lit (.int .i64 x_Id), .lit (.int .i64 x_Kind), .lit (.int .i64 x_Colour), .lit (.int .i64 x_Size), .lit (.int .i64 x_Worth)]] [] = some ((fun (x : TThing) => True) ⟨x_Id, x_Kind, x_Colour, x_Size, x_Worth⟩, (fun (x : TThing) => (dI (mReward x) : D)) ⟨x_Id, x_Kind, x_Colour, x_Size, x_Worth⟩, (fun (x : TThing) => []) ⟨x_Id, x_Kind, x_Colour, x_Size, x_Worth⟩) :=
  mkCon_fn (fun x y h _ => c14_inj x y h) (⟨x_Id, x_Kind, x_Colour, x_Size, x_Worth⟩ : TThing) (by simp [nz, nz1, ML_nil, encTThing]) rfl
theorem c14_pc (x : TThing) : PCo Try.prog 14 [encTThing x] (Tab.of []) (dI (mReward x)) (Tab.of []) := by
  refine pco_of_run [] (E := ⟨[c24, c25], [], []⟩) (m := false) (base := 0) (Env.ok_cons c24_ok (Env.ok_cons c25_ok Env.ok_nil)) G_ok mix 300 6 Try.func14 (by kernel_rfl) rfl (by kernel_rfl) (by kernel_rfl) rfl ?_
  simp [Try.f14]
  refine ⟨fun h => by grind [mReward], fun h1 => ?_⟩
  have h3 := isThing_of h1
  have h5 := tdiv100 (x := min x.Worth 50000 * 5) (by omega)
  have h6 := tdiv100 (x := (x.Worth - min x.Worth 50000) * 3) (by omega)
  have e : mReward x = (min x.Worth 50000 * 5) / 100 + ((x.Worth - min x.Worth 50000) * 3) / 100 := by simp [mReward, h1]
  repeat' (first | omega | refine And.intro ?_ ?_ | intro _)
  all_goals (rw [e]; omega)
theorem c14_ok : c14.ok Try.prog := mkCon_ok fun x hpre => c14_pc x
def mTotal (l : List TShare) : Int := l.foldl (fun n s => n + min (max s.Cents 0) 10000000) 0
theorem mTotal_at {l : List TShare} {p : Nat} (h : p < l.length) : mTotal (l.take (p + 1)) = mTotal (l.take p) + min (max (l[p]?.getD default).Cents 0) 10000000 := by
  simp only [mTotal]; rw [foldl_at (d := default) h]
theorem mTotal_bd {l : List TShare} : ∀ (p : Nat), p ≤ l.length → 0 ≤ mTotal (l.take p) ∧ mTotal (l.take p) ≤ 10000000 * p
  | 0, _ => by simp [mTotal]
  | p + 1, h => by
    have h1 := mTotal_bd (l := l) p (by omega)
    rw [mTotal_at (by omega)]
    omega
/-- loop.example/g03007/impl.TotalShares -/
noncomputable def c10 : Con := mkCon 10 false (α := (List TShare)) (fun x => (fun (l : List TShare) => [encLTShare l]) x) (fun _ => []) (fun x => (fun (l : List TShare) => l.length ≤ 1073741823) x) (fun x => (fun (l : List TShare) => (dI (mTotal l) : D)) x) (fun x => (fun (l : List TShare) => []) x)
@[simp] theorem c10_f : c10.f = 10 := rfl
@[simp] theorem c10_own : c10.own = false := rfl
theorem c10_inj : ∀ u_ v_ : (List TShare), ((fun x => (fun (l : List TShare) => [encLTShare l]) x) u_).map nz = ((fun x => (fun (l : List TShare) => [encLTShare l]) x) v_).map nz → u_ = v_ := by
  intro u_ v_ h
  obtain l := u_
  obtain l' := v_
  simp [nz_lit, nz1_lit, nz_agg, nz_sl, nz1_sl, encLTShare] at h
  first | (simp [h]; done) | (obtain ⟨⟩ := h; simp_all; done) | simp_all
@[simp] theorem c10_fn (l : List TShare) : c10.fn [.sl false 2 yTShare (ML encTShare l)] [] = some ((fun (l : List TShare) => l.length ≤ 1073741823) l, (fun (l : List TShare) => (dI (mTotal l) : D)) l, (fun (l : List TShare) => []) l) :=
  mkCon_fn (fun x y h _ => c10_inj x y h) (l : (List TShare)) (by simp [nz, nz1, ML_nil, encLTShare]) rfl
@[simp] theorem c10_fn1 (s_l : Nat) (z_l : D) : c10.fn [.sl false s_l z_l []] [] = some ((fun (l : List TShare) => l.length ≤ 1073741823) [], (fun (l : List TShare) => (dI (mTotal l) : D)) [], (fun (l : List TShare) => []) []) :=
  mkCon_fn (fun x y h _ => c10_inj x y h) ([] : (List TShare)) (by simp [nz, nz1, ML_nil, encLTShare]) rfl
theorem c10_pc (l : List TShare) (hpre : l.length ≤ 1073741823) : PCo Try.prog 10 [encLTShare l] (Tab.of []) (dI (mTotal l)) (Tab.of []) := by
  refine pco_of_run [] (E := ⟨[c22], [], []⟩) (m := false) (base := 0) (Env.ok_cons c22_ok Env.ok_nil) G_ok mix 300 6 Try.func10 (by kernel_rfl) rfl (by kernel_rfl) (by kernel_rfl) rfl ?_
  simp [Try.f10]
  refine loop_inv (fun p : Nat => p ≤ l.length) (fun p => [(3, dI (mTotal (l.take p))), (6, encLTShare l), (7, dI l.length), (8, dI p)]) (fun _ => []) 1 (fun p => l.length - p) 0 400 (by simp) (by simp) (by simp [mTotal]) ?_
  intro p hp
  simp
  refine ⟨fun hlt => ?_, fun hge => ?_⟩
  · have hs := mTotal_at hlt
    have hb := mTotal_bd p hp
    repeat' (first | omega | refine And.intro ?_ ?_ | intro _)
    refine Again.mk (p + 1) (by omega) (by simp [hs]) (by first | omega | (simp; omega))
  · rw [List.take_of_length_le hge]
theorem c10_ok : c10.ok Try.prog := mkCon_ok fun l hpre => c10_pc l hpre
end Go.Proofs.Ytanmlliijcpdjaa
