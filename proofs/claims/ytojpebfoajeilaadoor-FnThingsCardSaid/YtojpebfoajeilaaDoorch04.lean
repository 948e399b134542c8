/- Contracts of the functions that the laws run. -/
import Derived.Test.YtojpebfoajeilaaDoorch01
import Derived.Test.YtojpebfoajeilaaDoorEngB
namespace Go.Proofs.YtojpebfoajeilaaDoor
open Go Go.Eng
set_option linter.unusedSimpArgs false
set_option linter.unusedVariables false
set_option maxRecDepth 10000
set_option maxHeartbeats 1000000
/-- loop.example/g03007/impl.nearest -/
noncomputable def c24 : Con := mkCon 24 false (α := Int × Int × Int) (fun x => (fun (n : Int) (low : Int) (high : Int) => [dI n, dI low, dI high]) x.1 x.2.1 x.2.2) (fun _ => []) (fun x => (fun (n : Int) (low : Int) (high : Int) => True) x.1 x.2.1 x.2.2) (fun x => (fun (n : Int) (low : Int) (high : Int) => (dI (min (max n low) high) : D)) x.1 x.2.1 x.2.2) (fun x => (fun (n : Int) (low : Int) (high : Int) => []) x.1 x.2.1 x.2.2)
@[simp] theorem c24_f : c24.f = 24 := rfl
@[simp] theorem c24_own : c24.own = false := rfl
theorem c24_inj : ∀ u_ v_ : Int × Int × Int, ((fun x => (fun (n : Int) (low : Int) (high : Int) => [dI n, dI low, dI high]) x.1 x.2.1 x.2.2) u_).map nz = ((fun x => (fun (n : Int) (low : Int) (high : Int) => [dI n, dI low, dI high]) x.1 x.2.1 x.2.2) v_).map nz → u_ = v_ := by
  intro u_ v_ h
  obtain ⟨n, low, high⟩ := u_
  obtain ⟨n', low', high'⟩ := v_
  simp [nz_lit, nz1_lit, nz_agg, nz_sl, nz1_sl] at h
  first | (simp [h]; done) | (obtain ⟨⟩ := h; simp_all; done) | simp_all
@[simp] theorem c24_fn (n : Int) (low : Int) (high : Int) : c24.fn [.lit (.int .i64 n), .lit (.int .i64 low), .lit (.int .i64 high)] [] = some ((fun (n : Int) (low : Int) (high : Int) => True) n low high, (fun (n : Int) (low : Int) (high : Int) => (dI (min (max n low) high) : D)) n low high, (fun (n : Int) (low : Int) (high : Int) => []) n low high) :=
  mkCon_fn (fun x y h _ => c24_inj x y h) ((n, low, high) : Int × Int × Int) (by simp [nz, nz1, ML_nil]) rfl
theorem c24_pc (n : Int) (low : Int) (high : Int) : PCo Tryd.prog 24 [dI n, dI low, dI high] (Tab.of []) (dI (min (max n low) high)) (Tab.of []) := by
  refine pco_of_run [] (E := ⟨[c30, c31], [], []⟩) (m := false) (base := 0) (Env.ok_cons c30_ok (Env.ok_cons c31_ok Env.ok_nil)) G_ok mix 300 6 Tryd.func24 (by kernel_rfl) rfl (by kernel_rfl) (by kernel_rfl) rfl ?_
  simp [Tryd.f24]
  all_goals first | omega | (rw [Bool.eq_iff_iff]; simp; omega) | grind
theorem c24_ok : c24.ok Tryd.prog := mkCon_ok fun ⟨n, low, high⟩ hpre => c24_pc n low high
def mIsThing (x : TThing) : Bool := mIn x.Id 1 999 && mIn x.Kind 1 8 && mIn x.Colour 0 7 && mIn x.Size 1 50 && mIn x.Worth 0 10000000
def mWithin (x : TThing) : TThing := ⟨min (max x.Id 1) 999, min (max x.Kind 1) 8, min (max x.Colour 0) 7, min (max x.Size 1) 50, min (max x.Worth 0) 10000000⟩
/-- (loop.example/g03007/impl.Thing).withinLimits -/
noncomputable def c16 : Con := mkCon 16 false (α := TThing) (fun x => (fun (x : TThing) => [encTThing x]) x) (fun _ => []) (fun x => (fun (x : TThing) => True) x) (fun x => (fun (x : TThing) => (encTThing (mWithin x) : D)) x) (fun x => (fun (x : TThing) => []) x)
@[simp] theorem c16_f : c16.f = 16 := rfl
@[simp] theorem c16_own : c16.own = false := rfl
theorem c16_inj : ∀ u_ v_ : TThing, ((fun x => (fun (x : TThing) => [encTThing x]) x) u_).map nz = ((fun x => (fun (x : TThing) => [encTThing x]) x) v_).map nz → u_ = v_ := by
  intro u_ v_ h
  obtain ⟨x_Id, x_Kind, x_Colour, x_Size, x_Worth⟩ := u_
  obtain ⟨x_Id', x_Kind', x_Colour', x_Size', x_Worth'⟩ := v_
  simp [nz_lit, nz1_lit, nz_agg, nz_sl, nz1_sl, encTThing] at h
  first | (simp [h]; done) | (obtain ⟨⟩ := h; simp_all; done) | simp_all
@[simp] theorem c16_fn (x_Id : Int) (x_Kind : Int) (x_Colour : Int) (x_Size : Int) (x_Worth : Int) : c16.fn [.agg [.lit (.int .i64 x_Id), .lit (.int .i64 x_Kind), .lit (.int .i64 x_Colour), .lit (.int .i64 x_Size), .lit (.int .i64 x_Worth)]] [] = some ((fun (x : TThing) => True) ⟨x_Id, x_Kind, x_Colour, x_Size, x_Worth⟩, (fun (x : TThing) => (encTThing (mWithin x) : D)) ⟨x_Id, x_Kind, x_Colour, x_Size, x_Worth⟩, (fun (x : TThing) => []) ⟨x_Id, x_Kind, x_Colour, x_Size, x_Worth⟩) :=
  mkCon_fn (fun x y h _ => c16_inj x y h) (⟨x_Id, x_Kind, x_Colour, x_Size, x_Worth⟩ : TThing) (by simp [nz, nz1, ML_nil, encTThing]) rfl
theorem c16_pc (x : TThing) : PCo Tryd.prog 16 [encTThing x] (Tab.of []) (encTThing (mWithin x)) (Tab.of []) := by
  obtain ⟨x_Id, x_Kind, x_Colour, x_Size, x_Worth⟩ := x
  refine pco_of_run [1] (E := ⟨[c24], [], []⟩) (m := false) (base := 0) (Env.ok_cons c24_ok Env.ok_nil) G_ok mix 300 6 Tryd.func16 (by kernel_rfl) rfl (by kernel_rfl) (by kernel_rfl) rfl ?_
  simp [Tryd.f16]
  simp [mWithin]
theorem c16_ok : c16.ok Tryd.prog := mkCon_ok fun x hpre => c16_pc x
/-- loop.example/g03007/impl.IsThing -/
noncomputable def c6 : Con := mkCon 6 false (α := TThing) (fun x => (fun (x : TThing) => [encTThing x]) x) (fun _ => []) (fun x => (fun (x : TThing) => True) x) (fun x => (fun (x : TThing) => (dB (mIsThing x) : D)) x) (fun x => (fun (x : TThing) => []) x)
@[simp] theorem c6_f : c6.f = 6 := rfl
@[simp] theorem c6_own : c6.own = false := rfl
theorem c6_inj : ∀ u_ v_ : TThing, ((fun x => (fun (x : TThing) => [encTThing x]) x) u_).map nz = ((fun x => (fun (x : TThing) => [encTThing x]) x) v_).map nz → u_ = v_ := by
  intro u_ v_ h
  obtain ⟨x_Id, x_Kind, x_Colour, x_Size, x_Worth⟩ := u_
  obtain ⟨x_Id', x_Kind', x_Colour', x_Size', x_Worth'⟩ := v_
  simp [nz_lit, nz1_lit, nz_agg, nz_sl, nz1_sl, encTThing] at h
  first | (simp [h]; done) | (obtain ⟨⟩ := h; simp_all; done) | simp_all
@[simp] theorem c6_fn (x_Id : Int) (x_Kind : Int) (x_Colour : Int) (x_Size : Int) (x_Worth : Int) : c6.fn [.agg [.lit (.int .i64 x_Id), .lit (.int .i64 x_Kind), .lit (.int .i64 x_Colour), .lit (.int .i64 x_Size), .lit (.int .i64 x_Worth)]] [] = some ((fun (x : TThing) => True) ⟨x_Id, x_Kind, x_Colour, x_Size, x_Worth⟩, (fun (x : TThing) => (dB (mIsThing x) : D)) ⟨x_Id, x_Kind, x_Colour, x_Size, x_Worth⟩, (fun (x : TThing) => []) ⟨x_Id, x_Kind, x_Colour, x_Size, x_Worth⟩) :=
  mkCon_fn (fun x y h _ => c6_inj x y h) (⟨x_Id, x_Kind, x_Colour, x_Size, x_Worth⟩ : TThing) (by simp [nz, nz1, ML_nil, encTThing]) rfl
theorem c6_pc (x : TThing) : PCo Tryd.prog 6 [encTThing x] (Tab.of []) (dB (mIsThing x)) (Tab.of []) := by
  obtain ⟨x_Id, x_Kind, x_Colour, x_Size, x_Worth⟩ := x
  refine pco_of_run [1] (E := ⟨[c16], [], []⟩) (m := false) (base := 0) (Env.ok_cons c16_ok Env.ok_nil) G_ok mix 300 6 Tryd.func6 (by kernel_rfl) rfl (by kernel_rfl) (by kernel_rfl) rfl ?_
  simp [Tryd.f6]
  rw [Bool.eq_iff_iff]
  simp [mIsThing, mWithin, mIn]
  omega
theorem c6_ok : c6.ok Tryd.prog := mkCon_ok fun x hpre => c6_pc x
/-- loop.example/g03007/impl.SameKind -/
noncomputable def c12 : Con := mkCon 12 false (α := TThing × TThing) (fun x => (fun (a : TThing) (b : TThing) => [encTThing a, encTThing b]) x.1 x.2) (fun _ => []) (fun x => (fun (a : TThing) (b : TThing) => True) x.1 x.2) (fun x => (fun (a : TThing) (b : TThing) => (dB (mIsThing a && mIsThing b && decide (a.Kind = b.Kind)) : D)) x.1 x.2) (fun x => (fun (a : TThing) (b : TThing) => []) x.1 x.2)
@[simp] theorem c12_f : c12.f = 12 := rfl
@[simp] theorem c12_own : c12.own = false := rfl
theorem c12_inj : ∀ u_ v_ : TThing × TThing, ((fun x => (fun (a : TThing) (b : TThing) => [encTThing a, encTThing b]) x.1 x.2) u_).map nz = ((fun x => (fun (a : TThing) (b : TThing) => [encTThing a, encTThing b]) x.1 x.2) v_).map nz → u_ = v_ := by
  intro u_ v_ h
  obtain ⟨⟨a_Id, a_Kind, a_Colour, a_Size, a_Worth⟩, ⟨b_Id, b_Kind, b_Colour, b_Size, b_Worth⟩⟩ := u_
  obtain ⟨⟨a_Id', a_Kind', a_Colour', a_Size', a_Worth'⟩, ⟨b_Id', b_Kind', b_Colour', b_Size', b_Worth'⟩⟩ := v_
  simp [nz_lit, nz1_lit, nz_agg, nz_sl, nz1_sl, encTThing] at h
  first | (simp [h]; done) | (obtain ⟨⟩ := h; simp_all; done) | simp_all
@[simp] theorem c12_fn (a_Id : Int) (a_Kind : Int) (a_Colour : Int) (a_Size : Int) (a_Worth : Int) (b_Id : Int) (b_Kind : Int) (b_Colour : Int) (b_Size : Int) (b_Worth : Int) : c12.fn [.agg [.lit (.int .i64 a_Id), .lit (.int .i64 a_Kind), .lit (.int .i64 a_Colour), .lit (.int .i64 a_Size), .lit (.int .i64 a_Worth)], .agg [.lit (.int .i64 b_Id), .lit (.int .i64 b_Kind), .lit (.int .i64 b_Colour), .lit (.int .i64 b_Size), .lit (.int .i64 b_Worth)]] [] = some ((fun (a : TThing) (b : TThing) => True) ⟨a_Id, a_Kind, a_Colour, a_Size, a_Worth⟩ ⟨b_Id, b_Kind, b_Colour, b_Size, b_Worth⟩, (fun (a : TThing) (b : TThing) => (dB (mIsThing a && mIsThing b && decide (a.Kind = b.Kind)) : D)) ⟨a_Id, a_Kind, a_Colour, a_Size, a_Worth⟩ ⟨b_Id, b_Kind, b_Colour, b_Size, b_Worth⟩, (fun (a : TThing) (b : TThing) => []) ⟨a_Id, a_Kind, a_Colour, a_Size, a_Worth⟩ ⟨b_Id, b_Kind, b_Colour, b_Size, b_Worth⟩) :=
  mkCon_fn (fun x y h _ => c12_inj x y h) ((⟨a_Id, a_Kind, a_Colour, a_Size, a_Worth⟩, ⟨b_Id, b_Kind, b_Colour, b_Size, b_Worth⟩) : TThing × TThing) (by simp [nz, nz1, ML_nil, encTThing]) rfl
theorem c12_pc (a : TThing) (b : TThing) : PCo Tryd.prog 12 [encTThing a, encTThing b] (Tab.of []) (dB (mIsThing a && mIsThing b && decide (a.Kind = b.Kind))) (Tab.of []) := by
  obtain ⟨a_Id, a_Kind, a_Colour, a_Size, a_Worth⟩ := a
  obtain ⟨b_Id, b_Kind, b_Colour, b_Size, b_Worth⟩ := b
  refine pco_of_run [] (E := ⟨[c6], [], []⟩) (m := false) (base := 0) (Env.ok_cons c6_ok Env.ok_nil) G_ok mix 300 6 Tryd.func12 (by kernel_rfl) rfl (by kernel_rfl) (by kernel_rfl) rfl ?_
  simp [Tryd.f12]
  all_goals first | omega | (rw [Bool.eq_iff_iff]; simp; omega) | grind
theorem c12_ok : c12.ok Tryd.prog := mkCon_ok fun ⟨a, b⟩ hpre => c12_pc a b
def mAsc : Int → List TThing → Bool
  | _, [] => true
  | p, x :: r => mIsThing x && decide (p < x.Id) && mAsc x.Id r
def mAreThings (l : List TThing) : Bool := decide (l.length ≤ 20) && mAsc 0 l
def prevId (l : List TThing) (p : Nat) : Int := if p = 0 then 0 else (l[p - 1]?.getD default).Id
/-- loop.example/g03007/impl.AreThings -/
noncomputable def c13 : Con := mkCon 13 false (α := (List TThing)) (fun x => (fun (l : List TThing) => [encLTThing l]) x) (fun _ => []) (fun x => (fun (l : List TThing) => l.length ≤ 1099511627776) x) (fun x => (fun (l : List TThing) => (dB (mAreThings l) : D)) x) (fun x => (fun (l : List TThing) => []) x)
@[simp] theorem c13_f : c13.f = 13 := rfl
@[simp] theorem c13_own : c13.own = false := rfl
theorem c13_inj : ∀ u_ v_ : (List TThing), ((fun x => (fun (l : List TThing) => [encLTThing l]) x) u_).map nz = ((fun x => (fun (l : List TThing) => [encLTThing l]) x) v_).map nz → u_ = v_ := by
  intro u_ v_ h
  obtain l := u_
  obtain l' := v_
  simp [nz_lit, nz1_lit, nz_agg, nz_sl, nz1_sl, encLTThing] at h
  first | (simp [h]; done) | (obtain ⟨⟩ := h; simp_all; done) | simp_all
@[simp] theorem c13_fn (l : List TThing) : c13.fn [.sl false 5 yTThing (ML encTThing l)] [] = some ((fun (l : List TThing) => l.length ≤ 1099511627776) l, (fun (l : List TThing) => (dB (mAreThings l) : D)) l, (fun (l : List TThing) => []) l) :=
  mkCon_fn (fun x y h _ => c13_inj x y h) (l : (List TThing)) (by simp [nz, nz1, ML_nil, encLTThing]) rfl
@[simp] theorem c13_fn1 (s_l : Nat) (z_l : D) : c13.fn [.sl false s_l z_l []] [] = some ((fun (l : List TThing) => l.length ≤ 1099511627776) [], (fun (l : List TThing) => (dB (mAreThings l) : D)) [], (fun (l : List TThing) => []) []) :=
  mkCon_fn (fun x y h _ => c13_inj x y h) ([] : (List TThing)) (by simp [nz, nz1, ML_nil, encLTThing]) rfl
theorem c13_pc (l : List TThing) (hpre : l.length ≤ 1099511627776) : PCo Tryd.prog 13 [encLTThing l] (Tab.of []) (dB (mAreThings l)) (Tab.of []) := by
  refine pco_of_run [] (E := ⟨[c6], [], []⟩) (m := false) (base := 0) (Env.ok_cons c6_ok Env.ok_nil) G_ok mix 300 6 Tryd.func13 (by kernel_rfl) rfl (by kernel_rfl) (by kernel_rfl) rfl ?_
  simp [Tryd.f13]
  refine ⟨fun h => by simp [mAreThings]; omega, fun hle => ?_⟩
  refine loop_inv (fun p : Nat => p ≤ l.length ∧ mAsc 0 l = mAsc (prevId l p) (l.drop p)) (fun p => [(0, encLTThing l), (2, dB false), (3, dI (prevId l p)), (9, encLTThing l), (10, dI l.length), (11, dI p)]) (fun _ => []) 1 (fun p => l.length - p) 0 100 (by simp) (by simp [prevId]) (by simp [prevId]) ?_
  intro p ⟨hp, hi⟩
  simp
  refine ⟨fun hlt => ?_, fun hge => ?_⟩
  · have hd := drop_at (d := default) hlt
    have hs : mAsc 0 l = (mIsThing (l[p]?.getD default) && decide (prevId l p < (l[p]?.getD default).Id) && mAsc (prevId l (p + 1)) (l.drop (p + 1))) := by
      rw [hi, hd]; simp [mAsc, prevId]
    refine ⟨hlt, fun h => ?_, fun h2 h3 => ⟨by omega, Again.mk (p + 1) ⟨by omega, by simp [hs, h2, h3]⟩ (by simp [prevId]) (by first | omega | (simp; omega))⟩⟩
    rcases h with h | h
    · simp [mAreThings, hs, h]
    · have : ¬ (prevId l p < (l[p]?.getD default).Id) := by omega
      simp [mAreThings, hs, this]
  · have : p = l.length := by omega
    subst this
    simp [mAreThings, hi, mAsc]; omega
theorem c13_ok : c13.ok Tryd.prog := mkCon_ok fun l hpre => c13_pc l hpre

end Go.Proofs.YtojpebfoajeilaaDoor
