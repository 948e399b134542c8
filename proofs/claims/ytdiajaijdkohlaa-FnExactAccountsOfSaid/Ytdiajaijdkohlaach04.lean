/- Contracts of the functions that the laws run. -/
import Derived.Test.Ytdiajaijdkohlaach01
import Derived.Test.YtdiajaijdkohlaaEngB
namespace Go.Proofs.Ytdiajaijdkohlaa
open Go Go.Eng
set_option linter.unusedSimpArgs false
set_option linter.unusedVariables false
set_option maxRecDepth 10000
set_option maxHeartbeats 1000000
/-- loop.example/g03007/impl.nearest -/
noncomputable def c115 : Con := mkCon 115 false (α := Int × Int × Int) (fun x => (fun (n : Int) (low : Int) (high : Int) => [dI n, dI low, dI high]) x.1 x.2.1 x.2.2) (fun _ => []) (fun x => (fun (n : Int) (low : Int) (high : Int) => True) x.1 x.2.1 x.2.2) (fun x => (fun (n : Int) (low : Int) (high : Int) => (dI (min (max n low) high) : D)) x.1 x.2.1 x.2.2) (fun x => (fun (n : Int) (low : Int) (high : Int) => []) x.1 x.2.1 x.2.2)
@[simp] theorem c115_f : c115.f = 115 := rfl
@[simp] theorem c115_own : c115.own = false := rfl
theorem c115_inj : ∀ u_ v_ : Int × Int × Int, ((fun x => (fun (n : Int) (low : Int) (high : Int) => [dI n, dI low, dI high]) x.1 x.2.1 x.2.2) u_).map nz = ((fun x => (fun (n : Int) (low : Int) (high : Int) => [dI n, dI low, dI high]) x.1 x.2.1 x.2.2) v_).map nz → u_ = v_ := by
  intro u_ v_ h
  obtain ⟨n, low, high⟩ := u_
  obtain ⟨n', low', high'⟩ := v_
  simp [nz_lit, nz1_lit, nz_agg, nz_sl, nz1_sl] at h
  first | (simp [h]; done) | (obtain ⟨⟩ := h; simp_all; done) | simp_all
@[simp] theorem c115_fn (n : Int) (low : Int) (high : Int) : c115.fn [.lit (.int .i64 n), .lit (.int .i64 low), .lit (.int .i64 high)] [] = some ((fun (n : Int) (low : Int) (high : Int) => True) n low high, (fun (n : Int) (low : Int) (high : Int) => (dI (min (max n low) high) : D)) n low high, (fun (n : Int) (low : Int) (high : Int) => []) n low high) :=
  mkCon_fn (fun x y h _ => c115_inj x y h) ((n, low, high) : Int × Int × Int) (by simp [nz, nz1, ML_nil]) rfl
theorem c115_pc (n : Int) (low : Int) (high : Int) : PCo Try.prog 115 [dI n, dI low, dI high] (Tab.of []) (dI (min (max n low) high)) (Tab.of []) := by
  refine pco_of_run [] (E := ⟨[c54, c55], [], []⟩) (m := false) (base := 0) (Env.ok_cons c54_ok (Env.ok_cons c55_ok Env.ok_nil)) G_ok mix 300 6 Try.func115 (by kernel_rfl) rfl (by kernel_rfl) (by kernel_rfl) rfl ?_
  simp [Try.f115]
  all_goals first | omega | (rw [Bool.eq_iff_iff]; simp; omega) | grind
theorem c115_ok : c115.ok Try.prog := mkCon_ok fun ⟨n, low, high⟩ hpre => c115_pc n low high
/-- loop.example/g03007/laws.toThing -/
noncomputable def c46 : Con := mkCon 46 false (α := TThing) (fun x => (fun (a : TThing) => [encTThing a]) x) (fun _ => []) (fun x => (fun (a : TThing) => True) x) (fun x => (fun (a : TThing) => (encTThing a : D)) x) (fun x => (fun (a : TThing) => []) x)
@[simp] theorem c46_f : c46.f = 46 := rfl
@[simp] theorem c46_own : c46.own = false := rfl
theorem c46_inj : ∀ u_ v_ : TThing, ((fun x => (fun (a : TThing) => [encTThing a]) x) u_).map nz = ((fun x => (fun (a : TThing) => [encTThing a]) x) v_).map nz → u_ = v_ := by
  intro u_ v_ h
  obtain ⟨a_Id, a_Kind, a_Colour, a_Size, a_Worth⟩ := u_
  obtain ⟨a_Id', a_Kind', a_Colour', a_Size', a_Worth'⟩ := v_
  simp [nz_lit, nz1_lit, nz_agg, nz_sl, nz1_sl, encTThing] at h
  first | (simp [h]; done) | (obtain ⟨⟩ := h; simp_all; done) | simp_all
@[simp] theorem c46_fn (a_Id : Int) (a_Kind : Int) (a_Colour : Int) (a_Size : Int) (a_Worth : Int) : c46.fn [.agg [.lit (.int .i64 a_Id), .lit (.int .i64 a_Kind), .lit (.int .i64 a_Colour), .lit (.int .i64 a_Size), .lit (.int .i64 a_Worth)]] [] = some ((fun (a : TThing) => True) ⟨a_Id, a_Kind, a_Colour, a_Size, a_Worth⟩, (fun (a : TThing) => (encTThing a : D)) ⟨a_Id, a_Kind, a_Colour, a_Size, a_Worth⟩, (fun (a : TThing) => []) ⟨a_Id, a_Kind, a_Colour, a_Size, a_Worth⟩) :=
  mkCon_fn (fun x y h _ => c46_inj x y h) (⟨a_Id, a_Kind, a_Colour, a_Size, a_Worth⟩ : TThing) (by simp [nz, nz1, ML_nil, encTThing]) rfl
theorem c46_pc (a : TThing) : PCo Try.prog 46 [encTThing a] (Tab.of []) (encTThing a) (Tab.of []) := by
  obtain ⟨a_Id, a_Kind, a_Colour, a_Size, a_Worth⟩ := a
  refine pco_of_run [] (E := ⟨[], [], []⟩) (m := false) (base := 0) Env.ok_nil G_ok mix 300 6 Try.func46 (by kernel_rfl) rfl (by kernel_rfl) (by kernel_rfl) rfl ?_
  simp [Try.f46]
  all_goals first | omega | (rw [Bool.eq_iff_iff]; simp; omega) | grind
theorem c46_ok : c46.ok Try.prog := mkCon_ok fun a hpre => c46_pc a
def mIsThing (x : TThing) : Bool := mIn x.Id 1 999 && mIn x.Kind 1 8 && mIn x.Colour 0 7 && mIn x.Size 1 50 && mIn x.Worth 0 10000000
/-- loop.example/g03007/spec.IsThing -/
noncomputable def c74 : Con := mkCon 74 false (α := TThing) (fun x => (fun (x : TThing) => [encTThing x]) x) (fun _ => []) (fun x => (fun (x : TThing) => True) x) (fun x => (fun (x : TThing) => (dB (mIsThing x) : D)) x) (fun x => (fun (x : TThing) => []) x)
@[simp] theorem c74_f : c74.f = 74 := rfl
@[simp] theorem c74_own : c74.own = false := rfl
theorem c74_inj : ∀ u_ v_ : TThing, ((fun x => (fun (x : TThing) => [encTThing x]) x) u_).map nz = ((fun x => (fun (x : TThing) => [encTThing x]) x) v_).map nz → u_ = v_ := by
  intro u_ v_ h
  obtain ⟨x_Id, x_Kind, x_Colour, x_Size, x_Worth⟩ := u_
  obtain ⟨x_Id', x_Kind', x_Colour', x_Size', x_Worth'⟩ := v_
  simp [nz_lit, nz1_lit, nz_agg, nz_sl, nz1_sl, encTThing] at h
  first | (simp [h]; done) | (obtain ⟨⟩ := h; simp_all; done) | simp_all
@[simp] theorem c74_fn (x_Id : Int) (x_Kind : Int) (x_Colour : Int) (x_Size : Int) (x_Worth : Int) : c74.fn [.agg [.lit (.int .i64 x_Id), .lit (.int .i64 x_Kind), .lit (.int .i64 x_Colour), .lit (.int .i64 x_Size), .lit (.int .i64 x_Worth)]] [] = some ((fun (x : TThing) => True) ⟨x_Id, x_Kind, x_Colour, x_Size, x_Worth⟩, (fun (x : TThing) => (dB (mIsThing x) : D)) ⟨x_Id, x_Kind, x_Colour, x_Size, x_Worth⟩, (fun (x : TThing) => []) ⟨x_Id, x_Kind, x_Colour, x_Size, x_Worth⟩) :=
  mkCon_fn (fun x y h _ => c74_inj x y h) (⟨x_Id, x_Kind, x_Colour, x_Size, x_Worth⟩ : TThing) (by simp [nz, nz1, ML_nil, encTThing]) rfl
theorem c74_pc (x : TThing) : PCo Try.prog 74 [encTThing x] (Tab.of []) (dB (mIsThing x)) (Tab.of []) := by
  obtain ⟨x_Id, x_Kind, x_Colour, x_Size, x_Worth⟩ := x
  refine pco_of_run [] (E := ⟨[c62], [], []⟩) (m := false) (base := 0) (Env.ok_cons c62_ok Env.ok_nil) G_ok mix 300 6 Try.func74 (by kernel_rfl) rfl (by kernel_rfl) (by kernel_rfl) rfl ?_
  simp [Try.f74]
  simp [mIsThing]
theorem c74_ok : c74.ok Try.prog := mkCon_ok fun x hpre => c74_pc x
def mWithin (x : TThing) : TThing := ⟨min (max x.Id 1) 999, min (max x.Kind 1) 8, min (max x.Colour 0) 7, min (max x.Size 1) 50, min (max x.Worth 0) 10000000⟩
/-- (loop.example/g03007/impl.Thing).withinLimits -/
noncomputable def c103 : Con := mkCon 103 false (α := TThing) (fun x => (fun (x : TThing) => [encTThing x]) x) (fun _ => []) (fun x => (fun (x : TThing) => True) x) (fun x => (fun (x : TThing) => (encTThing (mWithin x) : D)) x) (fun x => (fun (x : TThing) => []) x)
@[simp] theorem c103_f : c103.f = 103 := rfl
@[simp] theorem c103_own : c103.own = false := rfl
theorem c103_inj : ∀ u_ v_ : TThing, ((fun x => (fun (x : TThing) => [encTThing x]) x) u_).map nz = ((fun x => (fun (x : TThing) => [encTThing x]) x) v_).map nz → u_ = v_ := by
  intro u_ v_ h
  obtain ⟨x_Id, x_Kind, x_Colour, x_Size, x_Worth⟩ := u_
  obtain ⟨x_Id', x_Kind', x_Colour', x_Size', x_Worth'⟩ := v_
  simp [nz_lit, nz1_lit, nz_agg, nz_sl, nz1_sl, encTThing] at h
  first | (simp [h]; done) | (obtain ⟨⟩ := h; simp_all; done) | simp_all
@[simp] theorem c103_fn (x_Id : Int) (x_Kind : Int) (x_Colour : Int) (x_Size : Int) (x_Worth : Int) : c103.fn [.agg [.lit (.int .i64 x_Id), .lit (.int .i64 x_Kind), .lit (.int .i64 x_Colour), .lit (.int .i64 x_Size), .lit (.int .i64 x_Worth)]] [] = some ((fun (x : TThing) => True) ⟨x_Id, x_Kind, x_Colour, x_Size, x_Worth⟩, (fun (x : TThing) => (encTThing (mWithin x) : D)) ⟨x_Id, x_Kind, x_Colour, x_Size, x_Worth⟩, (fun (x : TThing) => []) ⟨x_Id, x_Kind, x_Colour, x_Size, x_Worth⟩) :=
  mkCon_fn (fun x y h _ => c103_inj x y h) (⟨x_Id, x_Kind, x_Colour, x_Size, x_Worth⟩ : TThing) (by simp [nz, nz1, ML_nil, encTThing]) rfl
theorem c103_pc (x : TThing) : PCo Try.prog 103 [encTThing x] (Tab.of []) (encTThing (mWithin x)) (Tab.of []) := by
  obtain ⟨x_Id, x_Kind, x_Colour, x_Size, x_Worth⟩ := x
  refine pco_of_run [1] (E := ⟨[c115], [], []⟩) (m := false) (base := 0) (Env.ok_cons c115_ok Env.ok_nil) G_ok mix 300 6 Try.func103 (by kernel_rfl) rfl (by kernel_rfl) (by kernel_rfl) rfl ?_
  simp [Try.f103]
  simp [mWithin]
theorem c103_ok : c103.ok Try.prog := mkCon_ok fun x hpre => c103_pc x
/-- loop.example/g03007/impl.IsThing -/
noncomputable def c94 : Con := mkCon 94 false (α := TThing) (fun x => (fun (x : TThing) => [encTThing x]) x) (fun _ => []) (fun x => (fun (x : TThing) => True) x) (fun x => (fun (x : TThing) => (dB (mIsThing x) : D)) x) (fun x => (fun (x : TThing) => []) x)
@[simp] theorem c94_f : c94.f = 94 := rfl
@[simp] theorem c94_own : c94.own = false := rfl
theorem c94_inj : ∀ u_ v_ : TThing, ((fun x => (fun (x : TThing) => [encTThing x]) x) u_).map nz = ((fun x => (fun (x : TThing) => [encTThing x]) x) v_).map nz → u_ = v_ := by
  intro u_ v_ h
  obtain ⟨x_Id, x_Kind, x_Colour, x_Size, x_Worth⟩ := u_
  obtain ⟨x_Id', x_Kind', x_Colour', x_Size', x_Worth'⟩ := v_
  simp [nz_lit, nz1_lit, nz_agg, nz_sl, nz1_sl, encTThing] at h
  first | (simp [h]; done) | (obtain ⟨⟩ := h; simp_all; done) | simp_all
@[simp] theorem c94_fn (x_Id : Int) (x_Kind : Int) (x_Colour : Int) (x_Size : Int) (x_Worth : Int) : c94.fn [.agg [.lit (.int .i64 x_Id), .lit (.int .i64 x_Kind), .lit (.int .i64 x_Colour), .lit (.int .i64 x_Size), .lit (.int .i64 x_Worth)]] [] = some ((fun (x : TThing) => True) ⟨x_Id, x_Kind, x_Colour, x_Size, x_Worth⟩, (fun (x : TThing) => (dB (mIsThing x) : D)) ⟨x_Id, x_Kind, x_Colour, x_Size, x_Worth⟩, (fun (x : TThing) => []) ⟨x_Id, x_Kind, x_Colour, x_Size, x_Worth⟩) :=
  mkCon_fn (fun x y h _ => c94_inj x y h) (⟨x_Id, x_Kind, x_Colour, x_Size, x_Worth⟩ : TThing) (by simp [nz, nz1, ML_nil, encTThing]) rfl
theorem c94_pc (x : TThing) : PCo Try.prog 94 [encTThing x] (Tab.of []) (dB (mIsThing x)) (Tab.of []) := by
  obtain ⟨x_Id, x_Kind, x_Colour, x_Size, x_Worth⟩ := x
  refine pco_of_run [1] (E := ⟨[c103], [], []⟩) (m := false) (base := 0) (Env.ok_cons c103_ok Env.ok_nil) G_ok mix 300 6 Try.func94 (by kernel_rfl) rfl (by kernel_rfl) (by kernel_rfl) rfl ?_
  simp [Try.f94]
  rw [Bool.eq_iff_iff]
  simp [mIsThing, mWithin, mIn]
  omega
theorem c94_ok : c94.ok Try.prog := mkCon_ok fun x hpre => c94_pc x
def mAsc : Int → List TThing → Bool
  | _, [] => true
  | p, x :: r => mIsThing x && decide (p < x.Id) && mAsc x.Id r
def mAreThings (l : List TThing) : Bool := decide (l.length ≤ 20) && mAsc 0 l
def prevId (l : List TThing) (p : Nat) : Int := if p = 0 then 0 else (l[p - 1]?.getD default).Id
end Go.Proofs.Ytdiajaijdkohlaa
