/- Contracts of the functions that the laws run. -/
import Derived.Test.Ytljamnanhmpdnaach01
import Derived.Test.YtljamnanhmpdnaaEngB
namespace Go.Proofs.Ytljamnanhmpdnaa
open Go Go.Eng
set_option linter.unusedSimpArgs false
set_option linter.unusedVariables false
set_option maxRecDepth 10000
set_option maxHeartbeats 1000000
/-- loop.example/g03007/impl.nearest -/
noncomputable def c84 : Con := mkCon 84 false (α := Int × Int × Int) (fun x => (fun (n : Int) (low : Int) (high : Int) => [dI n, dI low, dI high]) x.1 x.2.1 x.2.2) (fun _ => []) (fun x => (fun (n : Int) (low : Int) (high : Int) => True) x.1 x.2.1 x.2.2) (fun x => (fun (n : Int) (low : Int) (high : Int) => (dI (min (max n low) high) : D)) x.1 x.2.1 x.2.2) (fun x => (fun (n : Int) (low : Int) (high : Int) => []) x.1 x.2.1 x.2.2)
@[simp] theorem c84_f : c84.f = 84 := rfl
@[simp] theorem c84_own : c84.own = false := rfl
theorem c84_inj : ∀ u_ v_ : Int × Int × Int, ((fun x => (fun (n : Int) (low : Int) (high : Int) => [dI n, dI low, dI high]) x.1 x.2.1 x.2.2) u_).map nz = ((fun x => (fun (n : Int) (low : Int) (high : Int) => [dI n, dI low, dI high]) x.1 x.2.1 x.2.2) v_).map nz → u_ = v_ := by
  intro u_ v_ h
  obtain ⟨n, low, high⟩ := u_
  obtain ⟨n', low', high'⟩ := v_
  simp [nz_lit, nz1_lit, nz_agg, nz_sl, nz1_sl] at h
  first | (simp [h]; done) | (obtain ⟨⟩ := h; simp_all; done) | simp_all
@[simp] theorem c84_fn (n : Int) (low : Int) (high : Int) : c84.fn [.lit (.int .i64 n), .lit (.int .i64 low), .lit (.int .i64 high)] [] = some ((fun (n : Int) (low : Int) (high : Int) => True) n low high, (fun (n : Int) (low : Int) (high : Int) => (dI (min (max n low) high) : D)) n low high, (fun (n : Int) (low : Int) (high : Int) => []) n low high) :=
  mkCon_fn (fun x y h _ => c84_inj x y h) ((n, low, high) : Int × Int × Int) (by simp [nz, nz1, ML_nil]) rfl
theorem c84_pc (n : Int) (low : Int) (high : Int) : PCo Try.prog 84 [dI n, dI low, dI high] (Tab.of []) (dI (min (max n low) high)) (Tab.of []) := by
  refine pco_of_run [] (E := ⟨[c81, c98], []⟩) (m := false) (base := 0) (Env.ok_cons c81_ok (Env.ok_cons c98_ok Env.ok_nil)) G_ok mix 300 6 Try.func84 (by kernel_rfl) rfl (by kernel_rfl) (by kernel_rfl) rfl ?_
  simp [Try.f84]
  all_goals first | omega | (rw [Bool.eq_iff_iff]; simp; omega) | grind
theorem c84_ok : c84.ok Try.prog := mkCon_ok fun ⟨n, low, high⟩ hpre => c84_pc n low high
/-- loop.example/g03007/laws.toThing -/
noncomputable def c50 : Con := mkCon 50 false (α := TThing) (fun x => (fun (a : TThing) => [encTThing a]) x) (fun _ => []) (fun x => (fun (a : TThing) => True) x) (fun x => (fun (a : TThing) => (encTThing a : D)) x) (fun x => (fun (a : TThing) => []) x)
@[simp] theorem c50_f : c50.f = 50 := rfl
@[simp] theorem c50_own : c50.own = false := rfl
theorem c50_inj : ∀ u_ v_ : TThing, ((fun x => (fun (a : TThing) => [encTThing a]) x) u_).map nz = ((fun x => (fun (a : TThing) => [encTThing a]) x) v_).map nz → u_ = v_ := by
  intro u_ v_ h
  obtain ⟨a_Id, a_Kind, a_Colour, a_Size, a_Worth⟩ := u_
  obtain ⟨a_Id', a_Kind', a_Colour', a_Size', a_Worth'⟩ := v_
  simp [nz_lit, nz1_lit, nz_agg, nz_sl, nz1_sl, encTThing] at h
  first | (simp [h]; done) | (obtain ⟨⟩ := h; simp_all; done) | simp_all
@[simp] theorem c50_fn (a_Id : Int) (a_Kind : Int) (a_Colour : Int) (a_Size : Int) (a_Worth : Int) : c50.fn [.agg [.lit (.int .i64 a_Id), .lit (.int .i64 a_Kind), .lit (.int .i64 a_Colour), .lit (.int .i64 a_Size), .lit (.int .i64 a_Worth)]] [] = some ((fun (a : TThing) => True) ⟨a_Id, a_Kind, a_Colour, a_Size, a_Worth⟩, (fun (a : TThing) => (encTThing a : D)) ⟨a_Id, a_Kind, a_Colour, a_Size, a_Worth⟩, (fun (a : TThing) => []) ⟨a_Id, a_Kind, a_Colour, a_Size, a_Worth⟩) :=
  mkCon_fn (fun x y h _ => c50_inj x y h) (⟨a_Id, a_Kind, a_Colour, a_Size, a_Worth⟩ : TThing) (by simp [nz, nz1, ML_nil, encTThing]) rfl
theorem c50_pc (a : TThing) : PCo Try.prog 50 [encTThing a] (Tab.of []) (encTThing a) (Tab.of []) := by
  obtain ⟨a_Id, a_Kind, a_Colour, a_Size, a_Worth⟩ := a
  refine pco_of_run [] (E := ⟨[], []⟩) (m := false) (base := 0) Env.ok_nil G_ok mix 300 6 Try.func50 (by kernel_rfl) rfl (by kernel_rfl) (by kernel_rfl) rfl ?_
  simp [Try.f50]
  all_goals first | omega | (rw [Bool.eq_iff_iff]; simp; omega) | grind
theorem c50_ok : c50.ok Try.prog := mkCon_ok fun a hpre => c50_pc a
def mIsThing (x : TThing) : Bool := mIn x.Id 1 999 && mIn x.Kind 1 8 && mIn x.Colour 0 7 && mIn x.Size 1 50 && mIn x.Worth 0 10000000
/-- loop.example/g03007/spec.IsThing -/
noncomputable def c77 : Con := mkCon 77 false (α := TThing) (fun x => (fun (x : TThing) => [encTThing x]) x) (fun _ => []) (fun x => (fun (x : TThing) => True) x) (fun x => (fun (x : TThing) => (dB (mIsThing x) : D)) x) (fun x => (fun (x : TThing) => []) x)
@[simp] theorem c77_f : c77.f = 77 := rfl
@[simp] theorem c77_own : c77.own = false := rfl
theorem c77_inj : ∀ u_ v_ : TThing, ((fun x => (fun (x : TThing) => [encTThing x]) x) u_).map nz = ((fun x => (fun (x : TThing) => [encTThing x]) x) v_).map nz → u_ = v_ := by
  intro u_ v_ h
  obtain ⟨x_Id, x_Kind, x_Colour, x_Size, x_Worth⟩ := u_
  obtain ⟨x_Id', x_Kind', x_Colour', x_Size', x_Worth'⟩ := v_
  simp [nz_lit, nz1_lit, nz_agg, nz_sl, nz1_sl, encTThing] at h
  first | (simp [h]; done) | (obtain ⟨⟩ := h; simp_all; done) | simp_all
@[simp] theorem c77_fn (x_Id : Int) (x_Kind : Int) (x_Colour : Int) (x_Size : Int) (x_Worth : Int) : c77.fn [.agg [.lit (.int .i64 x_Id), .lit (.int .i64 x_Kind), .lit (.int .i64 x_Colour), .lit (.int .i64 x_Size), .lit (.int .i64 x_Worth)]] [] = some ((fun (x : TThing) => True) ⟨x_Id, x_Kind, x_Colour, x_Size, x_Worth⟩, (fun (x : TThing) => (dB (mIsThing x) : D)) ⟨x_Id, x_Kind, x_Colour, x_Size, x_Worth⟩, (fun (x : TThing) => []) ⟨x_Id, x_Kind, x_Colour, x_Size, x_Worth⟩) :=
  mkCon_fn (fun x y h _ => c77_inj x y h) (⟨x_Id, x_Kind, x_Colour, x_Size, x_Worth⟩ : TThing) (by simp [nz, nz1, ML_nil, encTThing]) rfl
theorem c77_pc (x : TThing) : PCo Try.prog 77 [encTThing x] (Tab.of []) (dB (mIsThing x)) (Tab.of []) := by
  obtain ⟨x_Id, x_Kind, x_Colour, x_Size, x_Worth⟩ := x
  refine pco_of_run [] (E := ⟨[c61], []⟩) (m := false) (base := 0) (Env.ok_cons c61_ok Env.ok_nil) G_ok mix 300 6 Try.func77 (by kernel_rfl) rfl (by kernel_rfl) (by kernel_rfl) rfl ?_
  simp [Try.f77]
  simp [mIsThing]
theorem c77_ok : c77.ok Try.prog := mkCon_ok fun x hpre => c77_pc x
def mWithin (x : TThing) : TThing := ⟨min (max x.Id 1) 999, min (max x.Kind 1) 8, min (max x.Colour 0) 7, min (max x.Size 1) 50, min (max x.Worth 0) 10000000⟩
/-- (loop.example/g03007/impl.Thing).withinLimits -/
noncomputable def c95 : Con := mkCon 95 false (α := TThing) (fun x => (fun (x : TThing) => [encTThing x]) x) (fun _ => []) (fun x => (fun (x : TThing) => True) x) (fun x => (fun (x : TThing) => (encTThing (mWithin x) : D)) x) (fun x => (fun (x : TThing) => []) x)
@[simp] theorem c95_f : c95.f = 95 := rfl
@[simp] theorem c95_own : c95.own = false := rfl
theorem c95_inj : ∀ u_ v_ : TThing, ((fun x => (fun (x : TThing) => [encTThing x]) x) u_).map nz = ((fun x => (fun (x : TThing) => [encTThing x]) x) v_).map nz → u_ = v_ := by
  intro u_ v_ h
  obtain ⟨x_Id, x_Kind, x_Colour, x_Size, x_Worth⟩ := u_
  obtain ⟨x_Id', x_Kind', x_Colour', x_Size', x_Worth'⟩ := v_
  simp [nz_lit, nz1_lit, nz_agg, nz_sl, nz1_sl, encTThing] at h
  first | (simp [h]; done) | (obtain ⟨⟩ := h; simp_all; done) | simp_all
@[simp] theorem c95_fn (x_Id : Int) (x_Kind : Int) (x_Colour : Int) (x_Size : Int) (x_Worth : Int) : c95.fn [.agg [.lit (.int .i64 x_Id), .lit (.int .i64 x_Kind), .lit (.int .i64 x_Colour), .lit (.int .i64 x_Size), .lit (.int .i64 x_Worth)]] [] = some ((fun (x : TThing) => True) ⟨x_Id, x_Kind, x_Colour, x_Size, x_Worth⟩, (fun (x : TThing) => (encTThing (mWithin x) : D)) ⟨x_Id, x_Kind, x_Colour, x_Size, x_Worth⟩, (fun (x : TThing) => []) ⟨x_Id, x_Kind, x_Colour, x_Size, x_Worth⟩) :=
  mkCon_fn (fun x y h _ => c95_inj x y h) (⟨x_Id, x_Kind, x_Colour, x_Size, x_Worth⟩ : TThing) (by simp [nz, nz1, ML_nil, encTThing]) rfl
theorem c95_pc (x : TThing) : PCo Try.prog 95 [encTThing x] (Tab.of []) (encTThing (mWithin x)) (Tab.of []) := by
  obtain ⟨x_Id, x_Kind, x_Colour, x_Size, x_Worth⟩ := x
  refine pco_of_run [1] (E := ⟨[c84], []⟩) (m := false) (base := 0) (Env.ok_cons c84_ok Env.ok_nil) G_ok mix 300 6 Try.func95 (by kernel_rfl) rfl (by kernel_rfl) (by kernel_rfl) rfl ?_
  simp [Try.f95]
  simp [mWithin]
theorem c95_ok : c95.ok Try.prog := mkCon_ok fun x hpre => c95_pc x
/-- loop.example/g03007/impl.IsThing -/
noncomputable def c79 : Con := mkCon 79 false (α := TThing) (fun x => (fun (x : TThing) => [encTThing x]) x) (fun _ => []) (fun x => (fun (x : TThing) => True) x) (fun x => (fun (x : TThing) => (dB (mIsThing x) : D)) x) (fun x => (fun (x : TThing) => []) x)
@[simp] theorem c79_f : c79.f = 79 := rfl
@[simp] theorem c79_own : c79.own = false := rfl
theorem c79_inj : ∀ u_ v_ : TThing, ((fun x => (fun (x : TThing) => [encTThing x]) x) u_).map nz = ((fun x => (fun (x : TThing) => [encTThing x]) x) v_).map nz → u_ = v_ := by
  intro u_ v_ h
  obtain ⟨x_Id, x_Kind, x_Colour, x_Size, x_Worth⟩ := u_
  obtain ⟨x_Id', x_Kind', x_Colour', x_Size', x_Worth'⟩ := v_
  simp [nz_lit, nz1_lit, nz_agg, nz_sl, nz1_sl, encTThing] at h
  first | (simp [h]; done) | (obtain ⟨⟩ := h; simp_all; done) | simp_all
@[simp] theorem c79_fn (x_Id : Int) (x_Kind : Int) (x_Colour : Int) (x_Size : Int) (x_Worth : Int) : c79.fn [.agg [.lit (.int .i64 x_Id), .lit (.int .i64 x_Kind), .lit (.int .i64 x_Colour), .lit (.int .i64 x_Size), .lit (.int .i64 x_Worth)]] [] = some ((fun (x : TThing) => True) ⟨x_Id, x_Kind, x_Colour, x_Size, x_Worth⟩, (fun (x : TThing) => (dB (mIsThing x) : D)) ⟨x_Id, x_Kind, x_Colour, x_Size, x_Worth⟩, (fun (x : TThing) => []) ⟨x_Id, x_Kind, x_Colour, x_Size, x_Worth⟩) :=
  mkCon_fn (fun x y h _ => c79_inj x y h) (⟨x_Id, x_Kind, x_Colour, x_Size, x_Worth⟩ : TThing) (by simp [nz, nz1, ML_nil, encTThing]) rfl
theorem c79_pc (x : TThing) : PCo Try.prog 79 [encTThing x] (Tab.of []) (dB (mIsThing x)) (Tab.of []) := by
  obtain ⟨x_Id, x_Kind, x_Colour, x_Size, x_Worth⟩ := x
  refine pco_of_run [1] (E := ⟨[c95], []⟩) (m := false) (base := 0) (Env.ok_cons c95_ok Env.ok_nil) G_ok mix 300 6 Try.func79 (by kernel_rfl) rfl (by kernel_rfl) (by kernel_rfl) rfl ?_
  simp [Try.f79]
  rw [Bool.eq_iff_iff]
  simp [mIsThing, mWithin, mIn]
  omega
theorem c79_ok : c79.ok Try.prog := mkCon_ok fun x hpre => c79_pc x
def mAsc : Int → List TThing → Bool
  | _, [] => true
  | p, x :: r => mIsThing x && decide (p < x.Id) && mAsc x.Id r
def mAreThings (l : List TThing) : Bool := decide (l.length ≤ 20) && mAsc 0 l
def prevId (l : List TThing) (p : Nat) : Int := if p = 0 then 0 else (l[p - 1]?.getD default).Id
end Go.Proofs.Ytljamnanhmpdnaa
