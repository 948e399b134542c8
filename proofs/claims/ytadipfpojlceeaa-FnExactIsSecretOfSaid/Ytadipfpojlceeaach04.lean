/- Contracts of the functions that the laws run. -/
import Derived.Test.Ytadipfpojlceeaach01
import Derived.Test.YtadipfpojlceeaaEngB
namespace Go.Proofs.Ytadipfpojlceeaa
open Go Go.Eng
set_option linter.unusedSimpArgs false
set_option linter.unusedVariables false
set_option maxRecDepth 10000
set_option maxHeartbeats 1000000
/-- loop.example/g03007/impl.nearest -/
noncomputable def c174 : Con := mkCon 174 false (α := Int × Int × Int) (fun x => (fun (n : Int) (low : Int) (high : Int) => [dI n, dI low, dI high]) x.1 x.2.1 x.2.2) (fun _ => []) (fun x => (fun (n : Int) (low : Int) (high : Int) => True) x.1 x.2.1 x.2.2) (fun x => (fun (n : Int) (low : Int) (high : Int) => (dI (min (max n low) high) : D)) x.1 x.2.1 x.2.2) (fun x => (fun (n : Int) (low : Int) (high : Int) => []) x.1 x.2.1 x.2.2)
@[simp] theorem c174_f : c174.f = 174 := rfl
@[simp] theorem c174_own : c174.own = false := rfl
theorem c174_inj : ∀ u_ v_ : Int × Int × Int, ((fun x => (fun (n : Int) (low : Int) (high : Int) => [dI n, dI low, dI high]) x.1 x.2.1 x.2.2) u_).map nz = ((fun x => (fun (n : Int) (low : Int) (high : Int) => [dI n, dI low, dI high]) x.1 x.2.1 x.2.2) v_).map nz → u_ = v_ := by
  intro u_ v_ h
  obtain ⟨n, low, high⟩ := u_
  obtain ⟨n', low', high'⟩ := v_
  simp [nz_lit, nz1_lit, nz_agg, nz_sl, nz1_sl] at h
  first | (simp [h]; done) | (obtain ⟨⟩ := h; simp_all; done) | simp_all
@[simp] theorem c174_fn (n : Int) (low : Int) (high : Int) : c174.fn [.lit (.int .i64 n), .lit (.int .i64 low), .lit (.int .i64 high)] [] = some ((fun (n : Int) (low : Int) (high : Int) => True) n low high, (fun (n : Int) (low : Int) (high : Int) => (dI (min (max n low) high) : D)) n low high, (fun (n : Int) (low : Int) (high : Int) => []) n low high) :=
  mkCon_fn (fun x y h _ => c174_inj x y h) ((n, low, high) : Int × Int × Int) (by simp [nz, nz1, ML_nil]) rfl
theorem c174_pc (n : Int) (low : Int) (high : Int) : PCo Try.prog 174 [dI n, dI low, dI high] (Tab.of []) (dI (min (max n low) high)) (Tab.of []) := by
  refine pco_of_run [] (E := ⟨[c208, c209], []⟩) (m := false) (base := 0) (Env.ok_cons c208_ok (Env.ok_cons c209_ok Env.ok_nil)) G_ok mix 300 6 Try.func174 (by kernel_rfl) rfl (by kernel_rfl) (by kernel_rfl) rfl ?_
  simp [Try.f174]
  all_goals first | omega | (rw [Bool.eq_iff_iff]; simp; omega) | grind
theorem c174_ok : c174.ok Try.prog := mkCon_ok fun ⟨n, low, high⟩ hpre => c174_pc n low high
/-- loop.example/g03007/laws.toThing -/
noncomputable def c30 : Con := mkCon 30 false (α := TThing) (fun x => (fun (a : TThing) => [encTThing a]) x) (fun _ => []) (fun x => (fun (a : TThing) => True) x) (fun x => (fun (a : TThing) => (encTThing a : D)) x) (fun x => (fun (a : TThing) => []) x)
@[simp] theorem c30_f : c30.f = 30 := rfl
@[simp] theorem c30_own : c30.own = false := rfl
theorem c30_inj : ∀ u_ v_ : TThing, ((fun x => (fun (a : TThing) => [encTThing a]) x) u_).map nz = ((fun x => (fun (a : TThing) => [encTThing a]) x) v_).map nz → u_ = v_ := by
  intro u_ v_ h
  obtain ⟨a_Id, a_Kind, a_Colour, a_Size, a_Worth⟩ := u_
  obtain ⟨a_Id', a_Kind', a_Colour', a_Size', a_Worth'⟩ := v_
  simp [nz_lit, nz1_lit, nz_agg, nz_sl, nz1_sl, encTThing] at h
  first | (simp [h]; done) | (obtain ⟨⟩ := h; simp_all; done) | simp_all
@[simp] theorem c30_fn (a_Id : Int) (a_Kind : Int) (a_Colour : Int) (a_Size : Int) (a_Worth : Int) : c30.fn [.agg [.lit (.int .i64 a_Id), .lit (.int .i64 a_Kind), .lit (.int .i64 a_Colour), .lit (.int .i64 a_Size), .lit (.int .i64 a_Worth)]] [] = some ((fun (a : TThing) => True) ⟨a_Id, a_Kind, a_Colour, a_Size, a_Worth⟩, (fun (a : TThing) => (encTThing a : D)) ⟨a_Id, a_Kind, a_Colour, a_Size, a_Worth⟩, (fun (a : TThing) => []) ⟨a_Id, a_Kind, a_Colour, a_Size, a_Worth⟩) :=
  mkCon_fn (fun x y h _ => c30_inj x y h) (⟨a_Id, a_Kind, a_Colour, a_Size, a_Worth⟩ : TThing) (by simp [nz, nz1, ML_nil, encTThing]) rfl
theorem c30_pc (a : TThing) : PCo Try.prog 30 [encTThing a] (Tab.of []) (encTThing a) (Tab.of []) := by
  obtain ⟨a_Id, a_Kind, a_Colour, a_Size, a_Worth⟩ := a
  refine pco_of_run [] (E := ⟨[], []⟩) (m := false) (base := 0) Env.ok_nil G_ok mix 300 6 Try.func30 (by kernel_rfl) rfl (by kernel_rfl) (by kernel_rfl) rfl ?_
  simp [Try.f30]
  all_goals first | omega | (rw [Bool.eq_iff_iff]; simp; omega) | grind
theorem c30_ok : c30.ok Try.prog := mkCon_ok fun a hpre => c30_pc a
def mIsThing (x : TThing) : Bool := mIn x.Id 1 999 && mIn x.Kind 1 8 && mIn x.Colour 0 7 && mIn x.Size 1 50 && mIn x.Worth 0 10000000
/-- loop.example/g03007/spec.IsThing -/
noncomputable def c188 : Con := mkCon 188 false (α := TThing) (fun x => (fun (x : TThing) => [encTThing x]) x) (fun _ => []) (fun x => (fun (x : TThing) => True) x) (fun x => (fun (x : TThing) => (dB (mIsThing x) : D)) x) (fun x => (fun (x : TThing) => []) x)
@[simp] theorem c188_f : c188.f = 188 := rfl
@[simp] theorem c188_own : c188.own = false := rfl
theorem c188_inj : ∀ u_ v_ : TThing, ((fun x => (fun (x : TThing) => [encTThing x]) x) u_).map nz = ((fun x => (fun (x : TThing) => [encTThing x]) x) v_).map nz → u_ = v_ := by
  intro u_ v_ h
  obtain ⟨x_Id, x_Kind, x_Colour, x_Size, x_Worth⟩ := u_
  obtain ⟨x_Id', x_Kind', x_Colour', x_Size', x_Worth'⟩ := v_
  simp [nz_lit, nz1_lit, nz_agg, nz_sl, nz1_sl, encTThing] at h
  first | (simp [h]; done) | (obtain ⟨⟩ := h; simp_all; done) | simp_all
@[simp] theorem c188_fn (x_Id : Int) (x_Kind : Int) (x_Colour : Int) (x_Size : Int) (x_Worth : Int) : c188.fn [.agg [.lit (.int .i64 x_Id), .lit (.int .i64 x_Kind), .lit (.int .i64 x_Colour), .lit (.int .i64 x_Size), .lit (.int .i64 x_Worth)]] [] = some ((fun (x : TThing) => True) ⟨x_Id, x_Kind, x_Colour, x_Size, x_Worth⟩, (fun (x : TThing) => (dB (mIsThing x) : D)) ⟨x_Id, x_Kind, x_Colour, x_Size, x_Worth⟩, (fun (x : TThing) => []) ⟨x_Id, x_Kind, x_Colour, x_Size, x_Worth⟩) :=
  mkCon_fn (fun x y h _ => c188_inj x y h) (⟨x_Id, x_Kind, x_Colour, x_Size, x_Worth⟩ : TThing) (by simp [nz, nz1, ML_nil, encTThing]) rfl
theorem c188_pc (x : TThing) : PCo Try.prog 188 [encTThing x] (Tab.of []) (dB (mIsThing x)) (Tab.of []) := by
  obtain ⟨x_Id, x_Kind, x_Colour, x_Size, x_Worth⟩ := x
  refine pco_of_run [] (E := ⟨[c121], []⟩) (m := false) (base := 0) (Env.ok_cons c121_ok Env.ok_nil) G_ok mix 300 6 Try.func188 (by kernel_rfl) rfl (by kernel_rfl) (by kernel_rfl) rfl ?_
  simp [Try.f188]
  simp [mIsThing]
theorem c188_ok : c188.ok Try.prog := mkCon_ok fun x hpre => c188_pc x
def mWithin (x : TThing) : TThing := ⟨min (max x.Id 1) 999, min (max x.Kind 1) 8, min (max x.Colour 0) 7, min (max x.Size 1) 50, min (max x.Worth 0) 10000000⟩
/-- (loop.example/g03007/impl.Thing).withinLimits -/
noncomputable def c227 : Con := mkCon 227 false (α := TThing) (fun x => (fun (x : TThing) => [encTThing x]) x) (fun _ => []) (fun x => (fun (x : TThing) => True) x) (fun x => (fun (x : TThing) => (encTThing (mWithin x) : D)) x) (fun x => (fun (x : TThing) => []) x)
@[simp] theorem c227_f : c227.f = 227 := rfl
@[simp] theorem c227_own : c227.own = false := rfl
theorem c227_inj : ∀ u_ v_ : TThing, ((fun x => (fun (x : TThing) => [encTThing x]) x) u_).map nz = ((fun x => (fun (x : TThing) => [encTThing x]) x) v_).map nz → u_ = v_ := by
  intro u_ v_ h
  obtain ⟨x_Id, x_Kind, x_Colour, x_Size, x_Worth⟩ := u_
  obtain ⟨x_Id', x_Kind', x_Colour', x_Size', x_Worth'⟩ := v_
  simp [nz_lit, nz1_lit, nz_agg, nz_sl, nz1_sl, encTThing] at h
  first | (simp [h]; done) | (obtain ⟨⟩ := h; simp_all; done) | simp_all
@[simp] theorem c227_fn (x_Id : Int) (x_Kind : Int) (x_Colour : Int) (x_Size : Int) (x_Worth : Int) : c227.fn [.agg [.lit (.int .i64 x_Id), .lit (.int .i64 x_Kind), .lit (.int .i64 x_Colour), .lit (.int .i64 x_Size), .lit (.int .i64 x_Worth)]] [] = some ((fun (x : TThing) => True) ⟨x_Id, x_Kind, x_Colour, x_Size, x_Worth⟩, (fun (x : TThing) => (encTThing (mWithin x) : D)) ⟨x_Id, x_Kind, x_Colour, x_Size, x_Worth⟩, (fun (x : TThing) => []) ⟨x_Id, x_Kind, x_Colour, x_Size, x_Worth⟩) :=
  mkCon_fn (fun x y h _ => c227_inj x y h) (⟨x_Id, x_Kind, x_Colour, x_Size, x_Worth⟩ : TThing) (by simp [nz, nz1, ML_nil, encTThing]) rfl
theorem c227_pc (x : TThing) : PCo Try.prog 227 [encTThing x] (Tab.of []) (encTThing (mWithin x)) (Tab.of []) := by
  obtain ⟨x_Id, x_Kind, x_Colour, x_Size, x_Worth⟩ := x
  refine pco_of_run [1] (E := ⟨[c174], []⟩) (m := false) (base := 0) (Env.ok_cons c174_ok Env.ok_nil) G_ok mix 300 6 Try.func227 (by kernel_rfl) rfl (by kernel_rfl) (by kernel_rfl) rfl ?_
  simp [Try.f227]
  simp [mWithin]
theorem c227_ok : c227.ok Try.prog := mkCon_ok fun x hpre => c227_pc x
/-- loop.example/g03007/impl.IsThing -/
noncomputable def c216 : Con := mkCon 216 false (α := TThing) (fun x => (fun (x : TThing) => [encTThing x]) x) (fun _ => []) (fun x => (fun (x : TThing) => True) x) (fun x => (fun (x : TThing) => (dB (mIsThing x) : D)) x) (fun x => (fun (x : TThing) => []) x)
@[simp] theorem c216_f : c216.f = 216 := rfl
@[simp] theorem c216_own : c216.own = false := rfl
theorem c216_inj : ∀ u_ v_ : TThing, ((fun x => (fun (x : TThing) => [encTThing x]) x) u_).map nz = ((fun x => (fun (x : TThing) => [encTThing x]) x) v_).map nz → u_ = v_ := by
  intro u_ v_ h
  obtain ⟨x_Id, x_Kind, x_Colour, x_Size, x_Worth⟩ := u_
  obtain ⟨x_Id', x_Kind', x_Colour', x_Size', x_Worth'⟩ := v_
  simp [nz_lit, nz1_lit, nz_agg, nz_sl, nz1_sl, encTThing] at h
  first | (simp [h]; done) | (obtain ⟨⟩ := h; simp_all; done) | simp_all
@[simp] theorem c216_fn (x_Id : Int) (x_Kind : Int) (x_Colour : Int) (x_Size : Int) (x_Worth : Int) : c216.fn [.agg [.lit (.int .i64 x_Id), .lit (.int .i64 x_Kind), .lit (.int .i64 x_Colour), .lit (.int .i64 x_Size), .lit (.int .i64 x_Worth)]] [] = some ((fun (x : TThing) => True) ⟨x_Id, x_Kind, x_Colour, x_Size, x_Worth⟩, (fun (x : TThing) => (dB (mIsThing x) : D)) ⟨x_Id, x_Kind, x_Colour, x_Size, x_Worth⟩, (fun (x : TThing) => []) ⟨x_Id, x_Kind, x_Colour, x_Size, x_Worth⟩) :=
  mkCon_fn (fun x y h _ => c216_inj x y h) (⟨x_Id, x_Kind, x_Colour, x_Size, x_Worth⟩ : TThing) (by simp [nz, nz1, ML_nil, encTThing]) rfl
theorem c216_pc (x : TThing) : PCo Try.prog 216 [encTThing x] (Tab.of []) (dB (mIsThing x)) (Tab.of []) := by
  obtain ⟨x_Id, x_Kind, x_Colour, x_Size, x_Worth⟩ := x
  refine pco_of_run [1] (E := ⟨[c227], []⟩) (m := false) (base := 0) (Env.ok_cons c227_ok Env.ok_nil) G_ok mix 300 6 Try.func216 (by kernel_rfl) rfl (by kernel_rfl) (by kernel_rfl) rfl ?_
  simp [Try.f216]
  rw [Bool.eq_iff_iff]
  simp [mIsThing, mWithin, mIn]
  omega
theorem c216_ok : c216.ok Try.prog := mkCon_ok fun x hpre => c216_pc x
/-- loop.example/g03007/laws.eqThing -/
noncomputable def c205 : Con := mkCon 205 false (α := TThing × TThing) (fun x => (fun (a : TThing) (b : TThing) => [encTThing a, encTThing b]) x.1 x.2) (fun _ => []) (fun x => (fun (a : TThing) (b : TThing) => True) x.1 x.2) (fun x => (fun (a : TThing) (b : TThing) => (dB (decide (a = b)) : D)) x.1 x.2) (fun x => (fun (a : TThing) (b : TThing) => []) x.1 x.2)
@[simp] theorem c205_f : c205.f = 205 := rfl
@[simp] theorem c205_own : c205.own = false := rfl
theorem c205_inj : ∀ u_ v_ : TThing × TThing, ((fun x => (fun (a : TThing) (b : TThing) => [encTThing a, encTThing b]) x.1 x.2) u_).map nz = ((fun x => (fun (a : TThing) (b : TThing) => [encTThing a, encTThing b]) x.1 x.2) v_).map nz → u_ = v_ := by
  intro u_ v_ h
  obtain ⟨⟨a_Id, a_Kind, a_Colour, a_Size, a_Worth⟩, ⟨b_Id, b_Kind, b_Colour, b_Size, b_Worth⟩⟩ := u_
  obtain ⟨⟨a_Id', a_Kind', a_Colour', a_Size', a_Worth'⟩, ⟨b_Id', b_Kind', b_Colour', b_Size', b_Worth'⟩⟩ := v_
  simp [nz_lit, nz1_lit, nz_agg, nz_sl, nz1_sl, encTThing] at h
  first | (simp [h]; done) | (obtain ⟨⟩ := h; simp_all; done) | simp_all
@[simp] theorem c205_fn (a_Id : Int) (a_Kind : Int) (a_Colour : Int) (a_Size : Int) (a_Worth : Int) (b_Id : Int) (b_Kind : Int) (b_Colour : Int) (b_Size : Int) (b_Worth : Int) : c205.fn [.agg [.lit (.int .i64 a_Id), .lit (.int .i64 a_Kind), .lit (.int .i64 a_Colour), .lit (.int .i64 a_Size), .lit (.int .i64 a_Worth)], .agg [.lit (.int .i64 b_Id), .lit (.int .i64 b_Kind), .lit (.int .i64 b_Colour), .lit (.int .i64 b_Size), .lit (.int .i64 b_Worth)]] [] = some ((fun (a : TThing) (b : TThing) => True) ⟨a_Id, a_Kind, a_Colour, a_Size, a_Worth⟩ ⟨b_Id, b_Kind, b_Colour, b_Size, b_Worth⟩, (fun (a : TThing) (b : TThing) => (dB (decide (a = b)) : D)) ⟨a_Id, a_Kind, a_Colour, a_Size, a_Worth⟩ ⟨b_Id, b_Kind, b_Colour, b_Size, b_Worth⟩, (fun (a : TThing) (b : TThing) => []) ⟨a_Id, a_Kind, a_Colour, a_Size, a_Worth⟩ ⟨b_Id, b_Kind, b_Colour, b_Size, b_Worth⟩) :=
  mkCon_fn (fun x y h _ => c205_inj x y h) ((⟨a_Id, a_Kind, a_Colour, a_Size, a_Worth⟩, ⟨b_Id, b_Kind, b_Colour, b_Size, b_Worth⟩) : TThing × TThing) (by simp [nz, nz1, ML_nil, encTThing]) rfl
theorem c205_pc (a : TThing) (b : TThing) : PCo Try.prog 205 [encTThing a, encTThing b] (Tab.of []) (dB (decide (a = b))) (Tab.of []) := by
  obtain ⟨a_Id, a_Kind, a_Colour, a_Size, a_Worth⟩ := a
  obtain ⟨b_Id, b_Kind, b_Colour, b_Size, b_Worth⟩ := b
  refine pco_of_run [] (E := ⟨[], []⟩) (m := false) (base := 0) Env.ok_nil G_ok mix 300 6 Try.func205 (by kernel_rfl) rfl (by kernel_rfl) (by kernel_rfl) rfl ?_
  simp [Try.f205]
  all_goals first | omega | (rw [Bool.eq_iff_iff]; simp; omega) | grind
theorem c205_ok : c205.ok Try.prog := mkCon_ok fun ⟨a, b⟩ hpre => c205_pc a b
def mAsc : Int → List TThing → Bool
  | _, [] => true
  | p, x :: r => mIsThing x && decide (p < x.Id) && mAsc x.Id r
def mAreThings (l : List TThing) : Bool := decide (l.length ≤ 20) && mAsc 0 l
def prevId (l : List TThing) (p : Nat) : Int := if p = 0 then 0 else (l[p - 1]?.getD default).Id
end Go.Proofs.Ytadipfpojlceeaa
