/- Contracts of the functions that the laws run. -/
import Derived.Test.Ytlpobdjfdbfhaaach01
import Derived.Test.YtlpobdjfdbfhaaaEngB
namespace Go.Proofs.Ytlpobdjfdbfhaaa
open Go Go.Eng
set_option linter.unusedSimpArgs false
set_option linter.unusedVariables false
set_option maxRecDepth 10000
set_option maxHeartbeats 1000000
/-- loop.example/g03007/impl.nearest -/
noncomputable def c232 : Con := mkCon 232 false (α := Int × Int × Int) (fun x => (fun (n : Int) (low : Int) (high : Int) => [dI n, dI low, dI high]) x.1 x.2.1 x.2.2) (fun _ => []) (fun x => (fun (n : Int) (low : Int) (high : Int) => True) x.1 x.2.1 x.2.2) (fun x => (fun (n : Int) (low : Int) (high : Int) => (dI (min (max n low) high) : D)) x.1 x.2.1 x.2.2) (fun x => (fun (n : Int) (low : Int) (high : Int) => []) x.1 x.2.1 x.2.2)
@[simp] theorem c232_f : c232.f = 232 := rfl
@[simp] theorem c232_own : c232.own = false := rfl
theorem c232_inj : ∀ u_ v_ : Int × Int × Int, ((fun x => (fun (n : Int) (low : Int) (high : Int) => [dI n, dI low, dI high]) x.1 x.2.1 x.2.2) u_).map nz = ((fun x => (fun (n : Int) (low : Int) (high : Int) => [dI n, dI low, dI high]) x.1 x.2.1 x.2.2) v_).map nz → u_ = v_ := by
  intro u_ v_ h
  obtain ⟨n, low, high⟩ := u_
  obtain ⟨n', low', high'⟩ := v_
  simp [nz_lit, nz1_lit, nz_agg, nz_sl, nz1_sl] at h
  first | (simp [h]; done) | (obtain ⟨⟩ := h; simp_all; done) | simp_all
@[simp] theorem c232_fn (n : Int) (low : Int) (high : Int) : c232.fn [.lit (.int .i64 n), .lit (.int .i64 low), .lit (.int .i64 high)] [] = some ((fun (n : Int) (low : Int) (high : Int) => True) n low high, (fun (n : Int) (low : Int) (high : Int) => (dI (min (max n low) high) : D)) n low high, (fun (n : Int) (low : Int) (high : Int) => []) n low high) :=
  mkCon_fn (fun x y h _ => c232_inj x y h) ((n, low, high) : Int × Int × Int) (by simp [nz, nz1, ML_nil]) rfl
theorem c232_pc (n : Int) (low : Int) (high : Int) : PCo Try.prog 232 [dI n, dI low, dI high] (Tab.of []) (dI (min (max n low) high)) (Tab.of []) := by
  refine pco_of_run [] (E := ⟨[c162, c163], []⟩) (m := false) (base := 0) (Env.ok_cons c162_ok (Env.ok_cons c163_ok Env.ok_nil)) G_ok mix 300 6 Try.func232 (by kernel_rfl) rfl (by kernel_rfl) (by kernel_rfl) rfl ?_
  simp [Try.f232]
  all_goals first | omega | (rw [Bool.eq_iff_iff]; simp; omega) | grind
theorem c232_ok : c232.ok Try.prog := mkCon_ok fun ⟨n, low, high⟩ hpre => c232_pc n low high
/-- loop.example/g03007/laws.toThing -/
noncomputable def c118 : Con := mkCon 118 false (α := TThing) (fun x => (fun (a : TThing) => [encTThing a]) x) (fun _ => []) (fun x => (fun (a : TThing) => True) x) (fun x => (fun (a : TThing) => (encTThing a : D)) x) (fun x => (fun (a : TThing) => []) x)
@[simp] theorem c118_f : c118.f = 118 := rfl
@[simp] theorem c118_own : c118.own = false := rfl
theorem c118_inj : ∀ u_ v_ : TThing, ((fun x => (fun (a : TThing) => [encTThing a]) x) u_).map nz = ((fun x => (fun (a : TThing) => [encTThing a]) x) v_).map nz → u_ = v_ := by
  intro u_ v_ h
  obtain ⟨a_Id, a_Kind, a_Colour, a_Size, a_Worth⟩ := u_
  obtain ⟨a_Id', a_Kind', a_Colour', a_Size', a_Worth'⟩ := v_
  simp [nz_lit, nz1_lit, nz_agg, nz_sl, nz1_sl, encTThing] at h
  first | (simp [h]; done) | (obtain ⟨⟩ := h; simp_all; done) | simp_all
@[simp] theorem c118_fn (a_Id : Int) (a_Kind : Int) (a_Colour : Int) (a_Size : Int) (a_Worth : Int) : c118.fn [.agg [.lit (.int .i64 a_Id), .lit (.int .i64 a_Kind), .lit (.int .i64 a_Colour), .lit (.int .i64 a_Size), .lit (.int .i64 a_Worth)]] [] = some ((fun (a : TThing) => True) ⟨a_Id, a_Kind, a_Colour, a_Size, a_Worth⟩, (fun (a : TThing) => (encTThing a : D)) ⟨a_Id, a_Kind, a_Colour, a_Size, a_Worth⟩, (fun (a : TThing) => []) ⟨a_Id, a_Kind, a_Colour, a_Size, a_Worth⟩) :=
  mkCon_fn (fun x y h _ => c118_inj x y h) (⟨a_Id, a_Kind, a_Colour, a_Size, a_Worth⟩ : TThing) (by simp [nz, nz1, ML_nil, encTThing]) rfl
theorem c118_pc (a : TThing) : PCo Try.prog 118 [encTThing a] (Tab.of []) (encTThing a) (Tab.of []) := by
  obtain ⟨a_Id, a_Kind, a_Colour, a_Size, a_Worth⟩ := a
  refine pco_of_run [] (E := ⟨[], []⟩) (m := false) (base := 0) Env.ok_nil G_ok mix 300 6 Try.func118 (by kernel_rfl) rfl (by kernel_rfl) (by kernel_rfl) rfl ?_
  simp [Try.f118]
  all_goals first | omega | (rw [Bool.eq_iff_iff]; simp; omega) | grind
theorem c118_ok : c118.ok Try.prog := mkCon_ok fun a hpre => c118_pc a
def mIsThing (x : TThing) : Bool := mIn x.Id 1 999 && mIn x.Kind 1 8 && mIn x.Colour 0 7 && mIn x.Size 1 50 && mIn x.Worth 0 10000000
/-- loop.example/g03007/spec.IsThing -/
noncomputable def c116 : Con := mkCon 116 false (α := TThing) (fun x => (fun (x : TThing) => [encTThing x]) x) (fun _ => []) (fun x => (fun (x : TThing) => True) x) (fun x => (fun (x : TThing) => (dB (mIsThing x) : D)) x) (fun x => (fun (x : TThing) => []) x)
@[simp] theorem c116_f : c116.f = 116 := rfl
@[simp] theorem c116_own : c116.own = false := rfl
theorem c116_inj : ∀ u_ v_ : TThing, ((fun x => (fun (x : TThing) => [encTThing x]) x) u_).map nz = ((fun x => (fun (x : TThing) => [encTThing x]) x) v_).map nz → u_ = v_ := by
  intro u_ v_ h
  obtain ⟨x_Id, x_Kind, x_Colour, x_Size, x_Worth⟩ := u_
  obtain ⟨x_Id', x_Kind', x_Colour', x_Size', x_Worth'⟩ := v_
  simp [nz_lit, nz1_lit, nz_agg, nz_sl, nz1_sl, encTThing] at h
  first | (simp [h]; done) | (obtain ⟨⟩ := h; simp_all; done) | simp_all
@[simp] theorem c116_fn (x_Id : Int) (x_Kind : Int) (x_Colour : Int) (x_Size : Int) (x_Worth : Int) : c116.fn [.agg [.lit (.int .i64 x_Id), .lit (.int .i64 x_Kind), .lit (.int .i64 x_Colour), .lit (.int .i64 x_Size), .lit (.int .i64 x_Worth)]] [] = some ((fun (x : TThing) => True) ⟨x_Id, x_Kind, x_Colour, x_Size, x_Worth⟩, (fun (x : TThing) => (dB (mIsThing x) : D)) ⟨x_Id, x_Kind, x_Colour, x_Size, x_Worth⟩, (fun (x : TThing) => []) ⟨x_Id, x_Kind, x_Colour, x_Size, x_Worth⟩) :=
  mkCon_fn (fun x y h _ => c116_inj x y h) (⟨x_Id, x_Kind, x_Colour, x_Size, x_Worth⟩ : TThing) (by simp [nz, nz1, ML_nil, encTThing]) rfl
theorem c116_pc (x : TThing) : PCo Try.prog 116 [encTThing x] (Tab.of []) (dB (mIsThing x)) (Tab.of []) := by
  obtain ⟨x_Id, x_Kind, x_Colour, x_Size, x_Worth⟩ := x
  refine pco_of_run [] (E := ⟨[c117], []⟩) (m := false) (base := 0) (Env.ok_cons c117_ok Env.ok_nil) G_ok mix 300 6 Try.func116 (by kernel_rfl) rfl (by kernel_rfl) (by kernel_rfl) rfl ?_
  simp [Try.f116]
  simp [mIsThing]
theorem c116_ok : c116.ok Try.prog := mkCon_ok fun x hpre => c116_pc x
def mWithin (x : TThing) : TThing := ⟨min (max x.Id 1) 999, min (max x.Kind 1) 8, min (max x.Colour 0) 7, min (max x.Size 1) 50, min (max x.Worth 0) 10000000⟩
/-- (loop.example/g03007/impl.Thing).withinLimits -/
noncomputable def c223 : Con := mkCon 223 false (α := TThing) (fun x => (fun (x : TThing) => [encTThing x]) x) (fun _ => []) (fun x => (fun (x : TThing) => True) x) (fun x => (fun (x : TThing) => (encTThing (mWithin x) : D)) x) (fun x => (fun (x : TThing) => []) x)
@[simp] theorem c223_f : c223.f = 223 := rfl
@[simp] theorem c223_own : c223.own = false := rfl
theorem c223_inj : ∀ u_ v_ : TThing, ((fun x => (fun (x : TThing) => [encTThing x]) x) u_).map nz = ((fun x => (fun (x : TThing) => [encTThing x]) x) v_).map nz → u_ = v_ := by
  intro u_ v_ h
  obtain ⟨x_Id, x_Kind, x_Colour, x_Size, x_Worth⟩ := u_
  obtain ⟨x_Id', x_Kind', x_Colour', x_Size', x_Worth'⟩ := v_
  simp [nz_lit, nz1_lit, nz_agg, nz_sl, nz1_sl, encTThing] at h
  first | (simp [h]; done) | (obtain ⟨⟩ := h; simp_all; done) | simp_all
@[simp] theorem c223_fn (x_Id : Int) (x_Kind : Int) (x_Colour : Int) (x_Size : Int) (x_Worth : Int) : c223.fn [.agg [.lit (.int .i64 x_Id), .lit (.int .i64 x_Kind), .lit (.int .i64 x_Colour), .lit (.int .i64 x_Size), .lit (.int .i64 x_Worth)]] [] = some ((fun (x : TThing) => True) ⟨x_Id, x_Kind, x_Colour, x_Size, x_Worth⟩, (fun (x : TThing) => (encTThing (mWithin x) : D)) ⟨x_Id, x_Kind, x_Colour, x_Size, x_Worth⟩, (fun (x : TThing) => []) ⟨x_Id, x_Kind, x_Colour, x_Size, x_Worth⟩) :=
  mkCon_fn (fun x y h _ => c223_inj x y h) (⟨x_Id, x_Kind, x_Colour, x_Size, x_Worth⟩ : TThing) (by simp [nz, nz1, ML_nil, encTThing]) rfl
theorem c223_pc (x : TThing) : PCo Try.prog 223 [encTThing x] (Tab.of []) (encTThing (mWithin x)) (Tab.of []) := by
  obtain ⟨x_Id, x_Kind, x_Colour, x_Size, x_Worth⟩ := x
  refine pco_of_run [1] (E := ⟨[c232], []⟩) (m := false) (base := 0) (Env.ok_cons c232_ok Env.ok_nil) G_ok mix 300 6 Try.func223 (by kernel_rfl) rfl (by kernel_rfl) (by kernel_rfl) rfl ?_
  simp [Try.f223]
  simp [mWithin]
theorem c223_ok : c223.ok Try.prog := mkCon_ok fun x hpre => c223_pc x
/-- loop.example/g03007/impl.IsThing -/
noncomputable def c180 : Con := mkCon 180 false (α := TThing) (fun x => (fun (x : TThing) => [encTThing x]) x) (fun _ => []) (fun x => (fun (x : TThing) => True) x) (fun x => (fun (x : TThing) => (dB (mIsThing x) : D)) x) (fun x => (fun (x : TThing) => []) x)
@[simp] theorem c180_f : c180.f = 180 := rfl
@[simp] theorem c180_own : c180.own = false := rfl
theorem c180_inj : ∀ u_ v_ : TThing, ((fun x => (fun (x : TThing) => [encTThing x]) x) u_).map nz = ((fun x => (fun (x : TThing) => [encTThing x]) x) v_).map nz → u_ = v_ := by
  intro u_ v_ h
  obtain ⟨x_Id, x_Kind, x_Colour, x_Size, x_Worth⟩ := u_
  obtain ⟨x_Id', x_Kind', x_Colour', x_Size', x_Worth'⟩ := v_
  simp [nz_lit, nz1_lit, nz_agg, nz_sl, nz1_sl, encTThing] at h
  first | (simp [h]; done) | (obtain ⟨⟩ := h; simp_all; done) | simp_all
@[simp] theorem c180_fn (x_Id : Int) (x_Kind : Int) (x_Colour : Int) (x_Size : Int) (x_Worth : Int) : c180.fn [.agg [.lit (.int .i64 x_Id), .lit (.int .i64 x_Kind), .lit (.int .i64 x_Colour), .lit (.int .i64 x_Size), .lit (.int .i64 x_Worth)]] [] = some ((fun (x : TThing) => True) ⟨x_Id, x_Kind, x_Colour, x_Size, x_Worth⟩, (fun (x : TThing) => (dB (mIsThing x) : D)) ⟨x_Id, x_Kind, x_Colour, x_Size, x_Worth⟩, (fun (x : TThing) => []) ⟨x_Id, x_Kind, x_Colour, x_Size, x_Worth⟩) :=
  mkCon_fn (fun x y h _ => c180_inj x y h) (⟨x_Id, x_Kind, x_Colour, x_Size, x_Worth⟩ : TThing) (by simp [nz, nz1, ML_nil, encTThing]) rfl
theorem c180_pc (x : TThing) : PCo Try.prog 180 [encTThing x] (Tab.of []) (dB (mIsThing x)) (Tab.of []) := by
  obtain ⟨x_Id, x_Kind, x_Colour, x_Size, x_Worth⟩ := x
  refine pco_of_run [1] (E := ⟨[c223], []⟩) (m := false) (base := 0) (Env.ok_cons c223_ok Env.ok_nil) G_ok mix 300 6 Try.func180 (by kernel_rfl) rfl (by kernel_rfl) (by kernel_rfl) rfl ?_
  simp [Try.f180]
  rw [Bool.eq_iff_iff]
  simp [mIsThing, mWithin, mIn]
  omega
theorem c180_ok : c180.ok Try.prog := mkCon_ok fun x hpre => c180_pc x
/-- loop.example/g03007/laws.eqThing -/
noncomputable def c185 : Con := mkCon 185 false (α := TThing × TThing) (fun x => (fun (a : TThing) (b : TThing) => [encTThing a, encTThing b]) x.1 x.2) (fun _ => []) (fun x => (fun (a : TThing) (b : TThing) => True) x.1 x.2) (fun x => (fun (a : TThing) (b : TThing) => (dB (decide (a = b)) : D)) x.1 x.2) (fun x => (fun (a : TThing) (b : TThing) => []) x.1 x.2)
@[simp] theorem c185_f : c185.f = 185 := rfl
@[simp] theorem c185_own : c185.own = false := rfl
theorem c185_inj : ∀ u_ v_ : TThing × TThing, ((fun x => (fun (a : TThing) (b : TThing) => [encTThing a, encTThing b]) x.1 x.2) u_).map nz = ((fun x => (fun (a : TThing) (b : TThing) => [encTThing a, encTThing b]) x.1 x.2) v_).map nz → u_ = v_ := by
  intro u_ v_ h
  obtain ⟨⟨a_Id, a_Kind, a_Colour, a_Size, a_Worth⟩, ⟨b_Id, b_Kind, b_Colour, b_Size, b_Worth⟩⟩ := u_
  obtain ⟨⟨a_Id', a_Kind', a_Colour', a_Size', a_Worth'⟩, ⟨b_Id', b_Kind', b_Colour', b_Size', b_Worth'⟩⟩ := v_
  simp [nz_lit, nz1_lit, nz_agg, nz_sl, nz1_sl, encTThing] at h
  first | (simp [h]; done) | (obtain ⟨⟩ := h; simp_all; done) | simp_all
@[simp] theorem c185_fn (a_Id : Int) (a_Kind : Int) (a_Colour : Int) (a_Size : Int) (a_Worth : Int) (b_Id : Int) (b_Kind : Int) (b_Colour : Int) (b_Size : Int) (b_Worth : Int) : c185.fn [.agg [.lit (.int .i64 a_Id), .lit (.int .i64 a_Kind), .lit (.int .i64 a_Colour), .lit (.int .i64 a_Size), .lit (.int .i64 a_Worth)], .agg [.lit (.int .i64 b_Id), .lit (.int .i64 b_Kind), .lit (.int .i64 b_Colour), .lit (.int .i64 b_Size), .lit (.int .i64 b_Worth)]] [] = some ((fun (a : TThing) (b : TThing) => True) ⟨a_Id, a_Kind, a_Colour, a_Size, a_Worth⟩ ⟨b_Id, b_Kind, b_Colour, b_Size, b_Worth⟩, (fun (a : TThing) (b : TThing) => (dB (decide (a = b)) : D)) ⟨a_Id, a_Kind, a_Colour, a_Size, a_Worth⟩ ⟨b_Id, b_Kind, b_Colour, b_Size, b_Worth⟩, (fun (a : TThing) (b : TThing) => []) ⟨a_Id, a_Kind, a_Colour, a_Size, a_Worth⟩ ⟨b_Id, b_Kind, b_Colour, b_Size, b_Worth⟩) :=
  mkCon_fn (fun x y h _ => c185_inj x y h) ((⟨a_Id, a_Kind, a_Colour, a_Size, a_Worth⟩, ⟨b_Id, b_Kind, b_Colour, b_Size, b_Worth⟩) : TThing × TThing) (by simp [nz, nz1, ML_nil, encTThing]) rfl
theorem c185_pc (a : TThing) (b : TThing) : PCo Try.prog 185 [encTThing a, encTThing b] (Tab.of []) (dB (decide (a = b))) (Tab.of []) := by
  obtain ⟨a_Id, a_Kind, a_Colour, a_Size, a_Worth⟩ := a
  obtain ⟨b_Id, b_Kind, b_Colour, b_Size, b_Worth⟩ := b
  refine pco_of_run [] (E := ⟨[], []⟩) (m := false) (base := 0) Env.ok_nil G_ok mix 300 6 Try.func185 (by kernel_rfl) rfl (by kernel_rfl) (by kernel_rfl) rfl ?_
  simp [Try.f185]
  all_goals first | omega | (rw [Bool.eq_iff_iff]; simp; omega) | grind
theorem c185_ok : c185.ok Try.prog := mkCon_ok fun ⟨a, b⟩ hpre => c185_pc a b
def mAsc : Int → List TThing → Bool
  | _, [] => true
  | p, x :: r => mIsThing x && decide (p < x.Id) && mAsc x.Id r
def mAreThings (l : List TThing) : Bool := decide (l.length ≤ 20) && mAsc 0 l
def prevId (l : List TThing) (p : Nat) : Int := if p = 0 then 0 else (l[p - 1]?.getD default).Id
end Go.Proofs.Ytlpobdjfdbfhaaa
