/- Contracts of the functions that the laws run. -/
import Derived.Test.Ytnkggfhgmdbfpaach01
import Derived.Test.YtnkggfhgmdbfpaaEngB
namespace Go.Proofs.Ytnkggfhgmdbfpaa
open Go Go.Eng
set_option linter.unusedSimpArgs false
set_option linter.unusedVariables false
set_option maxRecDepth 10000
set_option maxHeartbeats 1000000
/-- loop.example/g03007/impl.nearest -/
noncomputable def c278 : Con := mkCon 278 false (α := Int × Int × Int) (fun x => (fun (n : Int) (low : Int) (high : Int) => [dI n, dI low, dI high]) x.1 x.2.1 x.2.2) (fun _ => []) (fun x => (fun (n : Int) (low : Int) (high : Int) => True) x.1 x.2.1 x.2.2) (fun x => (fun (n : Int) (low : Int) (high : Int) => (dI (min (max n low) high) : D)) x.1 x.2.1 x.2.2) (fun x => (fun (n : Int) (low : Int) (high : Int) => []) x.1 x.2.1 x.2.2)
@[simp] theorem c278_f : c278.f = 278 := rfl
@[simp] theorem c278_own : c278.own = false := rfl
theorem c278_inj : ∀ u_ v_ : Int × Int × Int, ((fun x => (fun (n : Int) (low : Int) (high : Int) => [dI n, dI low, dI high]) x.1 x.2.1 x.2.2) u_).map nz = ((fun x => (fun (n : Int) (low : Int) (high : Int) => [dI n, dI low, dI high]) x.1 x.2.1 x.2.2) v_).map nz → u_ = v_ := by
  intro u_ v_ h
  obtain ⟨n, low, high⟩ := u_
  obtain ⟨n', low', high'⟩ := v_
  simp [nz_lit, nz1_lit, nz_agg, nz_sl, nz1_sl] at h
  first | (simp [h]; done) | (obtain ⟨⟩ := h; simp_all; done) | simp_all
@[simp] theorem c278_fn (n : Int) (low : Int) (high : Int) : c278.fn [.lit (.int .i64 n), .lit (.int .i64 low), .lit (.int .i64 high)] [] = some ((fun (n : Int) (low : Int) (high : Int) => True) n low high, (fun (n : Int) (low : Int) (high : Int) => (dI (min (max n low) high) : D)) n low high, (fun (n : Int) (low : Int) (high : Int) => []) n low high) :=
  mkCon_fn (fun x y h _ => c278_inj x y h) ((n, low, high) : Int × Int × Int) (by simp [nz, nz1, ML_nil]) rfl
theorem c278_pc (n : Int) (low : Int) (high : Int) : PCo Try.prog 278 [dI n, dI low, dI high] (Tab.of []) (dI (min (max n low) high)) (Tab.of []) := by
  refine pco_of_run [] (E := ⟨[c109, c132], []⟩) (m := false) (base := 0) (Env.ok_cons c109_ok (Env.ok_cons c132_ok Env.ok_nil)) G_ok mix 300 6 Try.func278 (by kernel_rfl) rfl (by kernel_rfl) (by kernel_rfl) rfl ?_
  simp [Try.f278]
  all_goals first | omega | (rw [Bool.eq_iff_iff]; simp; omega) | grind
theorem c278_ok : c278.ok Try.prog := mkCon_ok fun ⟨n, low, high⟩ hpre => c278_pc n low high
/-- loop.example/g03007/laws.toThing -/
noncomputable def c125 : Con := mkCon 125 false (α := TThing) (fun x => (fun (a : TThing) => [encTThing a]) x) (fun _ => []) (fun x => (fun (a : TThing) => True) x) (fun x => (fun (a : TThing) => (encTThing a : D)) x) (fun x => (fun (a : TThing) => []) x)
@[simp] theorem c125_f : c125.f = 125 := rfl
@[simp] theorem c125_own : c125.own = false := rfl
theorem c125_inj : ∀ u_ v_ : TThing, ((fun x => (fun (a : TThing) => [encTThing a]) x) u_).map nz = ((fun x => (fun (a : TThing) => [encTThing a]) x) v_).map nz → u_ = v_ := by
  intro u_ v_ h
  obtain ⟨a_Id, a_Kind, a_Colour, a_Size, a_Worth⟩ := u_
  obtain ⟨a_Id', a_Kind', a_Colour', a_Size', a_Worth'⟩ := v_
  simp [nz_lit, nz1_lit, nz_agg, nz_sl, nz1_sl, encTThing] at h
  first | (simp [h]; done) | (obtain ⟨⟩ := h; simp_all; done) | simp_all
@[simp] theorem c125_fn (a_Id : Int) (a_Kind : Int) (a_Colour : Int) (a_Size : Int) (a_Worth : Int) : c125.fn [.agg [.lit (.int .i64 a_Id), .lit (.int .i64 a_Kind), .lit (.int .i64 a_Colour), .lit (.int .i64 a_Size), .lit (.int .i64 a_Worth)]] [] = some ((fun (a : TThing) => True) ⟨a_Id, a_Kind, a_Colour, a_Size, a_Worth⟩, (fun (a : TThing) => (encTThing a : D)) ⟨a_Id, a_Kind, a_Colour, a_Size, a_Worth⟩, (fun (a : TThing) => []) ⟨a_Id, a_Kind, a_Colour, a_Size, a_Worth⟩) :=
  mkCon_fn (fun x y h _ => c125_inj x y h) (⟨a_Id, a_Kind, a_Colour, a_Size, a_Worth⟩ : TThing) (by simp [nz, nz1, ML_nil, encTThing]) rfl
theorem c125_pc (a : TThing) : PCo Try.prog 125 [encTThing a] (Tab.of []) (encTThing a) (Tab.of []) := by
  obtain ⟨a_Id, a_Kind, a_Colour, a_Size, a_Worth⟩ := a
  refine pco_of_run [] (E := ⟨[], []⟩) (m := false) (base := 0) Env.ok_nil G_ok mix 300 6 Try.func125 (by kernel_rfl) rfl (by kernel_rfl) (by kernel_rfl) rfl ?_
  simp [Try.f125]
  all_goals first | omega | (rw [Bool.eq_iff_iff]; simp; omega) | grind
theorem c125_ok : c125.ok Try.prog := mkCon_ok fun a hpre => c125_pc a
def mIsThing (x : TThing) : Bool := mIn x.Id 1 999 && mIn x.Kind 1 8 && mIn x.Colour 0 7 && mIn x.Size 1 50 && mIn x.Worth 0 10000000
/-- loop.example/g03007/spec.IsThing -/
noncomputable def c197 : Con := mkCon 197 false (α := TThing) (fun x => (fun (x : TThing) => [encTThing x]) x) (fun _ => []) (fun x => (fun (x : TThing) => True) x) (fun x => (fun (x : TThing) => (dB (mIsThing x) : D)) x) (fun x => (fun (x : TThing) => []) x)
@[simp] theorem c197_f : c197.f = 197 := rfl
@[simp] theorem c197_own : c197.own = false := rfl
theorem c197_inj : ∀ u_ v_ : TThing, ((fun x => (fun (x : TThing) => [encTThing x]) x) u_).map nz = ((fun x => (fun (x : TThing) => [encTThing x]) x) v_).map nz → u_ = v_ := by
  intro u_ v_ h
  obtain ⟨x_Id, x_Kind, x_Colour, x_Size, x_Worth⟩ := u_
  obtain ⟨x_Id', x_Kind', x_Colour', x_Size', x_Worth'⟩ := v_
  simp [nz_lit, nz1_lit, nz_agg, nz_sl, nz1_sl, encTThing] at h
  first | (simp [h]; done) | (obtain ⟨⟩ := h; simp_all; done) | simp_all
@[simp] theorem c197_fn (x_Id : Int) (x_Kind : Int) (x_Colour : Int) (x_Size : Int) (x_Worth : Int) : c197.fn [.agg [.lit (.int .i64 x_Id), .lit (.int .i64 x_Kind), .lit (.int .i64 x_Colour), .lit (.int .i64 x_Size), .lit (.int .i64 x_Worth)]] [] = some ((fun (x : TThing) => True) ⟨x_Id, x_Kind, x_Colour, x_Size, x_Worth⟩, (fun (x : TThing) => (dB (mIsThing x) : D)) ⟨x_Id, x_Kind, x_Colour, x_Size, x_Worth⟩, (fun (x : TThing) => []) ⟨x_Id, x_Kind, x_Colour, x_Size, x_Worth⟩) :=
  mkCon_fn (fun x y h _ => c197_inj x y h) (⟨x_Id, x_Kind, x_Colour, x_Size, x_Worth⟩ : TThing) (by simp [nz, nz1, ML_nil, encTThing]) rfl
theorem c197_pc (x : TThing) : PCo Try.prog 197 [encTThing x] (Tab.of []) (dB (mIsThing x)) (Tab.of []) := by
  obtain ⟨x_Id, x_Kind, x_Colour, x_Size, x_Worth⟩ := x
  refine pco_of_run [] (E := ⟨[c105], []⟩) (m := false) (base := 0) (Env.ok_cons c105_ok Env.ok_nil) G_ok mix 300 6 Try.func197 (by kernel_rfl) rfl (by kernel_rfl) (by kernel_rfl) rfl ?_
  simp [Try.f197]
  simp [mIsThing]
theorem c197_ok : c197.ok Try.prog := mkCon_ok fun x hpre => c197_pc x
def mWithin (x : TThing) : TThing := ⟨min (max x.Id 1) 999, min (max x.Kind 1) 8, min (max x.Colour 0) 7, min (max x.Size 1) 50, min (max x.Worth 0) 10000000⟩
/-- (loop.example/g03007/impl.Thing).withinLimits -/
noncomputable def c255 : Con := mkCon 255 false (α := TThing) (fun x => (fun (x : TThing) => [encTThing x]) x) (fun _ => []) (fun x => (fun (x : TThing) => True) x) (fun x => (fun (x : TThing) => (encTThing (mWithin x) : D)) x) (fun x => (fun (x : TThing) => []) x)
@[simp] theorem c255_f : c255.f = 255 := rfl
@[simp] theorem c255_own : c255.own = false := rfl
theorem c255_inj : ∀ u_ v_ : TThing, ((fun x => (fun (x : TThing) => [encTThing x]) x) u_).map nz = ((fun x => (fun (x : TThing) => [encTThing x]) x) v_).map nz → u_ = v_ := by
  intro u_ v_ h
  obtain ⟨x_Id, x_Kind, x_Colour, x_Size, x_Worth⟩ := u_
  obtain ⟨x_Id', x_Kind', x_Colour', x_Size', x_Worth'⟩ := v_
  simp [nz_lit, nz1_lit, nz_agg, nz_sl, nz1_sl, encTThing] at h
  first | (simp [h]; done) | (obtain ⟨⟩ := h; simp_all; done) | simp_all
@[simp] theorem c255_fn (x_Id : Int) (x_Kind : Int) (x_Colour : Int) (x_Size : Int) (x_Worth : Int) : c255.fn [.agg [.lit (.int .i64 x_Id), .lit (.int .i64 x_Kind), .lit (.int .i64 x_Colour), .lit (.int .i64 x_Size), .lit (.int .i64 x_Worth)]] [] = some ((fun (x : TThing) => True) ⟨x_Id, x_Kind, x_Colour, x_Size, x_Worth⟩, (fun (x : TThing) => (encTThing (mWithin x) : D)) ⟨x_Id, x_Kind, x_Colour, x_Size, x_Worth⟩, (fun (x : TThing) => []) ⟨x_Id, x_Kind, x_Colour, x_Size, x_Worth⟩) :=
  mkCon_fn (fun x y h _ => c255_inj x y h) (⟨x_Id, x_Kind, x_Colour, x_Size, x_Worth⟩ : TThing) (by simp [nz, nz1, ML_nil, encTThing]) rfl
theorem c255_pc (x : TThing) : PCo Try.prog 255 [encTThing x] (Tab.of []) (encTThing (mWithin x)) (Tab.of []) := by
  obtain ⟨x_Id, x_Kind, x_Colour, x_Size, x_Worth⟩ := x
  refine pco_of_run [1] (E := ⟨[c278], []⟩) (m := false) (base := 0) (Env.ok_cons c278_ok Env.ok_nil) G_ok mix 300 6 Try.func255 (by kernel_rfl) rfl (by kernel_rfl) (by kernel_rfl) rfl ?_
  simp [Try.f255]
  simp [mWithin]
theorem c255_ok : c255.ok Try.prog := mkCon_ok fun x hpre => c255_pc x
/-- loop.example/g03007/impl.IsThing -/
noncomputable def c216 : Con := mkCon 216 false (α := TThing) (fun x => (fun (x : TThing) => [encTThing x]) x) (fun _ => []) (fun x => (fun (x : TThing) => True) x) (fun x => (fun (x : TThing) => (dB (mIsThing x) : D)) x) (fun x => (fun (x : TThing) => []) x)
@[simp] theorem c216_f : c216.f = 216 := rfl
@[simp] theorem c216_own : c216.own = false := rfl
theorem c216_inj : ∀ u_ v_ : TThing, ((fun x => (fun (x : TThing) => [encTThing x]) x) u_).map nz = ((fun x => (fun (x : TThing) => [encTThing x]) x) v_).map nz → u_ = v_ := by
  intro u_ v_ h
  obtain ⟨x_Id, x_Kind, x_Colour, x_Size, x_Worth⟩ := u_
  obtain ⟨x_Id', x_Kind', x_Colour', x_Size', x_Worth'⟩ := v_
  simp [nz_lit, nz1_lit, nz_agg, nz_sl, nz1_sl, encTThing] at h
  first | (simp [h]; done) | (obtain ⟨⟩ := h; simp_all; done) | simp_all
@[simp] theorem c216_fn (x_Id : Int) (x_Kind : Int) (x_Colour : Int) (x_Size : Int) (x_Worth : Int) : c216.fn [.agg [.lit (.int .i64 x_Id), .lit (.int .i64 x_Kind), .lit (.int .i64 x_Colour), .lit (.int .i64 x_Size), .lit (.int .i64 x_Worth)]] [] = some ((fun (x : TThing) => True) ⟨x_Id, x_Kind, x_Colour, x_Size, x_Worth⟩, (fun (x : TThing) => (dB (mIsThing x) : D)) ⟨x_Id, x_Kind, x_Colour, x_Size, x_Worth⟩, (fun (x : TThing) => []) ⟨x_Id, x_Kind, x_Colour, x_Size, x_Worth⟩) :=
  mkCon_fn (fun x y h _ => c216_inj x y h) (⟨x_Id, x_Kind, x_Colour, x_Size, x_Worth⟩ : TThing) (by simp [nz, nz1, ML_nil, encTThing]) rfl
theorem c216_pc (x : TThing) : PCo Try.prog 216 [encTThing x] (Tab.of []) (dB (mIsThing x)) (Tab.of []) := by
  obtain ⟨x_Id, x_Kind, x_Colour, x_Size, x_Worth⟩ := x
  refine pco_of_run [1] (E := ⟨[c255], []⟩) (m := false) (base := 0) (Env.ok_cons c255_ok Env.ok_nil) G_ok mix 300 6 Try.func216 (by kernel_rfl) rfl (by kernel_rfl) (by kernel_rfl) rfl ?_
  simp [Try.f216]
  rw [Bool.eq_iff_iff]
  simp [mIsThing, mWithin, mIn]
  omega
theorem c216_ok : c216.ok Try.prog := mkCon_ok fun x hpre => c216_pc x
/-- loop.example/g03007/laws.eqThing -/
noncomputable def c144 : Con := mkCon 144 false (α := TThing × TThing) (fun x => (fun (a : TThing) (b : TThing) => [encTThing a, encTThing b]) x.1 x.2) (fun _ => []) (fun x => (fun (a : TThing) (b : TThing) => True) x.1 x.2) (fun x => (fun (a : TThing) (b : TThing) => (dB (decide (a = b)) : D)) x.1 x.2) (fun x => (fun (a : TThing) (b : TThing) => []) x.1 x.2)
@[simp] theorem c144_f : c144.f = 144 := rfl
@[simp] theorem c144_own : c144.own = false := rfl
theorem c144_inj : ∀ u_ v_ : TThing × TThing, ((fun x => (fun (a : TThing) (b : TThing) => [encTThing a, encTThing b]) x.1 x.2) u_).map nz = ((fun x => (fun (a : TThing) (b : TThing) => [encTThing a, encTThing b]) x.1 x.2) v_).map nz → u_ = v_ := by
  intro u_ v_ h
  obtain ⟨⟨a_Id, a_Kind, a_Colour, a_Size, a_Worth⟩, ⟨b_Id, b_Kind, b_Colour, b_Size, b_Worth⟩⟩ := u_
  obtain ⟨⟨a_Id', a_Kind', a_Colour', a_Size', a_Worth'⟩, ⟨b_Id', b_Kind', b_Colour', b_Size', b_Worth'⟩⟩ := v_
  simp [nz_lit, nz1_lit, nz_agg, nz_sl, nz1_sl, encTThing] at h
  first | (simp [h]; done) | (obtain ⟨⟩ := h; simp_all; done) | simp_all
@[simp] theorem c144_fn (a_Id : Int) (a_Kind : Int) (a_Colour : Int) (a_Size : Int) (a_Worth : Int) (b_Id : Int) (b_Kind : Int) (b_Colour : Int) (b_Size : Int) (b_Worth : Int) : c144.fn [.agg [.lit (.int .i64 a_Id), .lit (.int .i64 a_Kind), .lit (.int .i64 a_Colour), .lit (.int .i64 a_Size), .lit (.int .i64 a_Worth)], .agg [.lit (.int .i64 b_Id), .lit (.int .i64 b_Kind), .lit (.int .i64 b_Colour), .lit (.int .i64 b_Size), .lit (.int .i64 b_Worth)]] [] = some ((fun (a : TThing) (b : TThing) => True) ⟨a_Id, a_Kind, a_Colour, a_Size, a_Worth⟩ ⟨b_Id, b_Kind, b_Colour, b_Size, b_Worth⟩, (fun (a : TThing) (b : TThing) => (dB (decide (a = b)) : D)) ⟨a_Id, a_Kind, a_Colour, a_Size, a_Worth⟩ ⟨b_Id, b_Kind, b_Colour, b_Size, b_Worth⟩, (fun (a : TThing) (b : TThing) => []) ⟨a_Id, a_Kind, a_Colour, a_Size, a_Worth⟩ ⟨b_Id, b_Kind, b_Colour, b_Size, b_Worth⟩) :=
  mkCon_fn (fun x y h _ => c144_inj x y h) ((⟨a_Id, a_Kind, a_Colour, a_Size, a_Worth⟩, ⟨b_Id, b_Kind, b_Colour, b_Size, b_Worth⟩) : TThing × TThing) (by simp [nz, nz1, ML_nil, encTThing]) rfl
theorem c144_pc (a : TThing) (b : TThing) : PCo Try.prog 144 [encTThing a, encTThing b] (Tab.of []) (dB (decide (a = b))) (Tab.of []) := by
  obtain ⟨a_Id, a_Kind, a_Colour, a_Size, a_Worth⟩ := a
  obtain ⟨b_Id, b_Kind, b_Colour, b_Size, b_Worth⟩ := b
  refine pco_of_run [] (E := ⟨[], []⟩) (m := false) (base := 0) Env.ok_nil G_ok mix 300 6 Try.func144 (by kernel_rfl) rfl (by kernel_rfl) (by kernel_rfl) rfl ?_
  simp [Try.f144]
  all_goals first | omega | (rw [Bool.eq_iff_iff]; simp; omega) | grind
theorem c144_ok : c144.ok Try.prog := mkCon_ok fun ⟨a, b⟩ hpre => c144_pc a b
/-- loop.example/g03007/laws.szThingS -/
noncomputable def c65 : Con := mkCon 65 false (α := (List TThing) × Int) (fun x => (fun (l : List TThing) (left : Int) => [encLTThing l, dI left]) x.1 x.2) (fun _ => []) (fun x => (fun (l : List TThing) (left : Int) => l.length ≤ maxLen ∧ 0 ≤ left ∧ left ≤ 1099511627776) x.1 x.2) (fun x => (fun (l : List TThing) (left : Int) => (dI (if left - l.length < 0 then -1 else left - l.length) : D)) x.1 x.2) (fun x => (fun (l : List TThing) (left : Int) => []) x.1 x.2)
@[simp] theorem c65_f : c65.f = 65 := rfl
@[simp] theorem c65_own : c65.own = false := rfl
theorem c65_inj : ∀ u_ v_ : (List TThing) × Int, ((fun x => (fun (l : List TThing) (left : Int) => [encLTThing l, dI left]) x.1 x.2) u_).map nz = ((fun x => (fun (l : List TThing) (left : Int) => [encLTThing l, dI left]) x.1 x.2) v_).map nz → u_ = v_ := by
  intro u_ v_ h
  obtain ⟨l, left⟩ := u_
  obtain ⟨l', left'⟩ := v_
  simp [nz_lit, nz1_lit, nz_agg, nz_sl, nz1_sl, encLTThing] at h
  first | (simp [h]; done) | (obtain ⟨⟩ := h; simp_all; done) | simp_all
@[simp] theorem c65_fn (l : List TThing) (left : Int) : c65.fn [.sl false 5 yTThing (ML encTThing l), .lit (.int .i64 left)] [] = some ((fun (l : List TThing) (left : Int) => l.length ≤ maxLen ∧ 0 ≤ left ∧ left ≤ 1099511627776) l left, (fun (l : List TThing) (left : Int) => (dI (if left - l.length < 0 then -1 else left - l.length) : D)) l left, (fun (l : List TThing) (left : Int) => []) l left) :=
  mkCon_fn (fun x y h _ => c65_inj x y h) ((l, left) : (List TThing) × Int) (by simp [nz, nz1, ML_nil, encLTThing]) rfl
@[simp] theorem c65_fn1 (s_l : Nat) (z_l : D) (left : Int) : c65.fn [.sl false s_l z_l [], .lit (.int .i64 left)] [] = some ((fun (l : List TThing) (left : Int) => l.length ≤ maxLen ∧ 0 ≤ left ∧ left ≤ 1099511627776) [] left, (fun (l : List TThing) (left : Int) => (dI (if left - l.length < 0 then -1 else left - l.length) : D)) [] left, (fun (l : List TThing) (left : Int) => []) [] left) :=
  mkCon_fn (fun x y h _ => c65_inj x y h) (([], left) : (List TThing) × Int) (by simp [nz, nz1, ML_nil, encLTThing]) rfl
theorem c65_pc (l : List TThing) (left : Int) (hpre : l.length ≤ maxLen ∧ 0 ≤ left ∧ left ≤ 1099511627776) : PCo Try.prog 65 [encLTThing l, dI left] (Tab.of []) (dI (if left - l.length < 0 then -1 else left - l.length)) (Tab.of []) := by
  refine pco_of_run [] (E := ⟨[], []⟩) (m := false) (base := 0) Env.ok_nil G_ok mix 300 6 Try.func65 (by kernel_rfl) rfl (by kernel_rfl) (by kernel_rfl) rfl ?_
  simp [Try.f65]
  simp [maxLen] at hpre
  all_goals omega
theorem c65_ok : c65.ok Try.prog := mkCon_ok fun ⟨l, left⟩ hpre => c65_pc l left hpre
def mAsc : Int → List TThing → Bool
  | _, [] => true
  | p, x :: r => mIsThing x && decide (p < x.Id) && mAsc x.Id r
def mAreThings (l : List TThing) : Bool := decide (l.length ≤ 20) && mAsc 0 l
def prevId (l : List TThing) (p : Nat) : Int := if p = 0 then 0 else (l[p - 1]?.getD default).Id
/-- loop.example/g03007/spec.AreThings -/
noncomputable def c138 : Con := mkCon 138 false (α := (List TThing)) (fun x => (fun (l : List TThing) => [encLTThing l]) x) (fun _ => []) (fun x => (fun (l : List TThing) => l.length ≤ 1099511627776) x) (fun x => (fun (l : List TThing) => (dB (mAreThings l) : D)) x) (fun x => (fun (l : List TThing) => []) x)
@[simp] theorem c138_f : c138.f = 138 := rfl
@[simp] theorem c138_own : c138.own = false := rfl
theorem c138_inj : ∀ u_ v_ : (List TThing), ((fun x => (fun (l : List TThing) => [encLTThing l]) x) u_).map nz = ((fun x => (fun (l : List TThing) => [encLTThing l]) x) v_).map nz → u_ = v_ := by
  intro u_ v_ h
  obtain l := u_
  obtain l' := v_
  simp [nz_lit, nz1_lit, nz_agg, nz_sl, nz1_sl, encLTThing] at h
  first | (simp [h]; done) | (obtain ⟨⟩ := h; simp_all; done) | simp_all
@[simp] theorem c138_fn (l : List TThing) : c138.fn [.sl false 5 yTThing (ML encTThing l)] [] = some ((fun (l : List TThing) => l.length ≤ 1099511627776) l, (fun (l : List TThing) => (dB (mAreThings l) : D)) l, (fun (l : List TThing) => []) l) :=
  mkCon_fn (fun x y h _ => c138_inj x y h) (l : (List TThing)) (by simp [nz, nz1, ML_nil, encLTThing]) rfl
@[simp] theorem c138_fn1 (s_l : Nat) (z_l : D) : c138.fn [.sl false s_l z_l []] [] = some ((fun (l : List TThing) => l.length ≤ 1099511627776) [], (fun (l : List TThing) => (dB (mAreThings l) : D)) [], (fun (l : List TThing) => []) []) :=
  mkCon_fn (fun x y h _ => c138_inj x y h) ([] : (List TThing)) (by simp [nz, nz1, ML_nil, encLTThing]) rfl
theorem c138_pc (l : List TThing) (hpre : l.length ≤ 1099511627776) : PCo Try.prog 138 [encLTThing l] (Tab.of []) (dB (mAreThings l)) (Tab.of []) := by
  refine pco_of_run [] (E := ⟨[c197], []⟩) (m := false) (base := 0) (Env.ok_cons c197_ok Env.ok_nil) G_ok mix 300 6 Try.func138 (by kernel_rfl) rfl (by kernel_rfl) (by kernel_rfl) rfl ?_
  simp [Try.f138]
  refine loop_inv (fun p : Nat => p ≤ l.length ∧ mAsc 0 l = mAsc (prevId l p) (l.drop p)) (fun p => [(0, encLTThing l), (2, dB false), (3, dI p)]) (fun _ => []) 1 (fun p => l.length - p) 0 100 (by simp) (by simp [prevId]) (by simp) ?_
  intro p ⟨hp, hi⟩
  simp
  refine ⟨fun hlt => ?_, fun hge => ?_⟩
  · have hd := drop_at (d := default) hlt
    have hs : mAsc 0 l = (mIsThing (l[p]?.getD default) && decide (prevId l p < (l[p]?.getD default).Id) && mAsc (prevId l (p + 1)) (l.drop (p + 1))) := by
      rw [hi, hd]; simp [mAsc, prevId]
    have h1 : mIsThing (l[p]?.getD default) = true → 1 ≤ (l[p]?.getD default).Id := by simp [mIsThing, mIn]; omega
    refine ⟨by omega, fun h => ?_, fun h2 h3 => ⟨by omega, ?_⟩⟩
    · rcases h with h | ⟨h, h'⟩
      · simp [mAreThings, hs, h]
      · have : ¬ (prevId l p < (l[p]?.getD default).Id) := by simp [prevId]; omega
        simp [mAreThings, hs, this]
    · refine Again.mk (p + 1) ⟨by omega, ?_⟩ (by simp) (by first | omega | (simp; omega))
      rw [hs, h2]
      have : prevId l p < (l[p]?.getD default).Id := by
        by_cases h0 : p = 0
        · have := h1 h2
          simp only [prevId, if_pos h0]; omega
        · simp only [prevId, if_neg h0]; exact h3 (by omega)
      simp [this]
  · have : p = l.length := by omega
    subst this
    simp [mAreThings, hi, mAsc]; omega
theorem c138_ok : c138.ok Try.prog := mkCon_ok fun l hpre => c138_pc l hpre
/-- loop.example/g03007/impl.AreThings -/
noncomputable def c141 : Con := mkCon 141 false (α := (List TThing)) (fun x => (fun (l : List TThing) => [encLTThing l]) x) (fun _ => []) (fun x => (fun (l : List TThing) => l.length ≤ 1099511627776) x) (fun x => (fun (l : List TThing) => (dB (mAreThings l) : D)) x) (fun x => (fun (l : List TThing) => []) x)
@[simp] theorem c141_f : c141.f = 141 := rfl
@[simp] theorem c141_own : c141.own = false := rfl
theorem c141_inj : ∀ u_ v_ : (List TThing), ((fun x => (fun (l : List TThing) => [encLTThing l]) x) u_).map nz = ((fun x => (fun (l : List TThing) => [encLTThing l]) x) v_).map nz → u_ = v_ := by
  intro u_ v_ h
  obtain l := u_
  obtain l' := v_
  simp [nz_lit, nz1_lit, nz_agg, nz_sl, nz1_sl, encLTThing] at h
  first | (simp [h]; done) | (obtain ⟨⟩ := h; simp_all; done) | simp_all
@[simp] theorem c141_fn (l : List TThing) : c141.fn [.sl false 5 yTThing (ML encTThing l)] [] = some ((fun (l : List TThing) => l.length ≤ 1099511627776) l, (fun (l : List TThing) => (dB (mAreThings l) : D)) l, (fun (l : List TThing) => []) l) :=
  mkCon_fn (fun x y h _ => c141_inj x y h) (l : (List TThing)) (by simp [nz, nz1, ML_nil, encLTThing]) rfl
@[simp] theorem c141_fn1 (s_l : Nat) (z_l : D) : c141.fn [.sl false s_l z_l []] [] = some ((fun (l : List TThing) => l.length ≤ 1099511627776) [], (fun (l : List TThing) => (dB (mAreThings l) : D)) [], (fun (l : List TThing) => []) []) :=
  mkCon_fn (fun x y h _ => c141_inj x y h) ([] : (List TThing)) (by simp [nz, nz1, ML_nil, encLTThing]) rfl
theorem c141_pc (l : List TThing) (hpre : l.length ≤ 1099511627776) : PCo Try.prog 141 [encLTThing l] (Tab.of []) (dB (mAreThings l)) (Tab.of []) := by
  refine pco_of_run [] (E := ⟨[c216], []⟩) (m := false) (base := 0) (Env.ok_cons c216_ok Env.ok_nil) G_ok mix 300 6 Try.func141 (by kernel_rfl) rfl (by kernel_rfl) (by kernel_rfl) rfl ?_
  simp [Try.f141]
  refine ⟨fun h => by simp [mAreThings]; omega, fun hle => ?_⟩
  refine loop_inv (fun p : Nat => p ≤ l.length ∧ mAsc 0 l = mAsc (prevId l p) (l.drop p)) (fun p => [(0, encLTThing l), (2, dB false), (3, dI (prevId l p)), (9, encLTThing l), (10, dI l.length), (11, dI p)]) (fun _ => []) 1 (fun p => l.length - p) 0 100 (by simp) (by simp [prevId]) (by simp [prevId]) ?_
  intro p ⟨hp, hi⟩
  simp
  refine ⟨fun hlt => ?_, fun hge => ?_⟩
  · have hd := drop_at (d := default) hlt
    have hs : mAsc 0 l = (mIsThing (l[p]?.getD default) && decide (prevId l p < (l[p]?.getD default).Id) && mAsc (prevId l (p + 1)) (l.drop (p + 1))) := by
      rw [hi, hd]; simp [mAsc, prevId]
    refine ⟨hlt, fun h => ?_, fun h2 h3 => ⟨by omega, Again.mk (p + 1) ⟨by omega, by simp [hs, h2, h3]⟩ (by simp [prevId]) (by first | omega | (simp; omega))⟩⟩
    rcases h with h | h
    · simp [mAreThings, hs, h]
    · have : ¬ (prevId l p < (l[p]?.getD default).Id) := by omega
      simp [mAreThings, hs, this]
  · have : p = l.length := by omega
    subst this
    simp [mAreThings, hi, mAsc]; omega
theorem c141_ok : c141.ok Try.prog := mkCon_ok fun l hpre => c141_pc l hpre

end Go.Proofs.Ytnkggfhgmdbfpaa
