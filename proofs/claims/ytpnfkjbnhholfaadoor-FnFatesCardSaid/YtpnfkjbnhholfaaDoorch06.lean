/- Contracts of the functions that the laws run. -/
import Derived.Test.YtpnfkjbnhholfaaDoorch04
import Derived.Test.YtpnfkjbnhholfaaDoorEngB
namespace Go.Proofs.YtpnfkjbnhholfaaDoor
open Go Go.Eng
set_option linter.unusedSimpArgs false
set_option linter.unusedVariables false
set_option maxRecDepth 10000
set_option maxHeartbeats 1000000
def mIsFind (f : TFind) : Bool := mIsThing f.Thing && mIn f.Place 1 30 && mIn f.At 0 100000 && mIn f.Finder 0 999
/-- loop.example/g03007/impl.findChecks$1 -/
noncomputable def c45 : Con := mkCon 45 false (α := TFind) (fun x => (fun (f : TFind) => [encTFind f]) x) (fun _ => []) (fun x => (fun (f : TFind) => True) x) (fun x => (fun (f : TFind) => (dB (mIsThing f.Thing) : D)) x) (fun x => (fun (f : TFind) => []) x)
@[simp] theorem c45_f : c45.f = 45 := rfl
@[simp] theorem c45_own : c45.own = false := rfl
theorem c45_inj : ∀ u_ v_ : TFind, ((fun x => (fun (f : TFind) => [encTFind f]) x) u_).map nz = ((fun x => (fun (f : TFind) => [encTFind f]) x) v_).map nz → u_ = v_ := by
  intro u_ v_ h
  obtain ⟨⟨f_Thing_Id, f_Thing_Kind, f_Thing_Colour, f_Thing_Size, f_Thing_Worth⟩, f_Place, f_At, f_Finder⟩ := u_
  obtain ⟨⟨f_Thing_Id', f_Thing_Kind', f_Thing_Colour', f_Thing_Size', f_Thing_Worth'⟩, f_Place', f_At', f_Finder'⟩ := v_
  simp [nz_lit, nz1_lit, nz_agg, nz_sl, nz1_sl, encTFind, encTThing] at h
  first | (simp [h]; done) | (obtain ⟨⟩ := h; simp_all; done) | simp_all
@[simp] theorem c45_fn (f_Thing_Id : Int) (f_Thing_Kind : Int) (f_Thing_Colour : Int) (f_Thing_Size : Int) (f_Thing_Worth : Int) (f_Place : Int) (f_At : Int) (f_Finder : Int) : c45.fn [.agg [.lit (.int .i64 f_Thing_Id), .lit (.int .i64 f_Thing_Kind), .lit (.int .i64 f_Thing_Colour), .lit (.int .i64 f_Thing_Size), .lit (.int .i64 f_Thing_Worth), .lit (.int .i64 f_Place), .lit (.int .i64 f_At), .lit (.int .i64 f_Finder)]] [] = some ((fun (f : TFind) => True) ⟨⟨f_Thing_Id, f_Thing_Kind, f_Thing_Colour, f_Thing_Size, f_Thing_Worth⟩, f_Place, f_At, f_Finder⟩, (fun (f : TFind) => (dB (mIsThing f.Thing) : D)) ⟨⟨f_Thing_Id, f_Thing_Kind, f_Thing_Colour, f_Thing_Size, f_Thing_Worth⟩, f_Place, f_At, f_Finder⟩, (fun (f : TFind) => []) ⟨⟨f_Thing_Id, f_Thing_Kind, f_Thing_Colour, f_Thing_Size, f_Thing_Worth⟩, f_Place, f_At, f_Finder⟩) :=
  mkCon_fn (fun x y h _ => c45_inj x y h) (⟨⟨f_Thing_Id, f_Thing_Kind, f_Thing_Colour, f_Thing_Size, f_Thing_Worth⟩, f_Place, f_At, f_Finder⟩ : TFind) (by simp [nz, nz1, ML_nil, encTFind, encTThing]) rfl
theorem c45_pc (f : TFind) : PCo Tryd.prog 45 [encTFind f] (Tab.of []) (dB (mIsThing f.Thing)) (Tab.of []) := by
  obtain ⟨⟨f_Thing_Id, f_Thing_Kind, f_Thing_Colour, f_Thing_Size, f_Thing_Worth⟩, f_Place, f_At, f_Finder⟩ := f
  refine pco_of_run [] (E := ⟨[c46], [], []⟩) (m := false) (base := 0) (Env.ok_cons c46_ok Env.ok_nil) G_ok mix 300 6 Tryd.func45 (by kernel_rfl) rfl (by kernel_rfl) (by kernel_rfl) rfl ?_
  simp [Tryd.f45]
  all_goals first | omega | (rw [Bool.eq_iff_iff]; simp; omega) | grind
theorem c45_ok : c45.ok Tryd.prog := mkCon_ok fun f hpre => c45_pc f
/-- loop.example/g03007/impl.findChecks$2 -/
noncomputable def c47 : Con := mkCon 47 false (α := TFind) (fun x => (fun (f : TFind) => [encTFind f]) x) (fun _ => []) (fun x => (fun (f : TFind) => True) x) (fun x => (fun (f : TFind) => (dB (mIn f.Place 1 30) : D)) x) (fun x => (fun (f : TFind) => []) x)
@[simp] theorem c47_f : c47.f = 47 := rfl
@[simp] theorem c47_own : c47.own = false := rfl
theorem c47_inj : ∀ u_ v_ : TFind, ((fun x => (fun (f : TFind) => [encTFind f]) x) u_).map nz = ((fun x => (fun (f : TFind) => [encTFind f]) x) v_).map nz → u_ = v_ := by
  intro u_ v_ h
  obtain ⟨⟨f_Thing_Id, f_Thing_Kind, f_Thing_Colour, f_Thing_Size, f_Thing_Worth⟩, f_Place, f_At, f_Finder⟩ := u_
  obtain ⟨⟨f_Thing_Id', f_Thing_Kind', f_Thing_Colour', f_Thing_Size', f_Thing_Worth'⟩, f_Place', f_At', f_Finder'⟩ := v_
  simp [nz_lit, nz1_lit, nz_agg, nz_sl, nz1_sl, encTFind, encTThing] at h
  first | (simp [h]; done) | (obtain ⟨⟩ := h; simp_all; done) | simp_all
@[simp] theorem c47_fn (f_Thing_Id : Int) (f_Thing_Kind : Int) (f_Thing_Colour : Int) (f_Thing_Size : Int) (f_Thing_Worth : Int) (f_Place : Int) (f_At : Int) (f_Finder : Int) : c47.fn [.agg [.lit (.int .i64 f_Thing_Id), .lit (.int .i64 f_Thing_Kind), .lit (.int .i64 f_Thing_Colour), .lit (.int .i64 f_Thing_Size), .lit (.int .i64 f_Thing_Worth), .lit (.int .i64 f_Place), .lit (.int .i64 f_At), .lit (.int .i64 f_Finder)]] [] = some ((fun (f : TFind) => True) ⟨⟨f_Thing_Id, f_Thing_Kind, f_Thing_Colour, f_Thing_Size, f_Thing_Worth⟩, f_Place, f_At, f_Finder⟩, (fun (f : TFind) => (dB (mIn f.Place 1 30) : D)) ⟨⟨f_Thing_Id, f_Thing_Kind, f_Thing_Colour, f_Thing_Size, f_Thing_Worth⟩, f_Place, f_At, f_Finder⟩, (fun (f : TFind) => []) ⟨⟨f_Thing_Id, f_Thing_Kind, f_Thing_Colour, f_Thing_Size, f_Thing_Worth⟩, f_Place, f_At, f_Finder⟩) :=
  mkCon_fn (fun x y h _ => c47_inj x y h) (⟨⟨f_Thing_Id, f_Thing_Kind, f_Thing_Colour, f_Thing_Size, f_Thing_Worth⟩, f_Place, f_At, f_Finder⟩ : TFind) (by simp [nz, nz1, ML_nil, encTFind, encTThing]) rfl
theorem c47_pc (f : TFind) : PCo Tryd.prog 47 [encTFind f] (Tab.of []) (dB (mIn f.Place 1 30)) (Tab.of []) := by
  obtain ⟨⟨f_Thing_Id, f_Thing_Kind, f_Thing_Colour, f_Thing_Size, f_Thing_Worth⟩, f_Place, f_At, f_Finder⟩ := f
  refine pco_of_run [] (E := ⟨[c29], [], []⟩) (m := false) (base := 0) (Env.ok_cons c29_ok Env.ok_nil) G_ok mix 300 6 Tryd.func47 (by kernel_rfl) rfl (by kernel_rfl) (by kernel_rfl) rfl ?_
  simp [Tryd.f47]
  all_goals first | omega | (rw [Bool.eq_iff_iff]; simp; omega) | grind
theorem c47_ok : c47.ok Tryd.prog := mkCon_ok fun f hpre => c47_pc f
/-- loop.example/g03007/impl.findChecks$3 -/
noncomputable def c48 : Con := mkCon 48 false (α := TFind) (fun x => (fun (f : TFind) => [encTFind f]) x) (fun _ => []) (fun x => (fun (f : TFind) => True) x) (fun x => (fun (f : TFind) => (dB (mIn f.At 0 100000) : D)) x) (fun x => (fun (f : TFind) => []) x)
@[simp] theorem c48_f : c48.f = 48 := rfl
@[simp] theorem c48_own : c48.own = false := rfl
theorem c48_inj : ∀ u_ v_ : TFind, ((fun x => (fun (f : TFind) => [encTFind f]) x) u_).map nz = ((fun x => (fun (f : TFind) => [encTFind f]) x) v_).map nz → u_ = v_ := by
  intro u_ v_ h
  obtain ⟨⟨f_Thing_Id, f_Thing_Kind, f_Thing_Colour, f_Thing_Size, f_Thing_Worth⟩, f_Place, f_At, f_Finder⟩ := u_
  obtain ⟨⟨f_Thing_Id', f_Thing_Kind', f_Thing_Colour', f_Thing_Size', f_Thing_Worth'⟩, f_Place', f_At', f_Finder'⟩ := v_
  simp [nz_lit, nz1_lit, nz_agg, nz_sl, nz1_sl, encTFind, encTThing] at h
  first | (simp [h]; done) | (obtain ⟨⟩ := h; simp_all; done) | simp_all
@[simp] theorem c48_fn (f_Thing_Id : Int) (f_Thing_Kind : Int) (f_Thing_Colour : Int) (f_Thing_Size : Int) (f_Thing_Worth : Int) (f_Place : Int) (f_At : Int) (f_Finder : Int) : c48.fn [.agg [.lit (.int .i64 f_Thing_Id), .lit (.int .i64 f_Thing_Kind), .lit (.int .i64 f_Thing_Colour), .lit (.int .i64 f_Thing_Size), .lit (.int .i64 f_Thing_Worth), .lit (.int .i64 f_Place), .lit (.int .i64 f_At), .lit (.int .i64 f_Finder)]] [] = some ((fun (f : TFind) => True) ⟨⟨f_Thing_Id, f_Thing_Kind, f_Thing_Colour, f_Thing_Size, f_Thing_Worth⟩, f_Place, f_At, f_Finder⟩, (fun (f : TFind) => (dB (mIn f.At 0 100000) : D)) ⟨⟨f_Thing_Id, f_Thing_Kind, f_Thing_Colour, f_Thing_Size, f_Thing_Worth⟩, f_Place, f_At, f_Finder⟩, (fun (f : TFind) => []) ⟨⟨f_Thing_Id, f_Thing_Kind, f_Thing_Colour, f_Thing_Size, f_Thing_Worth⟩, f_Place, f_At, f_Finder⟩) :=
  mkCon_fn (fun x y h _ => c48_inj x y h) (⟨⟨f_Thing_Id, f_Thing_Kind, f_Thing_Colour, f_Thing_Size, f_Thing_Worth⟩, f_Place, f_At, f_Finder⟩ : TFind) (by simp [nz, nz1, ML_nil, encTFind, encTThing]) rfl
theorem c48_pc (f : TFind) : PCo Tryd.prog 48 [encTFind f] (Tab.of []) (dB (mIn f.At 0 100000)) (Tab.of []) := by
  obtain ⟨⟨f_Thing_Id, f_Thing_Kind, f_Thing_Colour, f_Thing_Size, f_Thing_Worth⟩, f_Place, f_At, f_Finder⟩ := f
  refine pco_of_run [] (E := ⟨[c29], [], []⟩) (m := false) (base := 0) (Env.ok_cons c29_ok Env.ok_nil) G_ok mix 300 6 Tryd.func48 (by kernel_rfl) rfl (by kernel_rfl) (by kernel_rfl) rfl ?_
  simp [Tryd.f48]
  all_goals first | omega | (rw [Bool.eq_iff_iff]; simp; omega) | grind
theorem c48_ok : c48.ok Tryd.prog := mkCon_ok fun f hpre => c48_pc f
/-- loop.example/g03007/impl.findChecks$4 -/
noncomputable def c49 : Con := mkCon 49 false (α := TFind) (fun x => (fun (f : TFind) => [encTFind f]) x) (fun _ => []) (fun x => (fun (f : TFind) => True) x) (fun x => (fun (f : TFind) => (dB (mIn f.Finder 0 999) : D)) x) (fun x => (fun (f : TFind) => []) x)
@[simp] theorem c49_f : c49.f = 49 := rfl
@[simp] theorem c49_own : c49.own = false := rfl
theorem c49_inj : ∀ u_ v_ : TFind, ((fun x => (fun (f : TFind) => [encTFind f]) x) u_).map nz = ((fun x => (fun (f : TFind) => [encTFind f]) x) v_).map nz → u_ = v_ := by
  intro u_ v_ h
  obtain ⟨⟨f_Thing_Id, f_Thing_Kind, f_Thing_Colour, f_Thing_Size, f_Thing_Worth⟩, f_Place, f_At, f_Finder⟩ := u_
  obtain ⟨⟨f_Thing_Id', f_Thing_Kind', f_Thing_Colour', f_Thing_Size', f_Thing_Worth'⟩, f_Place', f_At', f_Finder'⟩ := v_
  simp [nz_lit, nz1_lit, nz_agg, nz_sl, nz1_sl, encTFind, encTThing] at h
  first | (simp [h]; done) | (obtain ⟨⟩ := h; simp_all; done) | simp_all
@[simp] theorem c49_fn (f_Thing_Id : Int) (f_Thing_Kind : Int) (f_Thing_Colour : Int) (f_Thing_Size : Int) (f_Thing_Worth : Int) (f_Place : Int) (f_At : Int) (f_Finder : Int) : c49.fn [.agg [.lit (.int .i64 f_Thing_Id), .lit (.int .i64 f_Thing_Kind), .lit (.int .i64 f_Thing_Colour), .lit (.int .i64 f_Thing_Size), .lit (.int .i64 f_Thing_Worth), .lit (.int .i64 f_Place), .lit (.int .i64 f_At), .lit (.int .i64 f_Finder)]] [] = some ((fun (f : TFind) => True) ⟨⟨f_Thing_Id, f_Thing_Kind, f_Thing_Colour, f_Thing_Size, f_Thing_Worth⟩, f_Place, f_At, f_Finder⟩, (fun (f : TFind) => (dB (mIn f.Finder 0 999) : D)) ⟨⟨f_Thing_Id, f_Thing_Kind, f_Thing_Colour, f_Thing_Size, f_Thing_Worth⟩, f_Place, f_At, f_Finder⟩, (fun (f : TFind) => []) ⟨⟨f_Thing_Id, f_Thing_Kind, f_Thing_Colour, f_Thing_Size, f_Thing_Worth⟩, f_Place, f_At, f_Finder⟩) :=
  mkCon_fn (fun x y h _ => c49_inj x y h) (⟨⟨f_Thing_Id, f_Thing_Kind, f_Thing_Colour, f_Thing_Size, f_Thing_Worth⟩, f_Place, f_At, f_Finder⟩ : TFind) (by simp [nz, nz1, ML_nil, encTFind, encTThing]) rfl
theorem c49_pc (f : TFind) : PCo Tryd.prog 49 [encTFind f] (Tab.of []) (dB (mIn f.Finder 0 999)) (Tab.of []) := by
  obtain ⟨⟨f_Thing_Id, f_Thing_Kind, f_Thing_Colour, f_Thing_Size, f_Thing_Worth⟩, f_Place, f_At, f_Finder⟩ := f
  refine pco_of_run [] (E := ⟨[c29], [], []⟩) (m := false) (base := 0) (Env.ok_cons c29_ok Env.ok_nil) G_ok mix 300 6 Tryd.func49 (by kernel_rfl) rfl (by kernel_rfl) (by kernel_rfl) rfl ?_
  simp [Tryd.f49]
  all_goals first | omega | (rw [Bool.eq_iff_iff]; simp; omega) | grind
theorem c49_ok : c49.ok Tryd.prog := mkCon_ok fun f hpre => c49_pc f
/-- loop.example/g03007/impl.findChecks -/
noncomputable def c28 : Con := mkCon 28 false (α := Unit) (fun _ => []) (fun _ => []) (fun _ => True) (fun _ => (.agg [.fn (.func 45) [] [], .fn (.func 47) [] [], .fn (.func 48) [] [], .fn (.func 49) [] []] : D)) (fun _ => [])
@[simp] theorem c28_f : c28.f = 28 := rfl
@[simp] theorem c28_own : c28.own = false := rfl
theorem c28_inj : ∀ x y : Unit, ((fun _ => []) x).map nz = ((fun _ => []) y).map nz → x = y := fun _ _ _ => rfl
@[simp] theorem c28_fn : c28.fn [] [] = some (True, (.agg [.fn (.func 45) [] [], .fn (.func 47) [] [], .fn (.func 48) [] [], .fn (.func 49) [] []] : D), []) :=
  mkCon_fn (fun x y h _ => c28_inj x y h) (() : Unit) (by simp [nz, nz1, ML_nil]) rfl
theorem c28_pc  : PCo Tryd.prog 28 [] (Tab.of []) (.agg [.fn (.func 45) [] [], .fn (.func 47) [] [], .fn (.func 48) [] [], .fn (.func 49) [] []]) (Tab.of []) := by
  refine pco_of_run [] (E := ⟨[c45, c47, c48, c49], [], []⟩) (m := false) (base := 0) (Env.ok_cons c45_ok (Env.ok_cons c47_ok (Env.ok_cons c48_ok (Env.ok_cons c49_ok Env.ok_nil)))) G_ok mix 300 6 Tryd.func28 (by kernel_rfl) rfl (by kernel_rfl) (by kernel_rfl) rfl ?_
  simp [Tryd.f28]
  all_goals first | omega | (rw [Bool.eq_iff_iff]; simp; omega) | grind
theorem c28_ok : c28.ok Tryd.prog := mkCon_ok fun _ hpre => c28_pc 
/-- loop.example/g03007/impl.IsFind -/
noncomputable def c8 : Con := mkCon 8 false (α := TFind) (fun x => (fun (f : TFind) => [encTFind f]) x) (fun _ => []) (fun x => (fun (f : TFind) => True) x) (fun x => (fun (f : TFind) => (dB (mIsFind f) : D)) x) (fun x => (fun (f : TFind) => []) x)
@[simp] theorem c8_f : c8.f = 8 := rfl
@[simp] theorem c8_own : c8.own = false := rfl
theorem c8_inj : ∀ u_ v_ : TFind, ((fun x => (fun (f : TFind) => [encTFind f]) x) u_).map nz = ((fun x => (fun (f : TFind) => [encTFind f]) x) v_).map nz → u_ = v_ := by
  intro u_ v_ h
  obtain ⟨⟨f_Thing_Id, f_Thing_Kind, f_Thing_Colour, f_Thing_Size, f_Thing_Worth⟩, f_Place, f_At, f_Finder⟩ := u_
  obtain ⟨⟨f_Thing_Id', f_Thing_Kind', f_Thing_Colour', f_Thing_Size', f_Thing_Worth'⟩, f_Place', f_At', f_Finder'⟩ := v_
  simp [nz_lit, nz1_lit, nz_agg, nz_sl, nz1_sl, encTFind, encTThing] at h
  first | (simp [h]; done) | (obtain ⟨⟩ := h; simp_all; done) | simp_all
@[simp] theorem c8_fn (f_Thing_Id : Int) (f_Thing_Kind : Int) (f_Thing_Colour : Int) (f_Thing_Size : Int) (f_Thing_Worth : Int) (f_Place : Int) (f_At : Int) (f_Finder : Int) : c8.fn [.agg [.lit (.int .i64 f_Thing_Id), .lit (.int .i64 f_Thing_Kind), .lit (.int .i64 f_Thing_Colour), .lit (.int .i64 f_Thing_Size), .lit (.int .i64 f_Thing_Worth), .lit (.int .i64 f_Place), .lit (.int .i64 f_At), .lit (.int .i64 f_Finder)]] [] = some ((fun (f : TFind) => True) ⟨⟨f_Thing_Id, f_Thing_Kind, f_Thing_Colour, f_Thing_Size, f_Thing_Worth⟩, f_Place, f_At, f_Finder⟩, (fun (f : TFind) => (dB (mIsFind f) : D)) ⟨⟨f_Thing_Id, f_Thing_Kind, f_Thing_Colour, f_Thing_Size, f_Thing_Worth⟩, f_Place, f_At, f_Finder⟩, (fun (f : TFind) => []) ⟨⟨f_Thing_Id, f_Thing_Kind, f_Thing_Colour, f_Thing_Size, f_Thing_Worth⟩, f_Place, f_At, f_Finder⟩) :=
  mkCon_fn (fun x y h _ => c8_inj x y h) (⟨⟨f_Thing_Id, f_Thing_Kind, f_Thing_Colour, f_Thing_Size, f_Thing_Worth⟩, f_Place, f_At, f_Finder⟩ : TFind) (by simp [nz, nz1, ML_nil, encTFind, encTThing]) rfl
theorem c8_pc (f : TFind) : PCo Tryd.prog 8 [encTFind f] (Tab.of []) (dB (mIsFind f)) (Tab.of []) := by
  obtain ⟨⟨f_Thing_Id, f_Thing_Kind, f_Thing_Colour, f_Thing_Size, f_Thing_Worth⟩, f_Place, f_At, f_Finder⟩ := f
  refine pco_of_run [] (E := ⟨[c28, c45, c47, c48, c49], [], []⟩) (m := false) (base := 0) (Env.ok_cons c28_ok (Env.ok_cons c45_ok (Env.ok_cons c47_ok (Env.ok_cons c48_ok (Env.ok_cons c49_ok Env.ok_nil))))) G_ok mix 300 6 Tryd.func8 (by kernel_rfl) rfl (by kernel_rfl) (by kernel_rfl) rfl ?_
  simp [Tryd.f8]
  refine loop_unroll 400 ?_
  simp [mIsFind]
  grind
theorem c8_ok : c8.ok Tryd.prog := mkCon_ok fun f hpre => c8_pc f
@[simp] def nFind (f : TFind) : Int := f.Thing.Id
def mAreFinds (l : List TFind) : Bool := decide (l.length ≤ 20) && ascBy mIsFind nFind none l
/-- loop.example/g03007/impl.findsInOrder -/
noncomputable def c34 : Con := mkCon 34 false (α := (List TFind)) (fun x => (fun (l : List TFind) => [encLTFind l]) x) (fun _ => []) (fun x => (fun (l : List TFind) => True) x) (fun x => (fun (l : List TFind) => (.agg [.sl false 8 yTFind (ML encTFind l), .fn (.func 50) [] []] : D)) x) (fun x => (fun (l : List TFind) => []) x)
@[simp] theorem c34_f : c34.f = 34 := rfl
@[simp] theorem c34_own : c34.own = false := rfl
theorem c34_inj : ∀ u_ v_ : (List TFind), ((fun x => (fun (l : List TFind) => [encLTFind l]) x) u_).map nz = ((fun x => (fun (l : List TFind) => [encLTFind l]) x) v_).map nz → u_ = v_ := by
  intro u_ v_ h
  obtain l := u_
  obtain l' := v_
  simp [nz_lit, nz1_lit, nz_agg, nz_sl, nz1_sl, encLTFind] at h
  first | (simp [h]; done) | (obtain ⟨⟩ := h; simp_all; done) | simp_all
@[simp] theorem c34_fn (l : List TFind) : c34.fn [.sl false 8 yTFind (ML encTFind l)] [] = some ((fun (l : List TFind) => True) l, (fun (l : List TFind) => (.agg [.sl false 8 yTFind (ML encTFind l), .fn (.func 50) [] []] : D)) l, (fun (l : List TFind) => []) l) :=
  mkCon_fn (fun x y h _ => c34_inj x y h) (l : (List TFind)) (by simp [nz, nz1, ML_nil, encLTFind]) rfl
@[simp] theorem c34_fn1 (s_l : Nat) (z_l : D) : c34.fn [.sl false s_l z_l []] [] = some ((fun (l : List TFind) => True) [], (fun (l : List TFind) => (.agg [.sl false 8 yTFind (ML encTFind l), .fn (.func 50) [] []] : D)) [], (fun (l : List TFind) => []) []) :=
  mkCon_fn (fun x y h _ => c34_inj x y h) ([] : (List TFind)) (by simp [nz, nz1, ML_nil, encLTFind]) rfl
theorem c34_pc (l : List TFind) : PCo Tryd.prog 34 [encLTFind l] (Tab.of []) (.agg [.sl false 8 yTFind (ML encTFind l), .fn (.func 50) [] []]) (Tab.of []) := by
  refine pco_of_run [] (E := ⟨[], [], []⟩) (m := false) (base := 0) Env.ok_nil G_ok mix 300 6 Tryd.func34 (by kernel_rfl) rfl (by kernel_rfl) (by kernel_rfl) rfl ?_
  simp [Tryd.f34]
  all_goals first | omega | (rw [Bool.eq_iff_iff]; simp; omega) | grind
theorem c34_ok : c34.ok Tryd.prog := mkCon_ok fun l hpre => c34_pc l
/-- loop.example/g03007/impl.findsInOrder$1 -/
noncomputable def c50 : Con := mkCon 50 false (α := TFind) (fun x => (fun (x : TFind) => [encTFind x]) x) (fun _ => []) (fun x => (fun (x : TFind) => True) x) (fun x => (fun (x : TFind) => (dI (nFind x) : D)) x) (fun x => (fun (x : TFind) => []) x)
@[simp] theorem c50_f : c50.f = 50 := rfl
@[simp] theorem c50_own : c50.own = false := rfl
theorem c50_inj : ∀ u_ v_ : TFind, ((fun x => (fun (x : TFind) => [encTFind x]) x) u_).map nz = ((fun x => (fun (x : TFind) => [encTFind x]) x) v_).map nz → u_ = v_ := by
  intro u_ v_ h
  obtain ⟨⟨x_Thing_Id, x_Thing_Kind, x_Thing_Colour, x_Thing_Size, x_Thing_Worth⟩, x_Place, x_At, x_Finder⟩ := u_
  obtain ⟨⟨x_Thing_Id', x_Thing_Kind', x_Thing_Colour', x_Thing_Size', x_Thing_Worth'⟩, x_Place', x_At', x_Finder'⟩ := v_
  simp [nz_lit, nz1_lit, nz_agg, nz_sl, nz1_sl, encTFind, encTThing] at h
  first | (simp [h]; done) | (obtain ⟨⟩ := h; simp_all; done) | simp_all
@[simp] theorem c50_fn (x_Thing_Id : Int) (x_Thing_Kind : Int) (x_Thing_Colour : Int) (x_Thing_Size : Int) (x_Thing_Worth : Int) (x_Place : Int) (x_At : Int) (x_Finder : Int) : c50.fn [.agg [.lit (.int .i64 x_Thing_Id), .lit (.int .i64 x_Thing_Kind), .lit (.int .i64 x_Thing_Colour), .lit (.int .i64 x_Thing_Size), .lit (.int .i64 x_Thing_Worth), .lit (.int .i64 x_Place), .lit (.int .i64 x_At), .lit (.int .i64 x_Finder)]] [] = some ((fun (x : TFind) => True) ⟨⟨x_Thing_Id, x_Thing_Kind, x_Thing_Colour, x_Thing_Size, x_Thing_Worth⟩, x_Place, x_At, x_Finder⟩, (fun (x : TFind) => (dI (nFind x) : D)) ⟨⟨x_Thing_Id, x_Thing_Kind, x_Thing_Colour, x_Thing_Size, x_Thing_Worth⟩, x_Place, x_At, x_Finder⟩, (fun (x : TFind) => []) ⟨⟨x_Thing_Id, x_Thing_Kind, x_Thing_Colour, x_Thing_Size, x_Thing_Worth⟩, x_Place, x_At, x_Finder⟩) :=
  mkCon_fn (fun x y h _ => c50_inj x y h) (⟨⟨x_Thing_Id, x_Thing_Kind, x_Thing_Colour, x_Thing_Size, x_Thing_Worth⟩, x_Place, x_At, x_Finder⟩ : TFind) (by simp [nz, nz1, ML_nil, encTFind, encTThing]) rfl
theorem c50_pc (x : TFind) : PCo Tryd.prog 50 [encTFind x] (Tab.of []) (dI (nFind x)) (Tab.of []) := by
  obtain ⟨⟨x_Thing_Id, x_Thing_Kind, x_Thing_Colour, x_Thing_Size, x_Thing_Worth⟩, x_Place, x_At, x_Finder⟩ := x
  refine pco_of_run [] (E := ⟨[], [], []⟩) (m := false) (base := 0) Env.ok_nil G_ok mix 300 6 Tryd.func50 (by kernel_rfl) rfl (by kernel_rfl) (by kernel_rfl) rfl ?_
  simp [Tryd.f50]
  all_goals first | omega | (rw [Bool.eq_iff_iff]; simp; omega) | grind
theorem c50_ok : c50.ok Tryd.prog := mkCon_ok fun x hpre => c50_pc x
/-- (loop.example/g03007/impl.sortedList[loop.example/g03007/impl.Find]).isValid -/
noncomputable def c35 : Con := mkCon 35 false (α := (List TFind) × Int) (fun x => (fun (l : List TFind) (lim : Int) => ([.agg [.sl false 8 yTFind (ML encTFind l), .fn (.func 50) [] []], dI lim, .fn (.func 8) [] []] : List D)) x.1 x.2) (fun x => (fun (l : List TFind) (lim : Int) => ([] : List (Nm × OO))) x.1 x.2) (fun x => (fun (l : List TFind) (lim : Int) => l.length ≤ 1099511627776) x.1 x.2) (fun x => (fun (l : List TFind) (lim : Int) => (dB (decide (l.length ≤ lim) && ascBy mIsFind nFind none l) : D)) x.1 x.2) (fun x => (fun (l : List TFind) (lim : Int) => ([] : List (Nm × OO))) x.1 x.2)
@[simp] theorem c35_f : c35.f = 35 := rfl
@[simp] theorem c35_own : c35.own = false := rfl
theorem c35_inj : ∀ u_ v_ : (List TFind) × Int, ((fun x => (fun (l : List TFind) (lim : Int) => ([.agg [.sl false 8 yTFind (ML encTFind l), .fn (.func 50) [] []], dI lim, .fn (.func 8) [] []] : List D)) x.1 x.2) u_).map nz = ((fun x => (fun (l : List TFind) (lim : Int) => ([.agg [.sl false 8 yTFind (ML encTFind l), .fn (.func 50) [] []], dI lim, .fn (.func 8) [] []] : List D)) x.1 x.2) v_).map nz → (fun x => (fun (l : List TFind) (lim : Int) => ([] : List (Nm × OO))) x.1 x.2) u_ = (fun x => (fun (l : List TFind) (lim : Int) => ([] : List (Nm × OO))) x.1 x.2) v_ → u_ = v_ := by
  intro u_ v_ h h2_
  obtain ⟨l, lim⟩ := u_
  obtain ⟨l', lim'⟩ := v_
  simp [nz_lit, nz1_lit, nz_agg, nz_sl, nz1_sl, nz_sx, nz_el, nz1_el, nz_own, nz1_own, nz_ptr, nz_fn, nz_iface] at h h2_
  first | (simp [h, h2_]; done) | (obtain ⟨h3_, h4_⟩ := List.append_inj h2_ h.1; simp_all; done) | simp_all | grind
@[simp] theorem c35_fn (l : List TFind) (lim : Int) : c35.fn ([.agg [.sl false 8 yTFind (ML encTFind l), .fn (.func 50) [] []], dI lim, .fn (.func 8) [] []]) ([]) = some (l.length ≤ 1099511627776, dB (decide (l.length ≤ lim) && ascBy mIsFind nFind none l), []) :=
  mkCon_fn c35_inj ((l, lim) : (List TFind) × Int) rfl rfl
theorem c35_pc (l : List TFind) (lim : Int) (hpre : l.length ≤ 1099511627776) : PCo Tryd.prog 35 ([.agg [.sl false 8 yTFind (ML encTFind l), .fn (.func 50) [] []], dI lim, .fn (.func 8) [] []]) (Tab.of ([])) (dB (decide (l.length ≤ lim) && ascBy mIsFind nFind none l)) (Tab.of ([])) := by
  refine pco_of_run [6] (E := ⟨[c50, c8], [], []⟩) (m := false) (base := 0) (Env.ok_cons c50_ok (Env.ok_cons c8_ok Env.ok_nil)) G_ok mix 300 6 Tryd.func35 (by kernel_rfl) rfl (by kernel_rfl) (by kernel_rfl) rfl ?_
  simp [Tryd.f35]
  refine ⟨fun h h2 => by omega, fun hlim => ?_⟩
  refine loop_inv (fun p : Nat => p ≤ l.length ∧ ascBy mIsFind nFind none l = ascBy mIsFind nFind (prevO nFind l p) (l.drop p)) (fun p => [(2, .fn (.func 8) [] []), (3, .ptr (0, 1) 0), (6, dB false), (15, .sl false 8 yTFind (ML encTFind l)), (16, dI l.length), (17, dI p)]) (fun _ => [((0, 1), .box (.agg [.sl false 8 yTFind (ML encTFind l), .fn (.func 50) [] []]))]) 2 (fun p => l.length - p) 0 400 (by simp) (by simp) (by simp) ?_
  intro p ⟨hp, hi⟩
  simp
  refine ⟨fun hlt => ?_, fun hge => ?_⟩
  · rw [ascBy_at hlt] at hi; simp only [nFind, wantN] at hi
    repeat' (first | omega | refine And.intro ?_ ?_ | intro _)
    all_goals first | exact Again.mk (p + 1) ⟨by omega, by rw [hi]; grind⟩ (by simp) (by first | omega | (simp; omega)) | (rw [hi]; grind)
  · rw [hi, ascBy_end hge]; simp; omega
theorem c35_ok : c35.ok Tryd.prog := mkCon_ok fun ⟨l, lim⟩ hpre => c35_pc l lim hpre
/-- loop.example/g03007/impl.AreFinds -/
noncomputable def c16 : Con := mkCon 16 false (α := (List TFind)) (fun x => (fun (l : List TFind) => [encLTFind l]) x) (fun _ => []) (fun x => (fun (l : List TFind) => l.length ≤ 1099511627776) x) (fun x => (fun (l : List TFind) => (dB (mAreFinds l) : D)) x) (fun x => (fun (l : List TFind) => []) x)
@[simp] theorem c16_f : c16.f = 16 := rfl
@[simp] theorem c16_own : c16.own = false := rfl
theorem c16_inj : ∀ u_ v_ : (List TFind), ((fun x => (fun (l : List TFind) => [encLTFind l]) x) u_).map nz = ((fun x => (fun (l : List TFind) => [encLTFind l]) x) v_).map nz → u_ = v_ := by
  intro u_ v_ h
  obtain l := u_
  obtain l' := v_
  simp [nz_lit, nz1_lit, nz_agg, nz_sl, nz1_sl, encLTFind] at h
  first | (simp [h]; done) | (obtain ⟨⟩ := h; simp_all; done) | simp_all
@[simp] theorem c16_fn (l : List TFind) : c16.fn [.sl false 8 yTFind (ML encTFind l)] [] = some ((fun (l : List TFind) => l.length ≤ 1099511627776) l, (fun (l : List TFind) => (dB (mAreFinds l) : D)) l, (fun (l : List TFind) => []) l) :=
  mkCon_fn (fun x y h _ => c16_inj x y h) (l : (List TFind)) (by simp [nz, nz1, ML_nil, encLTFind]) rfl
@[simp] theorem c16_fn1 (s_l : Nat) (z_l : D) : c16.fn [.sl false s_l z_l []] [] = some ((fun (l : List TFind) => l.length ≤ 1099511627776) [], (fun (l : List TFind) => (dB (mAreFinds l) : D)) [], (fun (l : List TFind) => []) []) :=
  mkCon_fn (fun x y h _ => c16_inj x y h) ([] : (List TFind)) (by simp [nz, nz1, ML_nil, encLTFind]) rfl
theorem c16_pc (l : List TFind) (hpre : l.length ≤ 1099511627776) : PCo Tryd.prog 16 [encLTFind l] (Tab.of []) (dB (mAreFinds l)) (Tab.of []) := by
  refine pco_of_run [] (E := ⟨[c8, c34, c35, c8], [], []⟩) (m := false) (base := 0) (Env.ok_cons c8_ok (Env.ok_cons c34_ok (Env.ok_cons c35_ok (Env.ok_cons c8_ok Env.ok_nil)))) G_ok mix 300 6 Tryd.func16 (by kernel_rfl) rfl (by kernel_rfl) (by kernel_rfl) rfl ?_
  simp [Tryd.f16]
  have h : ((l.length : Int) ≤ 20) ↔ l.length ≤ 20 := by omega
  simp [mAreFinds, h, hpre]
theorem c16_ok : c16.ok Tryd.prog := mkCon_ok fun l hpre => c16_pc l hpre
def mFindThing (l : List TFind) (n : Int) : Int := indexBy (wantN nFind n) 0 l
end Go.Proofs.YtpnfkjbnhholfaaDoor
