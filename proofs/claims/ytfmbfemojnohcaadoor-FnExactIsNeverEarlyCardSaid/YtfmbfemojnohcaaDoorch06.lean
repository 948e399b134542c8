/- Contracts of the functions that the laws run. -/
import Derived.Test.YtfmbfemojnohcaaDoorch04
import Derived.Test.YtfmbfemojnohcaaDoorEngB
namespace Go.Proofs.YtfmbfemojnohcaaDoor
open Go Go.Eng
set_option linter.unusedSimpArgs false
set_option linter.unusedVariables false
set_option maxRecDepth 10000
set_option maxHeartbeats 1000000
def mIsFind (f : TFind) : Bool := mIsThing f.Thing && mIn f.Place 1 30 && mIn f.At 0 100000 && mIn f.Finder 0 999
/-- loop.example/g03007/laws.toFind -/
noncomputable def c41 : Con := mkCon 41 false (α := TFind) (fun x => (fun (a : TFind) => [encTFind a]) x) (fun _ => []) (fun x => (fun (a : TFind) => True) x) (fun x => (fun (a : TFind) => (encTFind a : D)) x) (fun x => (fun (a : TFind) => []) x)
@[simp] theorem c41_f : c41.f = 41 := rfl
@[simp] theorem c41_own : c41.own = false := rfl
theorem c41_inj : ∀ u_ v_ : TFind, ((fun x => (fun (a : TFind) => [encTFind a]) x) u_).map nz = ((fun x => (fun (a : TFind) => [encTFind a]) x) v_).map nz → u_ = v_ := by
  intro u_ v_ h
  obtain ⟨⟨a_Thing_Id, a_Thing_Kind, a_Thing_Colour, a_Thing_Size, a_Thing_Worth⟩, a_Place, a_At, a_Finder⟩ := u_
  obtain ⟨⟨a_Thing_Id', a_Thing_Kind', a_Thing_Colour', a_Thing_Size', a_Thing_Worth'⟩, a_Place', a_At', a_Finder'⟩ := v_
  simp [nz_lit, nz1_lit, nz_agg, nz_sl, nz1_sl, encTFind, encTThing] at h
  first | (simp [h]; done) | (obtain ⟨⟩ := h; simp_all; done) | simp_all
@[simp] theorem c41_fn (a_Thing_Id : Int) (a_Thing_Kind : Int) (a_Thing_Colour : Int) (a_Thing_Size : Int) (a_Thing_Worth : Int) (a_Place : Int) (a_At : Int) (a_Finder : Int) : c41.fn [.agg [.lit (.int .i64 a_Thing_Id), .lit (.int .i64 a_Thing_Kind), .lit (.int .i64 a_Thing_Colour), .lit (.int .i64 a_Thing_Size), .lit (.int .i64 a_Thing_Worth), .lit (.int .i64 a_Place), .lit (.int .i64 a_At), .lit (.int .i64 a_Finder)]] [] = some ((fun (a : TFind) => True) ⟨⟨a_Thing_Id, a_Thing_Kind, a_Thing_Colour, a_Thing_Size, a_Thing_Worth⟩, a_Place, a_At, a_Finder⟩, (fun (a : TFind) => (encTFind a : D)) ⟨⟨a_Thing_Id, a_Thing_Kind, a_Thing_Colour, a_Thing_Size, a_Thing_Worth⟩, a_Place, a_At, a_Finder⟩, (fun (a : TFind) => []) ⟨⟨a_Thing_Id, a_Thing_Kind, a_Thing_Colour, a_Thing_Size, a_Thing_Worth⟩, a_Place, a_At, a_Finder⟩) :=
  mkCon_fn (fun x y h _ => c41_inj x y h) (⟨⟨a_Thing_Id, a_Thing_Kind, a_Thing_Colour, a_Thing_Size, a_Thing_Worth⟩, a_Place, a_At, a_Finder⟩ : TFind) (by simp [nz, nz1, ML_nil, encTFind, encTThing]) rfl
theorem c41_pc (a : TFind) : PCo Tryd.prog 41 [encTFind a] (Tab.of []) (encTFind a) (Tab.of []) := by
  obtain ⟨⟨a_Thing_Id, a_Thing_Kind, a_Thing_Colour, a_Thing_Size, a_Thing_Worth⟩, a_Place, a_At, a_Finder⟩ := a
  refine pco_of_run [] (E := ⟨[c65], [], []⟩) (m := false) (base := 0) (Env.ok_cons c65_ok Env.ok_nil) G_ok mix 300 6 Tryd.func41 (by kernel_rfl) rfl (by kernel_rfl) (by kernel_rfl) rfl ?_
  simp [Tryd.f41]
  all_goals first | omega | (rw [Bool.eq_iff_iff]; simp; omega) | grind
theorem c41_ok : c41.ok Tryd.prog := mkCon_ok fun a hpre => c41_pc a
/-- loop.example/g03007/laws.eqFind -/
noncomputable def c54 : Con := mkCon 54 false (α := TFind × TFind) (fun x => (fun (a : TFind) (b : TFind) => [encTFind a, encTFind b]) x.1 x.2) (fun _ => []) (fun x => (fun (a : TFind) (b : TFind) => True) x.1 x.2) (fun x => (fun (a : TFind) (b : TFind) => (dB (decide (a = b)) : D)) x.1 x.2) (fun x => (fun (a : TFind) (b : TFind) => []) x.1 x.2)
@[simp] theorem c54_f : c54.f = 54 := rfl
@[simp] theorem c54_own : c54.own = false := rfl
theorem c54_inj : ∀ u_ v_ : TFind × TFind, ((fun x => (fun (a : TFind) (b : TFind) => [encTFind a, encTFind b]) x.1 x.2) u_).map nz = ((fun x => (fun (a : TFind) (b : TFind) => [encTFind a, encTFind b]) x.1 x.2) v_).map nz → u_ = v_ := by
  intro u_ v_ h
  obtain ⟨⟨⟨a_Thing_Id, a_Thing_Kind, a_Thing_Colour, a_Thing_Size, a_Thing_Worth⟩, a_Place, a_At, a_Finder⟩, ⟨⟨b_Thing_Id, b_Thing_Kind, b_Thing_Colour, b_Thing_Size, b_Thing_Worth⟩, b_Place, b_At, b_Finder⟩⟩ := u_
  obtain ⟨⟨⟨a_Thing_Id', a_Thing_Kind', a_Thing_Colour', a_Thing_Size', a_Thing_Worth'⟩, a_Place', a_At', a_Finder'⟩, ⟨⟨b_Thing_Id', b_Thing_Kind', b_Thing_Colour', b_Thing_Size', b_Thing_Worth'⟩, b_Place', b_At', b_Finder'⟩⟩ := v_
  simp [nz_lit, nz1_lit, nz_agg, nz_sl, nz1_sl, encTFind, encTThing] at h
  first | (simp [h]; done) | (obtain ⟨⟩ := h; simp_all; done) | simp_all
@[simp] theorem c54_fn (a_Thing_Id : Int) (a_Thing_Kind : Int) (a_Thing_Colour : Int) (a_Thing_Size : Int) (a_Thing_Worth : Int) (a_Place : Int) (a_At : Int) (a_Finder : Int) (b_Thing_Id : Int) (b_Thing_Kind : Int) (b_Thing_Colour : Int) (b_Thing_Size : Int) (b_Thing_Worth : Int) (b_Place : Int) (b_At : Int) (b_Finder : Int) : c54.fn [.agg [.lit (.int .i64 a_Thing_Id), .lit (.int .i64 a_Thing_Kind), .lit (.int .i64 a_Thing_Colour), .lit (.int .i64 a_Thing_Size), .lit (.int .i64 a_Thing_Worth), .lit (.int .i64 a_Place), .lit (.int .i64 a_At), .lit (.int .i64 a_Finder)], .agg [.lit (.int .i64 b_Thing_Id), .lit (.int .i64 b_Thing_Kind), .lit (.int .i64 b_Thing_Colour), .lit (.int .i64 b_Thing_Size), .lit (.int .i64 b_Thing_Worth), .lit (.int .i64 b_Place), .lit (.int .i64 b_At), .lit (.int .i64 b_Finder)]] [] = some ((fun (a : TFind) (b : TFind) => True) ⟨⟨a_Thing_Id, a_Thing_Kind, a_Thing_Colour, a_Thing_Size, a_Thing_Worth⟩, a_Place, a_At, a_Finder⟩ ⟨⟨b_Thing_Id, b_Thing_Kind, b_Thing_Colour, b_Thing_Size, b_Thing_Worth⟩, b_Place, b_At, b_Finder⟩, (fun (a : TFind) (b : TFind) => (dB (decide (a = b)) : D)) ⟨⟨a_Thing_Id, a_Thing_Kind, a_Thing_Colour, a_Thing_Size, a_Thing_Worth⟩, a_Place, a_At, a_Finder⟩ ⟨⟨b_Thing_Id, b_Thing_Kind, b_Thing_Colour, b_Thing_Size, b_Thing_Worth⟩, b_Place, b_At, b_Finder⟩, (fun (a : TFind) (b : TFind) => []) ⟨⟨a_Thing_Id, a_Thing_Kind, a_Thing_Colour, a_Thing_Size, a_Thing_Worth⟩, a_Place, a_At, a_Finder⟩ ⟨⟨b_Thing_Id, b_Thing_Kind, b_Thing_Colour, b_Thing_Size, b_Thing_Worth⟩, b_Place, b_At, b_Finder⟩) :=
  mkCon_fn (fun x y h _ => c54_inj x y h) ((⟨⟨a_Thing_Id, a_Thing_Kind, a_Thing_Colour, a_Thing_Size, a_Thing_Worth⟩, a_Place, a_At, a_Finder⟩, ⟨⟨b_Thing_Id, b_Thing_Kind, b_Thing_Colour, b_Thing_Size, b_Thing_Worth⟩, b_Place, b_At, b_Finder⟩) : TFind × TFind) (by simp [nz, nz1, ML_nil, encTFind, encTThing]) rfl
theorem c54_pc (a : TFind) (b : TFind) : PCo Tryd.prog 54 [encTFind a, encTFind b] (Tab.of []) (dB (decide (a = b))) (Tab.of []) := by
  obtain ⟨⟨a_Thing_Id, a_Thing_Kind, a_Thing_Colour, a_Thing_Size, a_Thing_Worth⟩, a_Place, a_At, a_Finder⟩ := a
  obtain ⟨⟨b_Thing_Id, b_Thing_Kind, b_Thing_Colour, b_Thing_Size, b_Thing_Worth⟩, b_Place, b_At, b_Finder⟩ := b
  refine pco_of_run [] (E := ⟨[c72], [], []⟩) (m := false) (base := 0) (Env.ok_cons c72_ok Env.ok_nil) G_ok mix 300 6 Tryd.func54 (by kernel_rfl) rfl (by kernel_rfl) (by kernel_rfl) rfl ?_
  simp [Tryd.f54]
  all_goals first | omega | (rw [Bool.eq_iff_iff]; simp; omega) | grind
theorem c54_ok : c54.ok Tryd.prog := mkCon_ok fun ⟨a, b⟩ hpre => c54_pc a b
/-- loop.example/g03007/spec.IsFind -/
noncomputable def c39 : Con := mkCon 39 false (α := TFind) (fun x => (fun (f : TFind) => [encTFind f]) x) (fun _ => []) (fun x => (fun (f : TFind) => True) x) (fun x => (fun (f : TFind) => (dB (mIsFind f) : D)) x) (fun x => (fun (f : TFind) => []) x)
@[simp] theorem c39_f : c39.f = 39 := rfl
@[simp] theorem c39_own : c39.own = false := rfl
theorem c39_inj : ∀ u_ v_ : TFind, ((fun x => (fun (f : TFind) => [encTFind f]) x) u_).map nz = ((fun x => (fun (f : TFind) => [encTFind f]) x) v_).map nz → u_ = v_ := by
  intro u_ v_ h
  obtain ⟨⟨f_Thing_Id, f_Thing_Kind, f_Thing_Colour, f_Thing_Size, f_Thing_Worth⟩, f_Place, f_At, f_Finder⟩ := u_
  obtain ⟨⟨f_Thing_Id', f_Thing_Kind', f_Thing_Colour', f_Thing_Size', f_Thing_Worth'⟩, f_Place', f_At', f_Finder'⟩ := v_
  simp [nz_lit, nz1_lit, nz_agg, nz_sl, nz1_sl, encTFind, encTThing] at h
  first | (simp [h]; done) | (obtain ⟨⟩ := h; simp_all; done) | simp_all
@[simp] theorem c39_fn (f_Thing_Id : Int) (f_Thing_Kind : Int) (f_Thing_Colour : Int) (f_Thing_Size : Int) (f_Thing_Worth : Int) (f_Place : Int) (f_At : Int) (f_Finder : Int) : c39.fn [.agg [.lit (.int .i64 f_Thing_Id), .lit (.int .i64 f_Thing_Kind), .lit (.int .i64 f_Thing_Colour), .lit (.int .i64 f_Thing_Size), .lit (.int .i64 f_Thing_Worth), .lit (.int .i64 f_Place), .lit (.int .i64 f_At), .lit (.int .i64 f_Finder)]] [] = some ((fun (f : TFind) => True) ⟨⟨f_Thing_Id, f_Thing_Kind, f_Thing_Colour, f_Thing_Size, f_Thing_Worth⟩, f_Place, f_At, f_Finder⟩, (fun (f : TFind) => (dB (mIsFind f) : D)) ⟨⟨f_Thing_Id, f_Thing_Kind, f_Thing_Colour, f_Thing_Size, f_Thing_Worth⟩, f_Place, f_At, f_Finder⟩, (fun (f : TFind) => []) ⟨⟨f_Thing_Id, f_Thing_Kind, f_Thing_Colour, f_Thing_Size, f_Thing_Worth⟩, f_Place, f_At, f_Finder⟩) :=
  mkCon_fn (fun x y h _ => c39_inj x y h) (⟨⟨f_Thing_Id, f_Thing_Kind, f_Thing_Colour, f_Thing_Size, f_Thing_Worth⟩, f_Place, f_At, f_Finder⟩ : TFind) (by simp [nz, nz1, ML_nil, encTFind, encTThing]) rfl
theorem c39_pc (f : TFind) : PCo Tryd.prog 39 [encTFind f] (Tab.of []) (dB (mIsFind f)) (Tab.of []) := by
  obtain ⟨⟨f_Thing_Id, f_Thing_Kind, f_Thing_Colour, f_Thing_Size, f_Thing_Worth⟩, f_Place, f_At, f_Finder⟩ := f
  refine pco_of_run [] (E := ⟨[c62, c63], [], []⟩) (m := false) (base := 0) (Env.ok_cons c62_ok (Env.ok_cons c63_ok Env.ok_nil)) G_ok mix 300 6 Tryd.func39 (by kernel_rfl) rfl (by kernel_rfl) (by kernel_rfl) rfl ?_
  simp [Tryd.f39]
  simp [mIsFind]
theorem c39_ok : c39.ok Tryd.prog := mkCon_ok fun f hpre => c39_pc f
/-- loop.example/g03007/impl.findChecks$1 -/
noncomputable def c75 : Con := mkCon 75 false (α := TFind) (fun x => (fun (f : TFind) => [encTFind f]) x) (fun _ => []) (fun x => (fun (f : TFind) => True) x) (fun x => (fun (f : TFind) => (dB (mIsThing f.Thing) : D)) x) (fun x => (fun (f : TFind) => []) x)
@[simp] theorem c75_f : c75.f = 75 := rfl
@[simp] theorem c75_own : c75.own = false := rfl
theorem c75_inj : ∀ u_ v_ : TFind, ((fun x => (fun (f : TFind) => [encTFind f]) x) u_).map nz = ((fun x => (fun (f : TFind) => [encTFind f]) x) v_).map nz → u_ = v_ := by
  intro u_ v_ h
  obtain ⟨⟨f_Thing_Id, f_Thing_Kind, f_Thing_Colour, f_Thing_Size, f_Thing_Worth⟩, f_Place, f_At, f_Finder⟩ := u_
  obtain ⟨⟨f_Thing_Id', f_Thing_Kind', f_Thing_Colour', f_Thing_Size', f_Thing_Worth'⟩, f_Place', f_At', f_Finder'⟩ := v_
  simp [nz_lit, nz1_lit, nz_agg, nz_sl, nz1_sl, encTFind, encTThing] at h
  first | (simp [h]; done) | (obtain ⟨⟩ := h; simp_all; done) | simp_all
@[simp] theorem c75_fn (f_Thing_Id : Int) (f_Thing_Kind : Int) (f_Thing_Colour : Int) (f_Thing_Size : Int) (f_Thing_Worth : Int) (f_Place : Int) (f_At : Int) (f_Finder : Int) : c75.fn [.agg [.lit (.int .i64 f_Thing_Id), .lit (.int .i64 f_Thing_Kind), .lit (.int .i64 f_Thing_Colour), .lit (.int .i64 f_Thing_Size), .lit (.int .i64 f_Thing_Worth), .lit (.int .i64 f_Place), .lit (.int .i64 f_At), .lit (.int .i64 f_Finder)]] [] = some ((fun (f : TFind) => True) ⟨⟨f_Thing_Id, f_Thing_Kind, f_Thing_Colour, f_Thing_Size, f_Thing_Worth⟩, f_Place, f_At, f_Finder⟩, (fun (f : TFind) => (dB (mIsThing f.Thing) : D)) ⟨⟨f_Thing_Id, f_Thing_Kind, f_Thing_Colour, f_Thing_Size, f_Thing_Worth⟩, f_Place, f_At, f_Finder⟩, (fun (f : TFind) => []) ⟨⟨f_Thing_Id, f_Thing_Kind, f_Thing_Colour, f_Thing_Size, f_Thing_Worth⟩, f_Place, f_At, f_Finder⟩) :=
  mkCon_fn (fun x y h _ => c75_inj x y h) (⟨⟨f_Thing_Id, f_Thing_Kind, f_Thing_Colour, f_Thing_Size, f_Thing_Worth⟩, f_Place, f_At, f_Finder⟩ : TFind) (by simp [nz, nz1, ML_nil, encTFind, encTThing]) rfl
theorem c75_pc (f : TFind) : PCo Tryd.prog 75 [encTFind f] (Tab.of []) (dB (mIsThing f.Thing)) (Tab.of []) := by
  obtain ⟨⟨f_Thing_Id, f_Thing_Kind, f_Thing_Colour, f_Thing_Size, f_Thing_Worth⟩, f_Place, f_At, f_Finder⟩ := f
  refine pco_of_run [] (E := ⟨[c76], [], []⟩) (m := false) (base := 0) (Env.ok_cons c76_ok Env.ok_nil) G_ok mix 300 6 Tryd.func75 (by kernel_rfl) rfl (by kernel_rfl) (by kernel_rfl) rfl ?_
  simp [Tryd.f75]
  all_goals first | omega | (rw [Bool.eq_iff_iff]; simp; omega) | grind
theorem c75_ok : c75.ok Tryd.prog := mkCon_ok fun f hpre => c75_pc f
/-- loop.example/g03007/impl.findChecks$2 -/
noncomputable def c77 : Con := mkCon 77 false (α := TFind) (fun x => (fun (f : TFind) => [encTFind f]) x) (fun _ => []) (fun x => (fun (f : TFind) => True) x) (fun x => (fun (f : TFind) => (dB (mIn f.Place 1 30) : D)) x) (fun x => (fun (f : TFind) => []) x)
@[simp] theorem c77_f : c77.f = 77 := rfl
@[simp] theorem c77_own : c77.own = false := rfl
theorem c77_inj : ∀ u_ v_ : TFind, ((fun x => (fun (f : TFind) => [encTFind f]) x) u_).map nz = ((fun x => (fun (f : TFind) => [encTFind f]) x) v_).map nz → u_ = v_ := by
  intro u_ v_ h
  obtain ⟨⟨f_Thing_Id, f_Thing_Kind, f_Thing_Colour, f_Thing_Size, f_Thing_Worth⟩, f_Place, f_At, f_Finder⟩ := u_
  obtain ⟨⟨f_Thing_Id', f_Thing_Kind', f_Thing_Colour', f_Thing_Size', f_Thing_Worth'⟩, f_Place', f_At', f_Finder'⟩ := v_
  simp [nz_lit, nz1_lit, nz_agg, nz_sl, nz1_sl, encTFind, encTThing] at h
  first | (simp [h]; done) | (obtain ⟨⟩ := h; simp_all; done) | simp_all
@[simp] theorem c77_fn (f_Thing_Id : Int) (f_Thing_Kind : Int) (f_Thing_Colour : Int) (f_Thing_Size : Int) (f_Thing_Worth : Int) (f_Place : Int) (f_At : Int) (f_Finder : Int) : c77.fn [.agg [.lit (.int .i64 f_Thing_Id), .lit (.int .i64 f_Thing_Kind), .lit (.int .i64 f_Thing_Colour), .lit (.int .i64 f_Thing_Size), .lit (.int .i64 f_Thing_Worth), .lit (.int .i64 f_Place), .lit (.int .i64 f_At), .lit (.int .i64 f_Finder)]] [] = some ((fun (f : TFind) => True) ⟨⟨f_Thing_Id, f_Thing_Kind, f_Thing_Colour, f_Thing_Size, f_Thing_Worth⟩, f_Place, f_At, f_Finder⟩, (fun (f : TFind) => (dB (mIn f.Place 1 30) : D)) ⟨⟨f_Thing_Id, f_Thing_Kind, f_Thing_Colour, f_Thing_Size, f_Thing_Worth⟩, f_Place, f_At, f_Finder⟩, (fun (f : TFind) => []) ⟨⟨f_Thing_Id, f_Thing_Kind, f_Thing_Colour, f_Thing_Size, f_Thing_Worth⟩, f_Place, f_At, f_Finder⟩) :=
  mkCon_fn (fun x y h _ => c77_inj x y h) (⟨⟨f_Thing_Id, f_Thing_Kind, f_Thing_Colour, f_Thing_Size, f_Thing_Worth⟩, f_Place, f_At, f_Finder⟩ : TFind) (by simp [nz, nz1, ML_nil, encTFind, encTThing]) rfl
theorem c77_pc (f : TFind) : PCo Tryd.prog 77 [encTFind f] (Tab.of []) (dB (mIn f.Place 1 30)) (Tab.of []) := by
  obtain ⟨⟨f_Thing_Id, f_Thing_Kind, f_Thing_Colour, f_Thing_Size, f_Thing_Worth⟩, f_Place, f_At, f_Finder⟩ := f
  refine pco_of_run [] (E := ⟨[c78], [], []⟩) (m := false) (base := 0) (Env.ok_cons c78_ok Env.ok_nil) G_ok mix 300 6 Tryd.func77 (by kernel_rfl) rfl (by kernel_rfl) (by kernel_rfl) rfl ?_
  simp [Tryd.f77]
  all_goals first | omega | (rw [Bool.eq_iff_iff]; simp; omega) | grind
theorem c77_ok : c77.ok Tryd.prog := mkCon_ok fun f hpre => c77_pc f
/-- loop.example/g03007/impl.findChecks$3 -/
noncomputable def c79 : Con := mkCon 79 false (α := TFind) (fun x => (fun (f : TFind) => [encTFind f]) x) (fun _ => []) (fun x => (fun (f : TFind) => True) x) (fun x => (fun (f : TFind) => (dB (mIn f.At 0 100000) : D)) x) (fun x => (fun (f : TFind) => []) x)
@[simp] theorem c79_f : c79.f = 79 := rfl
@[simp] theorem c79_own : c79.own = false := rfl
theorem c79_inj : ∀ u_ v_ : TFind, ((fun x => (fun (f : TFind) => [encTFind f]) x) u_).map nz = ((fun x => (fun (f : TFind) => [encTFind f]) x) v_).map nz → u_ = v_ := by
  intro u_ v_ h
  obtain ⟨⟨f_Thing_Id, f_Thing_Kind, f_Thing_Colour, f_Thing_Size, f_Thing_Worth⟩, f_Place, f_At, f_Finder⟩ := u_
  obtain ⟨⟨f_Thing_Id', f_Thing_Kind', f_Thing_Colour', f_Thing_Size', f_Thing_Worth'⟩, f_Place', f_At', f_Finder'⟩ := v_
  simp [nz_lit, nz1_lit, nz_agg, nz_sl, nz1_sl, encTFind, encTThing] at h
  first | (simp [h]; done) | (obtain ⟨⟩ := h; simp_all; done) | simp_all
@[simp] theorem c79_fn (f_Thing_Id : Int) (f_Thing_Kind : Int) (f_Thing_Colour : Int) (f_Thing_Size : Int) (f_Thing_Worth : Int) (f_Place : Int) (f_At : Int) (f_Finder : Int) : c79.fn [.agg [.lit (.int .i64 f_Thing_Id), .lit (.int .i64 f_Thing_Kind), .lit (.int .i64 f_Thing_Colour), .lit (.int .i64 f_Thing_Size), .lit (.int .i64 f_Thing_Worth), .lit (.int .i64 f_Place), .lit (.int .i64 f_At), .lit (.int .i64 f_Finder)]] [] = some ((fun (f : TFind) => True) ⟨⟨f_Thing_Id, f_Thing_Kind, f_Thing_Colour, f_Thing_Size, f_Thing_Worth⟩, f_Place, f_At, f_Finder⟩, (fun (f : TFind) => (dB (mIn f.At 0 100000) : D)) ⟨⟨f_Thing_Id, f_Thing_Kind, f_Thing_Colour, f_Thing_Size, f_Thing_Worth⟩, f_Place, f_At, f_Finder⟩, (fun (f : TFind) => []) ⟨⟨f_Thing_Id, f_Thing_Kind, f_Thing_Colour, f_Thing_Size, f_Thing_Worth⟩, f_Place, f_At, f_Finder⟩) :=
  mkCon_fn (fun x y h _ => c79_inj x y h) (⟨⟨f_Thing_Id, f_Thing_Kind, f_Thing_Colour, f_Thing_Size, f_Thing_Worth⟩, f_Place, f_At, f_Finder⟩ : TFind) (by simp [nz, nz1, ML_nil, encTFind, encTThing]) rfl
theorem c79_pc (f : TFind) : PCo Tryd.prog 79 [encTFind f] (Tab.of []) (dB (mIn f.At 0 100000)) (Tab.of []) := by
  obtain ⟨⟨f_Thing_Id, f_Thing_Kind, f_Thing_Colour, f_Thing_Size, f_Thing_Worth⟩, f_Place, f_At, f_Finder⟩ := f
  refine pco_of_run [] (E := ⟨[c78], [], []⟩) (m := false) (base := 0) (Env.ok_cons c78_ok Env.ok_nil) G_ok mix 300 6 Tryd.func79 (by kernel_rfl) rfl (by kernel_rfl) (by kernel_rfl) rfl ?_
  simp [Tryd.f79]
  all_goals first | omega | (rw [Bool.eq_iff_iff]; simp; omega) | grind
theorem c79_ok : c79.ok Tryd.prog := mkCon_ok fun f hpre => c79_pc f
/-- loop.example/g03007/impl.findChecks$4 -/
noncomputable def c80 : Con := mkCon 80 false (α := TFind) (fun x => (fun (f : TFind) => [encTFind f]) x) (fun _ => []) (fun x => (fun (f : TFind) => True) x) (fun x => (fun (f : TFind) => (dB (mIn f.Finder 0 999) : D)) x) (fun x => (fun (f : TFind) => []) x)
@[simp] theorem c80_f : c80.f = 80 := rfl
@[simp] theorem c80_own : c80.own = false := rfl
theorem c80_inj : ∀ u_ v_ : TFind, ((fun x => (fun (f : TFind) => [encTFind f]) x) u_).map nz = ((fun x => (fun (f : TFind) => [encTFind f]) x) v_).map nz → u_ = v_ := by
  intro u_ v_ h
  obtain ⟨⟨f_Thing_Id, f_Thing_Kind, f_Thing_Colour, f_Thing_Size, f_Thing_Worth⟩, f_Place, f_At, f_Finder⟩ := u_
  obtain ⟨⟨f_Thing_Id', f_Thing_Kind', f_Thing_Colour', f_Thing_Size', f_Thing_Worth'⟩, f_Place', f_At', f_Finder'⟩ := v_
  simp [nz_lit, nz1_lit, nz_agg, nz_sl, nz1_sl, encTFind, encTThing] at h
  first | (simp [h]; done) | (obtain ⟨⟩ := h; simp_all; done) | simp_all
@[simp] theorem c80_fn (f_Thing_Id : Int) (f_Thing_Kind : Int) (f_Thing_Colour : Int) (f_Thing_Size : Int) (f_Thing_Worth : Int) (f_Place : Int) (f_At : Int) (f_Finder : Int) : c80.fn [.agg [.lit (.int .i64 f_Thing_Id), .lit (.int .i64 f_Thing_Kind), .lit (.int .i64 f_Thing_Colour), .lit (.int .i64 f_Thing_Size), .lit (.int .i64 f_Thing_Worth), .lit (.int .i64 f_Place), .lit (.int .i64 f_At), .lit (.int .i64 f_Finder)]] [] = some ((fun (f : TFind) => True) ⟨⟨f_Thing_Id, f_Thing_Kind, f_Thing_Colour, f_Thing_Size, f_Thing_Worth⟩, f_Place, f_At, f_Finder⟩, (fun (f : TFind) => (dB (mIn f.Finder 0 999) : D)) ⟨⟨f_Thing_Id, f_Thing_Kind, f_Thing_Colour, f_Thing_Size, f_Thing_Worth⟩, f_Place, f_At, f_Finder⟩, (fun (f : TFind) => []) ⟨⟨f_Thing_Id, f_Thing_Kind, f_Thing_Colour, f_Thing_Size, f_Thing_Worth⟩, f_Place, f_At, f_Finder⟩) :=
  mkCon_fn (fun x y h _ => c80_inj x y h) (⟨⟨f_Thing_Id, f_Thing_Kind, f_Thing_Colour, f_Thing_Size, f_Thing_Worth⟩, f_Place, f_At, f_Finder⟩ : TFind) (by simp [nz, nz1, ML_nil, encTFind, encTThing]) rfl
theorem c80_pc (f : TFind) : PCo Tryd.prog 80 [encTFind f] (Tab.of []) (dB (mIn f.Finder 0 999)) (Tab.of []) := by
  obtain ⟨⟨f_Thing_Id, f_Thing_Kind, f_Thing_Colour, f_Thing_Size, f_Thing_Worth⟩, f_Place, f_At, f_Finder⟩ := f
  refine pco_of_run [] (E := ⟨[c78], [], []⟩) (m := false) (base := 0) (Env.ok_cons c78_ok Env.ok_nil) G_ok mix 300 6 Tryd.func80 (by kernel_rfl) rfl (by kernel_rfl) (by kernel_rfl) rfl ?_
  simp [Tryd.f80]
  all_goals first | omega | (rw [Bool.eq_iff_iff]; simp; omega) | grind
theorem c80_ok : c80.ok Tryd.prog := mkCon_ok fun f hpre => c80_pc f
/-- loop.example/g03007/impl.findChecks -/
noncomputable def c68 : Con := mkCon 68 false (α := Unit) (fun _ => []) (fun _ => []) (fun _ => True) (fun _ => (.agg [.fn (.func 75) [] [], .fn (.func 77) [] [], .fn (.func 79) [] [], .fn (.func 80) [] []] : D)) (fun _ => [])
@[simp] theorem c68_f : c68.f = 68 := rfl
@[simp] theorem c68_own : c68.own = false := rfl
theorem c68_inj : ∀ x y : Unit, ((fun _ => []) x).map nz = ((fun _ => []) y).map nz → x = y := fun _ _ _ => rfl
@[simp] theorem c68_fn : c68.fn [] [] = some (True, (.agg [.fn (.func 75) [] [], .fn (.func 77) [] [], .fn (.func 79) [] [], .fn (.func 80) [] []] : D), []) :=
  mkCon_fn (fun x y h _ => c68_inj x y h) (() : Unit) (by simp [nz, nz1, ML_nil]) rfl
theorem c68_pc  : PCo Tryd.prog 68 [] (Tab.of []) (.agg [.fn (.func 75) [] [], .fn (.func 77) [] [], .fn (.func 79) [] [], .fn (.func 80) [] []]) (Tab.of []) := by
  refine pco_of_run [] (E := ⟨[c75, c77, c79, c80], [], []⟩) (m := false) (base := 0) (Env.ok_cons c75_ok (Env.ok_cons c77_ok (Env.ok_cons c79_ok (Env.ok_cons c80_ok Env.ok_nil)))) G_ok mix 300 6 Tryd.func68 (by kernel_rfl) rfl (by kernel_rfl) (by kernel_rfl) rfl ?_
  simp [Tryd.f68]
  all_goals first | omega | (rw [Bool.eq_iff_iff]; simp; omega) | grind
theorem c68_ok : c68.ok Tryd.prog := mkCon_ok fun _ hpre => c68_pc 
/-- loop.example/g03007/impl.IsFind -/
noncomputable def c51 : Con := mkCon 51 false (α := TFind) (fun x => (fun (f : TFind) => [encTFind f]) x) (fun _ => []) (fun x => (fun (f : TFind) => True) x) (fun x => (fun (f : TFind) => (dB (mIsFind f) : D)) x) (fun x => (fun (f : TFind) => []) x)
@[simp] theorem c51_f : c51.f = 51 := rfl
@[simp] theorem c51_own : c51.own = false := rfl
theorem c51_inj : ∀ u_ v_ : TFind, ((fun x => (fun (f : TFind) => [encTFind f]) x) u_).map nz = ((fun x => (fun (f : TFind) => [encTFind f]) x) v_).map nz → u_ = v_ := by
  intro u_ v_ h
  obtain ⟨⟨f_Thing_Id, f_Thing_Kind, f_Thing_Colour, f_Thing_Size, f_Thing_Worth⟩, f_Place, f_At, f_Finder⟩ := u_
  obtain ⟨⟨f_Thing_Id', f_Thing_Kind', f_Thing_Colour', f_Thing_Size', f_Thing_Worth'⟩, f_Place', f_At', f_Finder'⟩ := v_
  simp [nz_lit, nz1_lit, nz_agg, nz_sl, nz1_sl, encTFind, encTThing] at h
  first | (simp [h]; done) | (obtain ⟨⟩ := h; simp_all; done) | simp_all
@[simp] theorem c51_fn (f_Thing_Id : Int) (f_Thing_Kind : Int) (f_Thing_Colour : Int) (f_Thing_Size : Int) (f_Thing_Worth : Int) (f_Place : Int) (f_At : Int) (f_Finder : Int) : c51.fn [.agg [.lit (.int .i64 f_Thing_Id), .lit (.int .i64 f_Thing_Kind), .lit (.int .i64 f_Thing_Colour), .lit (.int .i64 f_Thing_Size), .lit (.int .i64 f_Thing_Worth), .lit (.int .i64 f_Place), .lit (.int .i64 f_At), .lit (.int .i64 f_Finder)]] [] = some ((fun (f : TFind) => True) ⟨⟨f_Thing_Id, f_Thing_Kind, f_Thing_Colour, f_Thing_Size, f_Thing_Worth⟩, f_Place, f_At, f_Finder⟩, (fun (f : TFind) => (dB (mIsFind f) : D)) ⟨⟨f_Thing_Id, f_Thing_Kind, f_Thing_Colour, f_Thing_Size, f_Thing_Worth⟩, f_Place, f_At, f_Finder⟩, (fun (f : TFind) => []) ⟨⟨f_Thing_Id, f_Thing_Kind, f_Thing_Colour, f_Thing_Size, f_Thing_Worth⟩, f_Place, f_At, f_Finder⟩) :=
  mkCon_fn (fun x y h _ => c51_inj x y h) (⟨⟨f_Thing_Id, f_Thing_Kind, f_Thing_Colour, f_Thing_Size, f_Thing_Worth⟩, f_Place, f_At, f_Finder⟩ : TFind) (by simp [nz, nz1, ML_nil, encTFind, encTThing]) rfl
theorem c51_pc (f : TFind) : PCo Tryd.prog 51 [encTFind f] (Tab.of []) (dB (mIsFind f)) (Tab.of []) := by
  obtain ⟨⟨f_Thing_Id, f_Thing_Kind, f_Thing_Colour, f_Thing_Size, f_Thing_Worth⟩, f_Place, f_At, f_Finder⟩ := f
  refine pco_of_run [] (E := ⟨[c68, c75, c77, c79, c80], [], []⟩) (m := false) (base := 0) (Env.ok_cons c68_ok (Env.ok_cons c75_ok (Env.ok_cons c77_ok (Env.ok_cons c79_ok (Env.ok_cons c80_ok Env.ok_nil))))) G_ok mix 300 6 Tryd.func51 (by kernel_rfl) rfl (by kernel_rfl) (by kernel_rfl) rfl ?_
  simp [Tryd.f51]
  refine loop_unroll 400 ?_
  simp [mIsFind]
  grind
theorem c51_ok : c51.ok Tryd.prog := mkCon_ok fun f hpre => c51_pc f
@[simp] def nFind (f : TFind) : Int := f.Thing.Id
def mAreFinds (l : List TFind) : Bool := decide (l.length ≤ 20) && ascBy mIsFind nFind none l
/-- loop.example/g03007/impl.findsInOrder -/
noncomputable def c70 : Con := mkCon 70 false (α := (List TFind)) (fun x => (fun (l : List TFind) => [encLTFind l]) x) (fun _ => []) (fun x => (fun (l : List TFind) => True) x) (fun x => (fun (l : List TFind) => (.agg [.sl false 8 yTFind (ML encTFind l), .fn (.func 81) [] []] : D)) x) (fun x => (fun (l : List TFind) => []) x)
@[simp] theorem c70_f : c70.f = 70 := rfl
@[simp] theorem c70_own : c70.own = false := rfl
theorem c70_inj : ∀ u_ v_ : (List TFind), ((fun x => (fun (l : List TFind) => [encLTFind l]) x) u_).map nz = ((fun x => (fun (l : List TFind) => [encLTFind l]) x) v_).map nz → u_ = v_ := by
  intro u_ v_ h
  obtain l := u_
  obtain l' := v_
  simp [nz_lit, nz1_lit, nz_agg, nz_sl, nz1_sl, encLTFind] at h
  first | (simp [h]; done) | (obtain ⟨⟩ := h; simp_all; done) | simp_all
@[simp] theorem c70_fn (l : List TFind) : c70.fn [.sl false 8 yTFind (ML encTFind l)] [] = some ((fun (l : List TFind) => True) l, (fun (l : List TFind) => (.agg [.sl false 8 yTFind (ML encTFind l), .fn (.func 81) [] []] : D)) l, (fun (l : List TFind) => []) l) :=
  mkCon_fn (fun x y h _ => c70_inj x y h) (l : (List TFind)) (by simp [nz, nz1, ML_nil, encLTFind]) rfl
@[simp] theorem c70_fn1 (s_l : Nat) (z_l : D) : c70.fn [.sl false s_l z_l []] [] = some ((fun (l : List TFind) => True) [], (fun (l : List TFind) => (.agg [.sl false 8 yTFind (ML encTFind l), .fn (.func 81) [] []] : D)) [], (fun (l : List TFind) => []) []) :=
  mkCon_fn (fun x y h _ => c70_inj x y h) ([] : (List TFind)) (by simp [nz, nz1, ML_nil, encLTFind]) rfl
theorem c70_pc (l : List TFind) : PCo Tryd.prog 70 [encLTFind l] (Tab.of []) (.agg [.sl false 8 yTFind (ML encTFind l), .fn (.func 81) [] []]) (Tab.of []) := by
  refine pco_of_run [] (E := ⟨[], [], []⟩) (m := false) (base := 0) Env.ok_nil G_ok mix 300 6 Tryd.func70 (by kernel_rfl) rfl (by kernel_rfl) (by kernel_rfl) rfl ?_
  simp [Tryd.f70]
  all_goals first | omega | (rw [Bool.eq_iff_iff]; simp; omega) | grind
theorem c70_ok : c70.ok Tryd.prog := mkCon_ok fun l hpre => c70_pc l
/-- loop.example/g03007/impl.findsInOrder$1 -/
noncomputable def c81 : Con := mkCon 81 false (α := TFind) (fun x => (fun (x : TFind) => [encTFind x]) x) (fun _ => []) (fun x => (fun (x : TFind) => True) x) (fun x => (fun (x : TFind) => (dI (nFind x) : D)) x) (fun x => (fun (x : TFind) => []) x)
@[simp] theorem c81_f : c81.f = 81 := rfl
@[simp] theorem c81_own : c81.own = false := rfl
theorem c81_inj : ∀ u_ v_ : TFind, ((fun x => (fun (x : TFind) => [encTFind x]) x) u_).map nz = ((fun x => (fun (x : TFind) => [encTFind x]) x) v_).map nz → u_ = v_ := by
  intro u_ v_ h
  obtain ⟨⟨x_Thing_Id, x_Thing_Kind, x_Thing_Colour, x_Thing_Size, x_Thing_Worth⟩, x_Place, x_At, x_Finder⟩ := u_
  obtain ⟨⟨x_Thing_Id', x_Thing_Kind', x_Thing_Colour', x_Thing_Size', x_Thing_Worth'⟩, x_Place', x_At', x_Finder'⟩ := v_
  simp [nz_lit, nz1_lit, nz_agg, nz_sl, nz1_sl, encTFind, encTThing] at h
  first | (simp [h]; done) | (obtain ⟨⟩ := h; simp_all; done) | simp_all
@[simp] theorem c81_fn (x_Thing_Id : Int) (x_Thing_Kind : Int) (x_Thing_Colour : Int) (x_Thing_Size : Int) (x_Thing_Worth : Int) (x_Place : Int) (x_At : Int) (x_Finder : Int) : c81.fn [.agg [.lit (.int .i64 x_Thing_Id), .lit (.int .i64 x_Thing_Kind), .lit (.int .i64 x_Thing_Colour), .lit (.int .i64 x_Thing_Size), .lit (.int .i64 x_Thing_Worth), .lit (.int .i64 x_Place), .lit (.int .i64 x_At), .lit (.int .i64 x_Finder)]] [] = some ((fun (x : TFind) => True) ⟨⟨x_Thing_Id, x_Thing_Kind, x_Thing_Colour, x_Thing_Size, x_Thing_Worth⟩, x_Place, x_At, x_Finder⟩, (fun (x : TFind) => (dI (nFind x) : D)) ⟨⟨x_Thing_Id, x_Thing_Kind, x_Thing_Colour, x_Thing_Size, x_Thing_Worth⟩, x_Place, x_At, x_Finder⟩, (fun (x : TFind) => []) ⟨⟨x_Thing_Id, x_Thing_Kind, x_Thing_Colour, x_Thing_Size, x_Thing_Worth⟩, x_Place, x_At, x_Finder⟩) :=
  mkCon_fn (fun x y h _ => c81_inj x y h) (⟨⟨x_Thing_Id, x_Thing_Kind, x_Thing_Colour, x_Thing_Size, x_Thing_Worth⟩, x_Place, x_At, x_Finder⟩ : TFind) (by simp [nz, nz1, ML_nil, encTFind, encTThing]) rfl
theorem c81_pc (x : TFind) : PCo Tryd.prog 81 [encTFind x] (Tab.of []) (dI (nFind x)) (Tab.of []) := by
  obtain ⟨⟨x_Thing_Id, x_Thing_Kind, x_Thing_Colour, x_Thing_Size, x_Thing_Worth⟩, x_Place, x_At, x_Finder⟩ := x
  refine pco_of_run [] (E := ⟨[], [], []⟩) (m := false) (base := 0) Env.ok_nil G_ok mix 300 6 Tryd.func81 (by kernel_rfl) rfl (by kernel_rfl) (by kernel_rfl) rfl ?_
  simp [Tryd.f81]
  all_goals first | omega | (rw [Bool.eq_iff_iff]; simp; omega) | grind
theorem c81_ok : c81.ok Tryd.prog := mkCon_ok fun x hpre => c81_pc x
/-- (loop.example/g03007/impl.sortedList[loop.example/g03007/impl.Find]).indexOf$1 -/
noncomputable def c83 : Con := mkCon 83 false (α := TFind × (List TFind) × Int) (fun x => (fun (x : TFind) (l : List TFind) (n : Int) => ([encTFind x, .el (.agg [.sl false 8 yTFind (ML encTFind l), .fn (.func 81) [] []]), .el (dI n)] : List D)) x.1 x.2.1 x.2.2) (fun x => (fun (x : TFind) (l : List TFind) (n : Int) => ([] : List (Nm × OO))) x.1 x.2.1 x.2.2) (fun x => (fun (x : TFind) (l : List TFind) (n : Int) => True) x.1 x.2.1 x.2.2) (fun x => (fun (x : TFind) (l : List TFind) (n : Int) => (dB (wantN nFind n x) : D)) x.1 x.2.1 x.2.2) (fun x => (fun (x : TFind) (l : List TFind) (n : Int) => ([] : List (Nm × OO))) x.1 x.2.1 x.2.2)
@[simp] theorem c83_f : c83.f = 83 := rfl
@[simp] theorem c83_own : c83.own = false := rfl
theorem c83_inj : ∀ u_ v_ : TFind × (List TFind) × Int, ((fun x => (fun (x : TFind) (l : List TFind) (n : Int) => ([encTFind x, .el (.agg [.sl false 8 yTFind (ML encTFind l), .fn (.func 81) [] []]), .el (dI n)] : List D)) x.1 x.2.1 x.2.2) u_).map nz = ((fun x => (fun (x : TFind) (l : List TFind) (n : Int) => ([encTFind x, .el (.agg [.sl false 8 yTFind (ML encTFind l), .fn (.func 81) [] []]), .el (dI n)] : List D)) x.1 x.2.1 x.2.2) v_).map nz → (fun x => (fun (x : TFind) (l : List TFind) (n : Int) => ([] : List (Nm × OO))) x.1 x.2.1 x.2.2) u_ = (fun x => (fun (x : TFind) (l : List TFind) (n : Int) => ([] : List (Nm × OO))) x.1 x.2.1 x.2.2) v_ → u_ = v_ := by
  intro u_ v_ h h2_
  obtain ⟨⟨⟨x_Thing_Id, x_Thing_Kind, x_Thing_Colour, x_Thing_Size, x_Thing_Worth⟩, x_Place, x_At, x_Finder⟩, l, n⟩ := u_
  obtain ⟨⟨⟨x_Thing_Id', x_Thing_Kind', x_Thing_Colour', x_Thing_Size', x_Thing_Worth'⟩, x_Place', x_At', x_Finder'⟩, l', n'⟩ := v_
  simp [nz_lit, nz1_lit, nz_agg, nz_sl, nz1_sl, nz_sx, nz_el, nz1_el, nz_own, nz1_own, nz_ptr, nz_fn, nz_iface] at h h2_
  first | (simp [h, h2_]; done) | (obtain ⟨h3_, h4_⟩ := List.append_inj h2_ h.1; simp_all; done) | simp_all | grind
@[simp] theorem c83_fn (x_Thing_Id : Int) (x_Thing_Kind : Int) (x_Thing_Colour : Int) (x_Thing_Size : Int) (x_Thing_Worth : Int) (x_Place : Int) (x_At : Int) (x_Finder : Int) (l : List TFind) (n : Int) : c83.fn ([.agg [.lit (.int .i64 x_Thing_Id), .lit (.int .i64 x_Thing_Kind), .lit (.int .i64 x_Thing_Colour), .lit (.int .i64 x_Thing_Size), .lit (.int .i64 x_Thing_Worth), .lit (.int .i64 x_Place), .lit (.int .i64 x_At), .lit (.int .i64 x_Finder)], .el (.agg [.sl false 8 yTFind (ML encTFind l), .fn (.func 81) [] []]), .el (dI n)]) ([]) = some (True, dB (wantN nFind n (⟨⟨x_Thing_Id, x_Thing_Kind, x_Thing_Colour, x_Thing_Size, x_Thing_Worth⟩, x_Place, x_At, x_Finder⟩ : TFind)), []) :=
  mkCon_fn c83_inj ((⟨⟨x_Thing_Id, x_Thing_Kind, x_Thing_Colour, x_Thing_Size, x_Thing_Worth⟩, x_Place, x_At, x_Finder⟩, l, n) : TFind × (List TFind) × Int) rfl rfl
theorem c83_pc (x : TFind) (l : List TFind) (n : Int) : PCo Tryd.prog 83 ([encTFind x, .el (.agg [.sl false 8 yTFind (ML encTFind l), .fn (.func 81) [] []]), .el (dI n)]) (Tab.of ([])) (dB (wantN nFind n x)) (Tab.of ([])) := by
  refine pco_of_run [1] (E := ⟨[c81], [], []⟩) (m := false) (base := 0) (Env.ok_cons c81_ok Env.ok_nil) G_ok mix 300 6 Tryd.func83 (by kernel_rfl) rfl (by kernel_rfl) (by kernel_rfl) rfl ?_
  simp [Tryd.f83]
  simp [wantN]; first | done | rfl
theorem c83_ok : c83.ok Tryd.prog := mkCon_ok fun ⟨x, l, n⟩ hpre => c83_pc x l n
/-- slices.IndexFunc[[]loop.example/g03007/impl.Fin -/
noncomputable def c82_i : Con := mkCon 82 false (α := (List TFind) × (List TFind) × Int) (fun x => (fun (l : List TFind) (l2 : List TFind) (n : Int) => ([.sl false 8 yTFind (ML encTFind l), .fn (.func 83) [] [.el (.agg [.sl false 8 yTFind (ML encTFind l2), .fn (.func 81) [] []]), .el (dI n)]] : List D)) x.1 x.2.1 x.2.2) (fun x => (fun (l : List TFind) (l2 : List TFind) (n : Int) => ([] : List (Nm × OO))) x.1 x.2.1 x.2.2) (fun x => (fun (l : List TFind) (l2 : List TFind) (n : Int) => l.length ≤ 1099511627776) x.1 x.2.1 x.2.2) (fun x => (fun (l : List TFind) (l2 : List TFind) (n : Int) => (dI (indexBy (wantN nFind n) 0 l) : D)) x.1 x.2.1 x.2.2) (fun x => (fun (l : List TFind) (l2 : List TFind) (n : Int) => ([] : List (Nm × OO))) x.1 x.2.1 x.2.2)
@[simp] theorem c82_i_f : c82_i.f = 82 := rfl
@[simp] theorem c82_i_own : c82_i.own = false := rfl
theorem c82_i_inj : ∀ u_ v_ : (List TFind) × (List TFind) × Int, ((fun x => (fun (l : List TFind) (l2 : List TFind) (n : Int) => ([.sl false 8 yTFind (ML encTFind l), .fn (.func 83) [] [.el (.agg [.sl false 8 yTFind (ML encTFind l2), .fn (.func 81) [] []]), .el (dI n)]] : List D)) x.1 x.2.1 x.2.2) u_).map nz = ((fun x => (fun (l : List TFind) (l2 : List TFind) (n : Int) => ([.sl false 8 yTFind (ML encTFind l), .fn (.func 83) [] [.el (.agg [.sl false 8 yTFind (ML encTFind l2), .fn (.func 81) [] []]), .el (dI n)]] : List D)) x.1 x.2.1 x.2.2) v_).map nz → (fun x => (fun (l : List TFind) (l2 : List TFind) (n : Int) => ([] : List (Nm × OO))) x.1 x.2.1 x.2.2) u_ = (fun x => (fun (l : List TFind) (l2 : List TFind) (n : Int) => ([] : List (Nm × OO))) x.1 x.2.1 x.2.2) v_ → u_ = v_ := by
  intro u_ v_ h h2_
  obtain ⟨l, l2, n⟩ := u_
  obtain ⟨l', l2', n'⟩ := v_
  simp [nz_lit, nz1_lit, nz_agg, nz_sl, nz1_sl, nz_sx, nz_el, nz1_el, nz_own, nz1_own, nz_ptr, nz_fn, nz_iface] at h h2_
  first | (simp [h, h2_]; done) | (obtain ⟨h3_, h4_⟩ := List.append_inj h2_ h.1; simp_all; done) | simp_all | grind
@[simp] theorem c82_i_fn (l : List TFind) (l2 : List TFind) (n : Int) : c82_i.fn ([.sl false 8 yTFind (ML encTFind l), .fn (.func 83) [] [.el (.agg [.sl false 8 yTFind (ML encTFind l2), .fn (.func 81) [] []]), .el (dI n)]]) ([]) = some (l.length ≤ 1099511627776, dI (indexBy (wantN nFind n) 0 l), []) :=
  mkCon_fn c82_i_inj ((l, l2, n) : (List TFind) × (List TFind) × Int) rfl rfl
theorem c82_i_pc (l : List TFind) (l2 : List TFind) (n : Int) (hpre : l.length ≤ 1099511627776) : PCo Tryd.prog 82 ([.sl false 8 yTFind (ML encTFind l), .fn (.func 83) [] [.el (.agg [.sl false 8 yTFind (ML encTFind l2), .fn (.func 81) [] []]), .el (dI n)]]) (Tab.of ([])) (dI (indexBy (wantN nFind n) 0 l)) (Tab.of ([])) := by
  refine pco_of_run [] (E := ⟨[c83], [], []⟩) (m := false) (base := 0) (Env.ok_cons c83_ok Env.ok_nil) G_ok mix 300 6 Tryd.func82 (by kernel_rfl) rfl (by kernel_rfl) (by kernel_rfl) rfl ?_
  simp [Tryd.f82]
  refine loop_inv (fun p : Nat => p ≤ l.length ∧ indexBy (wantN nFind n) 0 l = indexBy (wantN nFind n) p (l.drop p)) (fun p => [(0, .sl false 8 yTFind (ML encTFind l)), (1, .fn (.func 83) [] [.el (.agg [.sl false 8 yTFind (ML encTFind l2), .fn (.func 81) [] []]), .el (dI n)]), (7, dI l.length), (8, dI p)]) (fun _ => []) 1 (fun p => l.length - p) 0 400 (by simp) (by simp) (by simp) ?_
  intro p ⟨hp, hi⟩
  simp
  refine ⟨fun hlt => ?_, fun hge => ?_⟩
  · rw [indexBy_at (d := default) hlt] at hi
    repeat' (first | omega | refine And.intro ?_ ?_ | intro _)
    all_goals first | exact Again.mk (p + 1) ⟨by omega, by rw [hi]; grind⟩ (by simp) (by first | omega | (simp; omega)) | (rw [hi]; grind)
  · rw [hi, indexBy_end hge]
theorem c82_i_ok : c82_i.ok Tryd.prog := mkCon_ok fun ⟨l, l2, n⟩ hpre => c82_i_pc l l2 n hpre
noncomputable def c82 : Con := selCon 82 false [([83], c82_i)]
@[simp] theorem c82_f : c82.f = 82 := rfl
@[simp] theorem c82_own : c82.own = false := rfl
@[simp] theorem c82_fn0 (l : List TFind) (l2 : List TFind) (n : Int) : c82.fn ([.sl false 8 yTFind (ML encTFind l), .fn (.func 83) [] [.el (.agg [.sl false 8 yTFind (ML encTFind l2), .fn (.func 81) [] []]), .el (dI n)]]) ([]) = some (l.length ≤ 1099511627776, dI (indexBy (wantN nFind n) 0 l), []) := by
  rw [c82, selCon_fn]
  have h : selK [([83], c82_i)] (keyDs ([.sl false 8 yTFind (ML encTFind l), .fn (.func 83) [] [.el (.agg [.sl false 8 yTFind (ML encTFind l2), .fn (.func 81) [] []]), .el (dI n)]])) = some c82_i := by simp
  rw [h]
  exact c82_i_fn l l2 n
theorem c82_ok : c82.ok Tryd.prog := selCon_ok fun p hp => by
  simp only [List.mem_cons, List.not_mem_nil, or_false] at hp
  rcases hp with rfl
  · exact ⟨rfl, c82_i_ok⟩
/-- (loop.example/g03007/impl.sortedList[loop.example/g03007/impl.Find]).indexOf -/
noncomputable def c71 : Con := mkCon 71 false (α := (List TFind) × Int) (fun x => (fun (l : List TFind) (n : Int) => ([.agg [.sl false 8 yTFind (ML encTFind l), .fn (.func 81) [] []], dI n] : List D)) x.1 x.2) (fun x => (fun (l : List TFind) (n : Int) => ([] : List (Nm × OO))) x.1 x.2) (fun x => (fun (l : List TFind) (n : Int) => l.length ≤ 1099511627776) x.1 x.2) (fun x => (fun (l : List TFind) (n : Int) => (dI (indexBy (wantN nFind n) 0 l) : D)) x.1 x.2) (fun x => (fun (l : List TFind) (n : Int) => ([] : List (Nm × OO))) x.1 x.2)
@[simp] theorem c71_f : c71.f = 71 := rfl
@[simp] theorem c71_own : c71.own = false := rfl
theorem c71_inj : ∀ u_ v_ : (List TFind) × Int, ((fun x => (fun (l : List TFind) (n : Int) => ([.agg [.sl false 8 yTFind (ML encTFind l), .fn (.func 81) [] []], dI n] : List D)) x.1 x.2) u_).map nz = ((fun x => (fun (l : List TFind) (n : Int) => ([.agg [.sl false 8 yTFind (ML encTFind l), .fn (.func 81) [] []], dI n] : List D)) x.1 x.2) v_).map nz → (fun x => (fun (l : List TFind) (n : Int) => ([] : List (Nm × OO))) x.1 x.2) u_ = (fun x => (fun (l : List TFind) (n : Int) => ([] : List (Nm × OO))) x.1 x.2) v_ → u_ = v_ := by
  intro u_ v_ h h2_
  obtain ⟨l, n⟩ := u_
  obtain ⟨l', n'⟩ := v_
  simp [nz_lit, nz1_lit, nz_agg, nz_sl, nz1_sl, nz_sx, nz_el, nz1_el, nz_own, nz1_own, nz_ptr, nz_fn, nz_iface] at h h2_
  first | (simp [h, h2_]; done) | (obtain ⟨h3_, h4_⟩ := List.append_inj h2_ h.1; simp_all; done) | simp_all | grind
@[simp] theorem c71_fn (l : List TFind) (n : Int) : c71.fn ([.agg [.sl false 8 yTFind (ML encTFind l), .fn (.func 81) [] []], dI n]) ([]) = some (l.length ≤ 1099511627776, dI (indexBy (wantN nFind n) 0 l), []) :=
  mkCon_fn c71_inj ((l, n) : (List TFind) × Int) rfl rfl
theorem c71_pc (l : List TFind) (n : Int) (hpre : l.length ≤ 1099511627776) : PCo Tryd.prog 71 ([.agg [.sl false 8 yTFind (ML encTFind l), .fn (.func 81) [] []], dI n]) (Tab.of ([])) (dI (indexBy (wantN nFind n) 0 l)) (Tab.of ([])) := by
  refine pco_of_run [] (E := ⟨[c82, c83], [], []⟩) (m := false) (base := 0) (Env.ok_cons c82_ok (Env.ok_cons c83_ok Env.ok_nil)) G_ok mix 300 6 Tryd.func71 (by kernel_rfl) rfl (by kernel_rfl) (by kernel_rfl) rfl ?_
  simp [Tryd.f71]
  all_goals first | omega | (rw [Bool.eq_iff_iff]; simp; omega) | grind
theorem c71_ok : c71.ok Tryd.prog := mkCon_ok fun ⟨l, n⟩ hpre => c71_pc l n hpre
def mFindThing (l : List TFind) (n : Int) : Int := indexBy (wantN nFind n) 0 l
/-- loop.example/g03007/impl.FindThing -/
noncomputable def c53 : Con := mkCon 53 false (α := (List TFind) × Int) (fun x => (fun (l : List TFind) (n : Int) => [encLTFind l, dI n]) x.1 x.2) (fun _ => []) (fun x => (fun (l : List TFind) (n : Int) => l.length ≤ 1099511627776) x.1 x.2) (fun x => (fun (l : List TFind) (n : Int) => (dI (mFindThing l n) : D)) x.1 x.2) (fun x => (fun (l : List TFind) (n : Int) => []) x.1 x.2)
@[simp] theorem c53_f : c53.f = 53 := rfl
@[simp] theorem c53_own : c53.own = false := rfl
theorem c53_inj : ∀ u_ v_ : (List TFind) × Int, ((fun x => (fun (l : List TFind) (n : Int) => [encLTFind l, dI n]) x.1 x.2) u_).map nz = ((fun x => (fun (l : List TFind) (n : Int) => [encLTFind l, dI n]) x.1 x.2) v_).map nz → u_ = v_ := by
  intro u_ v_ h
  obtain ⟨l, n⟩ := u_
  obtain ⟨l', n'⟩ := v_
  simp [nz_lit, nz1_lit, nz_agg, nz_sl, nz1_sl, encLTFind] at h
  first | (simp [h]; done) | (obtain ⟨⟩ := h; simp_all; done) | simp_all
@[simp] theorem c53_fn (l : List TFind) (n : Int) : c53.fn [.sl false 8 yTFind (ML encTFind l), .lit (.int .i64 n)] [] = some ((fun (l : List TFind) (n : Int) => l.length ≤ 1099511627776) l n, (fun (l : List TFind) (n : Int) => (dI (mFindThing l n) : D)) l n, (fun (l : List TFind) (n : Int) => []) l n) :=
  mkCon_fn (fun x y h _ => c53_inj x y h) ((l, n) : (List TFind) × Int) (by simp [nz, nz1, ML_nil, encLTFind]) rfl
@[simp] theorem c53_fn1 (s_l : Nat) (z_l : D) (n : Int) : c53.fn [.sl false s_l z_l [], .lit (.int .i64 n)] [] = some ((fun (l : List TFind) (n : Int) => l.length ≤ 1099511627776) [] n, (fun (l : List TFind) (n : Int) => (dI (mFindThing l n) : D)) [] n, (fun (l : List TFind) (n : Int) => []) [] n) :=
  mkCon_fn (fun x y h _ => c53_inj x y h) (([], n) : (List TFind) × Int) (by simp [nz, nz1, ML_nil, encLTFind]) rfl
theorem c53_pc (l : List TFind) (n : Int) (hpre : l.length ≤ 1099511627776) : PCo Tryd.prog 53 [encLTFind l, dI n] (Tab.of []) (dI (mFindThing l n)) (Tab.of []) := by
  refine pco_of_run [] (E := ⟨[c70, c71], [], []⟩) (m := false) (base := 0) (Env.ok_cons c70_ok (Env.ok_cons c71_ok Env.ok_nil)) G_ok mix 300 6 Tryd.func53 (by kernel_rfl) rfl (by kernel_rfl) (by kernel_rfl) rfl ?_
  simp [Tryd.f53]
  exact ⟨hpre, rfl⟩
theorem c53_ok : c53.ok Tryd.prog := mkCon_ok fun ⟨l, n⟩ hpre => c53_pc l n hpre
/-- loop.example/g03007/spec.FindThing -/
noncomputable def c16 : Con := mkCon 16 false (α := (List TFind) × Int) (fun x => (fun (l : List TFind) (n : Int) => [encLTFind l, dI n]) x.1 x.2) (fun _ => []) (fun x => (fun (l : List TFind) (n : Int) => l.length ≤ 1099511627776) x.1 x.2) (fun x => (fun (l : List TFind) (n : Int) => (dI (mFindThing l n) : D)) x.1 x.2) (fun x => (fun (l : List TFind) (n : Int) => []) x.1 x.2)
@[simp] theorem c16_f : c16.f = 16 := rfl
@[simp] theorem c16_own : c16.own = false := rfl
theorem c16_inj : ∀ u_ v_ : (List TFind) × Int, ((fun x => (fun (l : List TFind) (n : Int) => [encLTFind l, dI n]) x.1 x.2) u_).map nz = ((fun x => (fun (l : List TFind) (n : Int) => [encLTFind l, dI n]) x.1 x.2) v_).map nz → u_ = v_ := by
  intro u_ v_ h
  obtain ⟨l, n⟩ := u_
  obtain ⟨l', n'⟩ := v_
  simp [nz_lit, nz1_lit, nz_agg, nz_sl, nz1_sl, encLTFind] at h
  first | (simp [h]; done) | (obtain ⟨⟩ := h; simp_all; done) | simp_all
@[simp] theorem c16_fn (l : List TFind) (n : Int) : c16.fn [.sl false 8 yTFind (ML encTFind l), .lit (.int .i64 n)] [] = some ((fun (l : List TFind) (n : Int) => l.length ≤ 1099511627776) l n, (fun (l : List TFind) (n : Int) => (dI (mFindThing l n) : D)) l n, (fun (l : List TFind) (n : Int) => []) l n) :=
  mkCon_fn (fun x y h _ => c16_inj x y h) ((l, n) : (List TFind) × Int) (by simp [nz, nz1, ML_nil, encLTFind]) rfl
@[simp] theorem c16_fn1 (s_l : Nat) (z_l : D) (n : Int) : c16.fn [.sl false s_l z_l [], .lit (.int .i64 n)] [] = some ((fun (l : List TFind) (n : Int) => l.length ≤ 1099511627776) [] n, (fun (l : List TFind) (n : Int) => (dI (mFindThing l n) : D)) [] n, (fun (l : List TFind) (n : Int) => []) [] n) :=
  mkCon_fn (fun x y h _ => c16_inj x y h) (([], n) : (List TFind) × Int) (by simp [nz, nz1, ML_nil, encLTFind]) rfl
theorem c16_pc (l : List TFind) (n : Int) (hpre : l.length ≤ 1099511627776) : PCo Tryd.prog 16 [encLTFind l, dI n] (Tab.of []) (dI (mFindThing l n)) (Tab.of []) := by
  refine pco_of_run [] (E := ⟨[], [], []⟩) (m := false) (base := 0) Env.ok_nil G_ok mix 300 6 Tryd.func16 (by kernel_rfl) rfl (by kernel_rfl) (by kernel_rfl) rfl ?_
  simp [Tryd.f16]
  refine loop_inv (fun p : Nat => p ≤ l.length ∧ mFindThing l n = indexBy (wantN nFind n) p (l.drop p)) (fun p => [(0, encLTFind l), (1, dI n), (5, dI p)]) (fun _ => []) 1 (fun p => l.length - p) 0 400 (by simp) (by simp [mFindThing]) (by simp) ?_
  intro p ⟨hp, hi⟩
  simp
  refine ⟨fun hlt => ?_, fun hge => ?_⟩
  · rw [indexBy_at (d := default) hlt] at hi; simp only [nFind, wantN] at hi
    refine ⟨by repeat' (first | omega | refine And.intro ?_ ?_ | intro _), fun h => ?_, fun h => ⟨by omega, Again.mk (p + 1) ⟨by omega, ?_⟩ (by simp) (by first | omega | (simp; omega))⟩⟩
    · rw [hi]; simp [h]
    · rw [hi]; simp [h]
  · rw [hi, indexBy_end hge]
theorem c16_ok : c16.ok Tryd.prog := mkCon_ok fun ⟨l, n⟩ hpre => c16_pc l n hpre
/-- loop.example/g03007/laws.szFindS -/
noncomputable def c9 : Con := mkCon 9 false (α := (List TFind) × Int) (fun x => (fun (l : List TFind) (left : Int) => [encLTFind l, dI left]) x.1 x.2) (fun _ => []) (fun x => (fun (l : List TFind) (left : Int) => l.length ≤ maxLen ∧ 0 ≤ left ∧ left ≤ 1099511627776) x.1 x.2) (fun x => (fun (l : List TFind) (left : Int) => (dI (if left - l.length < 0 then -1 else left - l.length) : D)) x.1 x.2) (fun x => (fun (l : List TFind) (left : Int) => []) x.1 x.2)
@[simp] theorem c9_f : c9.f = 9 := rfl
@[simp] theorem c9_own : c9.own = false := rfl
theorem c9_inj : ∀ u_ v_ : (List TFind) × Int, ((fun x => (fun (l : List TFind) (left : Int) => [encLTFind l, dI left]) x.1 x.2) u_).map nz = ((fun x => (fun (l : List TFind) (left : Int) => [encLTFind l, dI left]) x.1 x.2) v_).map nz → u_ = v_ := by
  intro u_ v_ h
  obtain ⟨l, left⟩ := u_
  obtain ⟨l', left'⟩ := v_
  simp [nz_lit, nz1_lit, nz_agg, nz_sl, nz1_sl, encLTFind] at h
  first | (simp [h]; done) | (obtain ⟨⟩ := h; simp_all; done) | simp_all
@[simp] theorem c9_fn (l : List TFind) (left : Int) : c9.fn [.sl false 8 yTFind (ML encTFind l), .lit (.int .i64 left)] [] = some ((fun (l : List TFind) (left : Int) => l.length ≤ maxLen ∧ 0 ≤ left ∧ left ≤ 1099511627776) l left, (fun (l : List TFind) (left : Int) => (dI (if left - l.length < 0 then -1 else left - l.length) : D)) l left, (fun (l : List TFind) (left : Int) => []) l left) :=
  mkCon_fn (fun x y h _ => c9_inj x y h) ((l, left) : (List TFind) × Int) (by simp [nz, nz1, ML_nil, encLTFind]) rfl
@[simp] theorem c9_fn1 (s_l : Nat) (z_l : D) (left : Int) : c9.fn [.sl false s_l z_l [], .lit (.int .i64 left)] [] = some ((fun (l : List TFind) (left : Int) => l.length ≤ maxLen ∧ 0 ≤ left ∧ left ≤ 1099511627776) [] left, (fun (l : List TFind) (left : Int) => (dI (if left - l.length < 0 then -1 else left - l.length) : D)) [] left, (fun (l : List TFind) (left : Int) => []) [] left) :=
  mkCon_fn (fun x y h _ => c9_inj x y h) (([], left) : (List TFind) × Int) (by simp [nz, nz1, ML_nil, encLTFind]) rfl
theorem c9_pc (l : List TFind) (left : Int) (hpre : l.length ≤ maxLen ∧ 0 ≤ left ∧ left ≤ 1099511627776) : PCo Tryd.prog 9 [encLTFind l, dI left] (Tab.of []) (dI (if left - l.length < 0 then -1 else left - l.length)) (Tab.of []) := by
  refine pco_of_run [] (E := ⟨[], [], []⟩) (m := false) (base := 0) Env.ok_nil G_ok mix 300 6 Tryd.func9 (by kernel_rfl) rfl (by kernel_rfl) (by kernel_rfl) rfl ?_
  simp [Tryd.f9]
  simp [maxLen] at hpre
  all_goals omega
theorem c9_ok : c9.ok Tryd.prog := mkCon_ok fun ⟨l, left⟩ hpre => c9_pc l left hpre
/-- loop.example/g03007/laws.toFindS -/
noncomputable def c19 : Con := mkCon 19 false (α := (List TFind)) (fun x => (fun (l : List TFind) => [encLTFind l]) x) (fun _ => []) (fun x => (fun (l : List TFind) => l.length ≤ 1099511627776) x) (fun x => (fun (l : List TFind) => (.own (0, 1) 8 0 l.length : D)) x) (fun x => (fun (l : List TFind) => [((0, 1), .arr false 8 yTFind (ML encTFind l))]) x)
@[simp] theorem c19_f : c19.f = 19 := rfl
@[simp] theorem c19_own : c19.own = false := rfl
theorem c19_inj : ∀ u_ v_ : (List TFind), ((fun x => (fun (l : List TFind) => [encLTFind l]) x) u_).map nz = ((fun x => (fun (l : List TFind) => [encLTFind l]) x) v_).map nz → u_ = v_ := by
  intro u_ v_ h
  obtain l := u_
  obtain l' := v_
  simp [nz_lit, nz1_lit, nz_agg, nz_sl, nz1_sl, encLTFind] at h
  first | (simp [h]; done) | (obtain ⟨⟩ := h; simp_all; done) | simp_all
@[simp] theorem c19_fn (l : List TFind) : c19.fn [.sl false 8 yTFind (ML encTFind l)] [] = some ((fun (l : List TFind) => l.length ≤ 1099511627776) l, (fun (l : List TFind) => (.own (0, 1) 8 0 l.length : D)) l, (fun (l : List TFind) => [((0, 1), .arr false 8 yTFind (ML encTFind l))]) l) :=
  mkCon_fn (fun x y h _ => c19_inj x y h) (l : (List TFind)) (by simp [nz, nz1, ML_nil, encLTFind]) rfl
@[simp] theorem c19_fn1 (s_l : Nat) (z_l : D) : c19.fn [.sl false s_l z_l []] [] = some ((fun (l : List TFind) => l.length ≤ 1099511627776) [], (fun (l : List TFind) => (.own (0, 1) 8 0 l.length : D)) [], (fun (l : List TFind) => [((0, 1), .arr false 8 yTFind (ML encTFind l))]) []) :=
  mkCon_fn (fun x y h _ => c19_inj x y h) ([] : (List TFind)) (by simp [nz, nz1, ML_nil, encLTFind]) rfl
theorem c19_pc (l : List TFind) (hpre : l.length ≤ 1099511627776) : PCo Tryd.prog 19 [encLTFind l] (Tab.of []) (.own (0, 1) 8 0 l.length) (Tab.of [((0, 1), .arr false 8 yTFind (ML encTFind l))]) := by
  refine pco_of_run [] (E := ⟨[c41], [], []⟩) (m := false) (base := 0) (Env.ok_cons c41_ok Env.ok_nil) G_ok mix 300 6 Tryd.func19 (by kernel_rfl) rfl (by kernel_rfl) (by kernel_rfl) rfl ?_
  simp [Tryd.f19]
  refine ⟨by omega, ?_⟩
  refine loop_inv (fun p : Nat => p ≤ l.length) (fun p => [(0, encLTFind l), (3, .own (0, 1) 8 0 l.length), (4, dI p)]) (fun p => [((0, 1), .arr false 8 yTFind (ML encTFind (l.take p ++ List.replicate (l.length - p) ⟨⟨0, 0, 0, 0, 0⟩, 0, 0, 0⟩)))]) 2 (fun p => l.length - p) 0 100 (by simp) (by simp) (by first | (simp; done) | (simp; simp only [ML, List.map_replicate]; rfl)) ?_
  intro p hp
  simp
  refine ⟨fun hlt => ⟨by omega, by omega, Again.mk (p + 1) (by omega) (by simp [fill_step hlt]) (by first | omega | (simp; omega))⟩, fun hge => ?_⟩
  have : p = l.length := by omega
  subst this
  simp
theorem c19_ok : c19.ok Tryd.prog := mkCon_ok fun l hpre => c19_pc l hpre
/-- loop.example/g03007/laws.eqFindS -/
noncomputable def c31 : Con := mkCon 31 false (α := (List TFind) × (List TFind)) (fun x => (fun (a : List TFind) (b : List TFind) => [encLTFind a, encLTFind b]) x.1 x.2) (fun _ => []) (fun x => (fun (a : List TFind) (b : List TFind) => a.length ≤ 1099511627776 ∧ b.length ≤ 1099511627776) x.1 x.2) (fun x => (fun (a : List TFind) (b : List TFind) => (dB (decide (a = b)) : D)) x.1 x.2) (fun x => (fun (a : List TFind) (b : List TFind) => []) x.1 x.2)
@[simp] theorem c31_f : c31.f = 31 := rfl
@[simp] theorem c31_own : c31.own = false := rfl
theorem c31_inj : ∀ u_ v_ : (List TFind) × (List TFind), ((fun x => (fun (a : List TFind) (b : List TFind) => [encLTFind a, encLTFind b]) x.1 x.2) u_).map nz = ((fun x => (fun (a : List TFind) (b : List TFind) => [encLTFind a, encLTFind b]) x.1 x.2) v_).map nz → u_ = v_ := by
  intro u_ v_ h
  obtain ⟨a, b⟩ := u_
  obtain ⟨a', b'⟩ := v_
  simp [nz_lit, nz1_lit, nz_agg, nz_sl, nz1_sl, encLTFind] at h
  first | (simp [h]; done) | (obtain ⟨⟩ := h; simp_all; done) | simp_all
@[simp] theorem c31_fn (a : List TFind) (b : List TFind) : c31.fn [.sl false 8 yTFind (ML encTFind a), .sl false 8 yTFind (ML encTFind b)] [] = some ((fun (a : List TFind) (b : List TFind) => a.length ≤ 1099511627776 ∧ b.length ≤ 1099511627776) a b, (fun (a : List TFind) (b : List TFind) => (dB (decide (a = b)) : D)) a b, (fun (a : List TFind) (b : List TFind) => []) a b) :=
  mkCon_fn (fun x y h _ => c31_inj x y h) ((a, b) : (List TFind) × (List TFind)) (by simp [nz, nz1, ML_nil, encLTFind]) rfl
@[simp] theorem c31_fn1 (s_a : Nat) (z_a : D) (b : List TFind) : c31.fn [.sl false s_a z_a [], .sl false 8 yTFind (ML encTFind b)] [] = some ((fun (a : List TFind) (b : List TFind) => a.length ≤ 1099511627776 ∧ b.length ≤ 1099511627776) [] b, (fun (a : List TFind) (b : List TFind) => (dB (decide (a = b)) : D)) [] b, (fun (a : List TFind) (b : List TFind) => []) [] b) :=
  mkCon_fn (fun x y h _ => c31_inj x y h) (([], b) : (List TFind) × (List TFind)) (by simp [nz, nz1, ML_nil, encLTFind]) rfl
@[simp] theorem c31_fn2 (a : List TFind) (s_b : Nat) (z_b : D) : c31.fn [.sl false 8 yTFind (ML encTFind a), .sl false s_b z_b []] [] = some ((fun (a : List TFind) (b : List TFind) => a.length ≤ 1099511627776 ∧ b.length ≤ 1099511627776) a [], (fun (a : List TFind) (b : List TFind) => (dB (decide (a = b)) : D)) a [], (fun (a : List TFind) (b : List TFind) => []) a []) :=
  mkCon_fn (fun x y h _ => c31_inj x y h) ((a, []) : (List TFind) × (List TFind)) (by simp [nz, nz1, ML_nil, encLTFind]) rfl
@[simp] theorem c31_fn3 (s_a : Nat) (z_a : D) (s_b : Nat) (z_b : D) : c31.fn [.sl false s_a z_a [], .sl false s_b z_b []] [] = some ((fun (a : List TFind) (b : List TFind) => a.length ≤ 1099511627776 ∧ b.length ≤ 1099511627776) [] [], (fun (a : List TFind) (b : List TFind) => (dB (decide (a = b)) : D)) [] [], (fun (a : List TFind) (b : List TFind) => []) [] []) :=
  mkCon_fn (fun x y h _ => c31_inj x y h) (([], []) : (List TFind) × (List TFind)) (by simp [nz, nz1, ML_nil, encLTFind]) rfl
theorem c31_pc (a : List TFind) (b : List TFind) (hpre : a.length ≤ 1099511627776 ∧ b.length ≤ 1099511627776) : PCo Tryd.prog 31 [encLTFind a, encLTFind b] (Tab.of []) (dB (decide (a = b))) (Tab.of []) := by
  refine pco_of_run [] (E := ⟨[c54], [], []⟩) (m := false) (base := 0) (Env.ok_cons c54_ok Env.ok_nil) G_ok mix 300 6 Tryd.func31 (by kernel_rfl) rfl (by kernel_rfl) (by kernel_rfl) rfl ?_
  simp [Tryd.f31]
  obtain ⟨pre1, pre2⟩ := hpre
  refine ⟨fun h => ?_, fun h => by intro e; subst e; exact absurd rfl h⟩
  refine loop_inv (fun p : Nat => p ≤ a.length ∧ a.take p = b.take p) (fun p => [(0, encLTFind a), (1, encLTFind b), (5, dI p)]) (fun _ => []) 1 (fun p => a.length - p) 0 100 (by simp) (by simp) (by simp) ?_
  intro p ⟨hp, hi⟩
  simp
  refine ⟨fun hlt => ⟨by omega, fun h2 => ⟨by omega, Again.mk (p + 1) ⟨by omega, take_eq_step hi (by omega) (by omega) h2⟩ (by simp) (by first | omega | (simp; omega))⟩, fun h2 => by intro e; subst e; exact absurd rfl h2⟩, fun hge => ?_⟩
  exact take_eq_full hi (by omega) (by omega)
theorem c31_ok : c31.ok Tryd.prog := mkCon_ok fun ⟨a, b⟩ hpre => c31_pc a b hpre
end Go.Proofs.YtfmbfemojnohcaaDoor
