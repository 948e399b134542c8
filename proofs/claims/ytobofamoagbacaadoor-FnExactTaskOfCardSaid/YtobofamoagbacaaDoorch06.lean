/- Contracts of the functions that the laws run. -/
import Derived.Test.YtobofamoagbacaaDoorch04
import Derived.Test.YtobofamoagbacaaDoorEngB
namespace Go.Proofs.YtobofamoagbacaaDoor
open Go Go.Eng
set_option linter.unusedSimpArgs false
set_option linter.unusedVariables false
set_option maxRecDepth 10000
set_option maxHeartbeats 1000000
def mIsFind (f : TFind) : Bool := mIsThing f.Thing && mIn f.Place 1 30 && mIn f.At 0 100000 && mIn f.Finder 0 999
/-- loop.example/g03007/laws.toFind -/
noncomputable def c19 : Con := mkCon 19 false (α := TFind) (fun x => (fun (a : TFind) => [encTFind a]) x) (fun _ => []) (fun x => (fun (a : TFind) => True) x) (fun x => (fun (a : TFind) => (encTFind a : D)) x) (fun x => (fun (a : TFind) => []) x)
@[simp] theorem c19_f : c19.f = 19 := rfl
@[simp] theorem c19_own : c19.own = false := rfl
theorem c19_inj : ∀ u_ v_ : TFind, ((fun x => (fun (a : TFind) => [encTFind a]) x) u_).map nz = ((fun x => (fun (a : TFind) => [encTFind a]) x) v_).map nz → u_ = v_ := by
  intro u_ v_ h
  obtain ⟨⟨a_Thing_Id, a_Thing_Kind, a_Thing_Colour, a_Thing_Size, a_Thing_Worth⟩, a_Place, a_At, a_Finder⟩ := u_
  obtain ⟨⟨a_Thing_Id', a_Thing_Kind', a_Thing_Colour', a_Thing_Size', a_Thing_Worth'⟩, a_Place', a_At', a_Finder'⟩ := v_
  simp [nz_lit, nz1_lit, nz_agg, nz_sl, nz1_sl, encTFind, encTThing] at h
  first | (simp [h]; done) | (obtain ⟨⟩ := h; simp_all; done) | simp_all
@[simp] theorem c19_fn (a_Thing_Id : Int) (a_Thing_Kind : Int) (a_Thing_Colour : Int) (a_Thing_Size : Int) (a_Thing_Worth : Int) (a_Place : Int) (a_At : Int) (a_Finder : Int) : c19.fn [.agg [.lit (.int .i64 a_Thing_Id), .lit (.int .i64 a_Thing_Kind), .lit (.int .i64 a_Thing_Colour), .lit (.int .i64 a_Thing_Size), .lit (.int .i64 a_Thing_Worth), .lit (.int .i64 a_Place), .lit (.int .i64 a_At), .lit (.int .i64 a_Finder)]] [] = some ((fun (a : TFind) => True) ⟨⟨a_Thing_Id, a_Thing_Kind, a_Thing_Colour, a_Thing_Size, a_Thing_Worth⟩, a_Place, a_At, a_Finder⟩, (fun (a : TFind) => (encTFind a : D)) ⟨⟨a_Thing_Id, a_Thing_Kind, a_Thing_Colour, a_Thing_Size, a_Thing_Worth⟩, a_Place, a_At, a_Finder⟩, (fun (a : TFind) => []) ⟨⟨a_Thing_Id, a_Thing_Kind, a_Thing_Colour, a_Thing_Size, a_Thing_Worth⟩, a_Place, a_At, a_Finder⟩) :=
  mkCon_fn (fun x y h _ => c19_inj x y h) (⟨⟨a_Thing_Id, a_Thing_Kind, a_Thing_Colour, a_Thing_Size, a_Thing_Worth⟩, a_Place, a_At, a_Finder⟩ : TFind) (by simp [nz, nz1, ML_nil, encTFind, encTThing]) rfl
theorem c19_pc (a : TFind) : PCo Tryd.prog 19 [encTFind a] (Tab.of []) (encTFind a) (Tab.of []) := by
  obtain ⟨⟨a_Thing_Id, a_Thing_Kind, a_Thing_Colour, a_Thing_Size, a_Thing_Worth⟩, a_Place, a_At, a_Finder⟩ := a
  refine pco_of_run [] (E := ⟨[c67], []⟩) (m := false) (base := 0) (Env.ok_cons c67_ok Env.ok_nil) G_ok mix 300 6 Tryd.func19 (by kernel_rfl) rfl (by kernel_rfl) (by kernel_rfl) rfl ?_
  simp [Tryd.f19]
  all_goals first | omega | (rw [Bool.eq_iff_iff]; simp; omega) | grind
theorem c19_ok : c19.ok Tryd.prog := mkCon_ok fun a hpre => c19_pc a
/-- loop.example/g03007/laws.eqFind -/
noncomputable def c71 : Con := mkCon 71 false (α := TFind × TFind) (fun x => (fun (a : TFind) (b : TFind) => [encTFind a, encTFind b]) x.1 x.2) (fun _ => []) (fun x => (fun (a : TFind) (b : TFind) => True) x.1 x.2) (fun x => (fun (a : TFind) (b : TFind) => (dB (decide (a = b)) : D)) x.1 x.2) (fun x => (fun (a : TFind) (b : TFind) => []) x.1 x.2)
@[simp] theorem c71_f : c71.f = 71 := rfl
@[simp] theorem c71_own : c71.own = false := rfl
theorem c71_inj : ∀ u_ v_ : TFind × TFind, ((fun x => (fun (a : TFind) (b : TFind) => [encTFind a, encTFind b]) x.1 x.2) u_).map nz = ((fun x => (fun (a : TFind) (b : TFind) => [encTFind a, encTFind b]) x.1 x.2) v_).map nz → u_ = v_ := by
  intro u_ v_ h
  obtain ⟨⟨⟨a_Thing_Id, a_Thing_Kind, a_Thing_Colour, a_Thing_Size, a_Thing_Worth⟩, a_Place, a_At, a_Finder⟩, ⟨⟨b_Thing_Id, b_Thing_Kind, b_Thing_Colour, b_Thing_Size, b_Thing_Worth⟩, b_Place, b_At, b_Finder⟩⟩ := u_
  obtain ⟨⟨⟨a_Thing_Id', a_Thing_Kind', a_Thing_Colour', a_Thing_Size', a_Thing_Worth'⟩, a_Place', a_At', a_Finder'⟩, ⟨⟨b_Thing_Id', b_Thing_Kind', b_Thing_Colour', b_Thing_Size', b_Thing_Worth'⟩, b_Place', b_At', b_Finder'⟩⟩ := v_
  simp [nz_lit, nz1_lit, nz_agg, nz_sl, nz1_sl, encTFind, encTThing] at h
  first | (simp [h]; done) | (obtain ⟨⟩ := h; simp_all; done) | simp_all
@[simp] theorem c71_fn (a_Thing_Id : Int) (a_Thing_Kind : Int) (a_Thing_Colour : Int) (a_Thing_Size : Int) (a_Thing_Worth : Int) (a_Place : Int) (a_At : Int) (a_Finder : Int) (b_Thing_Id : Int) (b_Thing_Kind : Int) (b_Thing_Colour : Int) (b_Thing_Size : Int) (b_Thing_Worth : Int) (b_Place : Int) (b_At : Int) (b_Finder : Int) : c71.fn [.agg [.lit (.int .i64 a_Thing_Id), .lit (.int .i64 a_Thing_Kind), .lit (.int .i64 a_Thing_Colour), .lit (.int .i64 a_Thing_Size), .lit (.int .i64 a_Thing_Worth), .lit (.int .i64 a_Place), .lit (.int .i64 a_At), .lit (.int .i64 a_Finder)], .agg [.lit (.int .i64 b_Thing_Id), .lit (.int .i64 b_Thing_Kind), .lit (.int .i64 b_Thing_Colour), .lit (.int .i64 b_Thing_Size), .lit (.int .i64 b_Thing_Worth), .lit (.int .i64 b_Place), .lit (.int .i64 b_At), .lit (.int .i64 b_Finder)]] [] = some ((fun (a : TFind) (b : TFind) => True) ⟨⟨a_Thing_Id, a_Thing_Kind, a_Thing_Colour, a_Thing_Size, a_Thing_Worth⟩, a_Place, a_At, a_Finder⟩ ⟨⟨b_Thing_Id, b_Thing_Kind, b_Thing_Colour, b_Thing_Size, b_Thing_Worth⟩, b_Place, b_At, b_Finder⟩, (fun (a : TFind) (b : TFind) => (dB (decide (a = b)) : D)) ⟨⟨a_Thing_Id, a_Thing_Kind, a_Thing_Colour, a_Thing_Size, a_Thing_Worth⟩, a_Place, a_At, a_Finder⟩ ⟨⟨b_Thing_Id, b_Thing_Kind, b_Thing_Colour, b_Thing_Size, b_Thing_Worth⟩, b_Place, b_At, b_Finder⟩, (fun (a : TFind) (b : TFind) => []) ⟨⟨a_Thing_Id, a_Thing_Kind, a_Thing_Colour, a_Thing_Size, a_Thing_Worth⟩, a_Place, a_At, a_Finder⟩ ⟨⟨b_Thing_Id, b_Thing_Kind, b_Thing_Colour, b_Thing_Size, b_Thing_Worth⟩, b_Place, b_At, b_Finder⟩) :=
  mkCon_fn (fun x y h _ => c71_inj x y h) ((⟨⟨a_Thing_Id, a_Thing_Kind, a_Thing_Colour, a_Thing_Size, a_Thing_Worth⟩, a_Place, a_At, a_Finder⟩, ⟨⟨b_Thing_Id, b_Thing_Kind, b_Thing_Colour, b_Thing_Size, b_Thing_Worth⟩, b_Place, b_At, b_Finder⟩) : TFind × TFind) (by simp [nz, nz1, ML_nil, encTFind, encTThing]) rfl
theorem c71_pc (a : TFind) (b : TFind) : PCo Tryd.prog 71 [encTFind a, encTFind b] (Tab.of []) (dB (decide (a = b))) (Tab.of []) := by
  obtain ⟨⟨a_Thing_Id, a_Thing_Kind, a_Thing_Colour, a_Thing_Size, a_Thing_Worth⟩, a_Place, a_At, a_Finder⟩ := a
  obtain ⟨⟨b_Thing_Id, b_Thing_Kind, b_Thing_Colour, b_Thing_Size, b_Thing_Worth⟩, b_Place, b_At, b_Finder⟩ := b
  refine pco_of_run [] (E := ⟨[c95], []⟩) (m := false) (base := 0) (Env.ok_cons c95_ok Env.ok_nil) G_ok mix 300 6 Tryd.func71 (by kernel_rfl) rfl (by kernel_rfl) (by kernel_rfl) rfl ?_
  simp [Tryd.f71]
  all_goals first | omega | (rw [Bool.eq_iff_iff]; simp; omega) | grind
theorem c71_ok : c71.ok Tryd.prog := mkCon_ok fun ⟨a, b⟩ hpre => c71_pc a b
/-- loop.example/g03007/spec.IsFind -/
noncomputable def c66 : Con := mkCon 66 false (α := TFind) (fun x => (fun (f : TFind) => [encTFind f]) x) (fun _ => []) (fun x => (fun (f : TFind) => True) x) (fun x => (fun (f : TFind) => (dB (mIsFind f) : D)) x) (fun x => (fun (f : TFind) => []) x)
@[simp] theorem c66_f : c66.f = 66 := rfl
@[simp] theorem c66_own : c66.own = false := rfl
theorem c66_inj : ∀ u_ v_ : TFind, ((fun x => (fun (f : TFind) => [encTFind f]) x) u_).map nz = ((fun x => (fun (f : TFind) => [encTFind f]) x) v_).map nz → u_ = v_ := by
  intro u_ v_ h
  obtain ⟨⟨f_Thing_Id, f_Thing_Kind, f_Thing_Colour, f_Thing_Size, f_Thing_Worth⟩, f_Place, f_At, f_Finder⟩ := u_
  obtain ⟨⟨f_Thing_Id', f_Thing_Kind', f_Thing_Colour', f_Thing_Size', f_Thing_Worth'⟩, f_Place', f_At', f_Finder'⟩ := v_
  simp [nz_lit, nz1_lit, nz_agg, nz_sl, nz1_sl, encTFind, encTThing] at h
  first | (simp [h]; done) | (obtain ⟨⟩ := h; simp_all; done) | simp_all
@[simp] theorem c66_fn (f_Thing_Id : Int) (f_Thing_Kind : Int) (f_Thing_Colour : Int) (f_Thing_Size : Int) (f_Thing_Worth : Int) (f_Place : Int) (f_At : Int) (f_Finder : Int) : c66.fn [.agg [.lit (.int .i64 f_Thing_Id), .lit (.int .i64 f_Thing_Kind), .lit (.int .i64 f_Thing_Colour), .lit (.int .i64 f_Thing_Size), .lit (.int .i64 f_Thing_Worth), .lit (.int .i64 f_Place), .lit (.int .i64 f_At), .lit (.int .i64 f_Finder)]] [] = some ((fun (f : TFind) => True) ⟨⟨f_Thing_Id, f_Thing_Kind, f_Thing_Colour, f_Thing_Size, f_Thing_Worth⟩, f_Place, f_At, f_Finder⟩, (fun (f : TFind) => (dB (mIsFind f) : D)) ⟨⟨f_Thing_Id, f_Thing_Kind, f_Thing_Colour, f_Thing_Size, f_Thing_Worth⟩, f_Place, f_At, f_Finder⟩, (fun (f : TFind) => []) ⟨⟨f_Thing_Id, f_Thing_Kind, f_Thing_Colour, f_Thing_Size, f_Thing_Worth⟩, f_Place, f_At, f_Finder⟩) :=
  mkCon_fn (fun x y h _ => c66_inj x y h) (⟨⟨f_Thing_Id, f_Thing_Kind, f_Thing_Colour, f_Thing_Size, f_Thing_Worth⟩, f_Place, f_At, f_Finder⟩ : TFind) (by simp [nz, nz1, ML_nil, encTFind, encTThing]) rfl
theorem c66_pc (f : TFind) : PCo Tryd.prog 66 [encTFind f] (Tab.of []) (dB (mIsFind f)) (Tab.of []) := by
  obtain ⟨⟨f_Thing_Id, f_Thing_Kind, f_Thing_Colour, f_Thing_Size, f_Thing_Worth⟩, f_Place, f_At, f_Finder⟩ := f
  refine pco_of_run [] (E := ⟨[c64, c93], []⟩) (m := false) (base := 0) (Env.ok_cons c64_ok (Env.ok_cons c93_ok Env.ok_nil)) G_ok mix 300 6 Tryd.func66 (by kernel_rfl) rfl (by kernel_rfl) (by kernel_rfl) rfl ?_
  simp [Tryd.f66]
  simp [mIsFind]
theorem c66_ok : c66.ok Tryd.prog := mkCon_ok fun f hpre => c66_pc f
/-- loop.example/g03007/impl.findChecks$1 -/
noncomputable def c111 : Con := mkCon 111 false (α := TFind) (fun x => (fun (f : TFind) => [encTFind f]) x) (fun _ => []) (fun x => (fun (f : TFind) => True) x) (fun x => (fun (f : TFind) => (dB (mIsThing f.Thing) : D)) x) (fun x => (fun (f : TFind) => []) x)
@[simp] theorem c111_f : c111.f = 111 := rfl
@[simp] theorem c111_own : c111.own = false := rfl
theorem c111_inj : ∀ u_ v_ : TFind, ((fun x => (fun (f : TFind) => [encTFind f]) x) u_).map nz = ((fun x => (fun (f : TFind) => [encTFind f]) x) v_).map nz → u_ = v_ := by
  intro u_ v_ h
  obtain ⟨⟨f_Thing_Id, f_Thing_Kind, f_Thing_Colour, f_Thing_Size, f_Thing_Worth⟩, f_Place, f_At, f_Finder⟩ := u_
  obtain ⟨⟨f_Thing_Id', f_Thing_Kind', f_Thing_Colour', f_Thing_Size', f_Thing_Worth'⟩, f_Place', f_At', f_Finder'⟩ := v_
  simp [nz_lit, nz1_lit, nz_agg, nz_sl, nz1_sl, encTFind, encTThing] at h
  first | (simp [h]; done) | (obtain ⟨⟩ := h; simp_all; done) | simp_all
@[simp] theorem c111_fn (f_Thing_Id : Int) (f_Thing_Kind : Int) (f_Thing_Colour : Int) (f_Thing_Size : Int) (f_Thing_Worth : Int) (f_Place : Int) (f_At : Int) (f_Finder : Int) : c111.fn [.agg [.lit (.int .i64 f_Thing_Id), .lit (.int .i64 f_Thing_Kind), .lit (.int .i64 f_Thing_Colour), .lit (.int .i64 f_Thing_Size), .lit (.int .i64 f_Thing_Worth), .lit (.int .i64 f_Place), .lit (.int .i64 f_At), .lit (.int .i64 f_Finder)]] [] = some ((fun (f : TFind) => True) ⟨⟨f_Thing_Id, f_Thing_Kind, f_Thing_Colour, f_Thing_Size, f_Thing_Worth⟩, f_Place, f_At, f_Finder⟩, (fun (f : TFind) => (dB (mIsThing f.Thing) : D)) ⟨⟨f_Thing_Id, f_Thing_Kind, f_Thing_Colour, f_Thing_Size, f_Thing_Worth⟩, f_Place, f_At, f_Finder⟩, (fun (f : TFind) => []) ⟨⟨f_Thing_Id, f_Thing_Kind, f_Thing_Colour, f_Thing_Size, f_Thing_Worth⟩, f_Place, f_At, f_Finder⟩) :=
  mkCon_fn (fun x y h _ => c111_inj x y h) (⟨⟨f_Thing_Id, f_Thing_Kind, f_Thing_Colour, f_Thing_Size, f_Thing_Worth⟩, f_Place, f_At, f_Finder⟩ : TFind) (by simp [nz, nz1, ML_nil, encTFind, encTThing]) rfl
theorem c111_pc (f : TFind) : PCo Tryd.prog 111 [encTFind f] (Tab.of []) (dB (mIsThing f.Thing)) (Tab.of []) := by
  obtain ⟨⟨f_Thing_Id, f_Thing_Kind, f_Thing_Colour, f_Thing_Size, f_Thing_Worth⟩, f_Place, f_At, f_Finder⟩ := f
  refine pco_of_run [] (E := ⟨[c112], []⟩) (m := false) (base := 0) (Env.ok_cons c112_ok Env.ok_nil) G_ok mix 300 6 Tryd.func111 (by kernel_rfl) rfl (by kernel_rfl) (by kernel_rfl) rfl ?_
  simp [Tryd.f111]
  all_goals first | omega | (rw [Bool.eq_iff_iff]; simp; omega) | grind
theorem c111_ok : c111.ok Tryd.prog := mkCon_ok fun f hpre => c111_pc f
/-- loop.example/g03007/impl.findChecks$2 -/
noncomputable def c113 : Con := mkCon 113 false (α := TFind) (fun x => (fun (f : TFind) => [encTFind f]) x) (fun _ => []) (fun x => (fun (f : TFind) => True) x) (fun x => (fun (f : TFind) => (dB (mIn f.Place 1 30) : D)) x) (fun x => (fun (f : TFind) => []) x)
@[simp] theorem c113_f : c113.f = 113 := rfl
@[simp] theorem c113_own : c113.own = false := rfl
theorem c113_inj : ∀ u_ v_ : TFind, ((fun x => (fun (f : TFind) => [encTFind f]) x) u_).map nz = ((fun x => (fun (f : TFind) => [encTFind f]) x) v_).map nz → u_ = v_ := by
  intro u_ v_ h
  obtain ⟨⟨f_Thing_Id, f_Thing_Kind, f_Thing_Colour, f_Thing_Size, f_Thing_Worth⟩, f_Place, f_At, f_Finder⟩ := u_
  obtain ⟨⟨f_Thing_Id', f_Thing_Kind', f_Thing_Colour', f_Thing_Size', f_Thing_Worth'⟩, f_Place', f_At', f_Finder'⟩ := v_
  simp [nz_lit, nz1_lit, nz_agg, nz_sl, nz1_sl, encTFind, encTThing] at h
  first | (simp [h]; done) | (obtain ⟨⟩ := h; simp_all; done) | simp_all
@[simp] theorem c113_fn (f_Thing_Id : Int) (f_Thing_Kind : Int) (f_Thing_Colour : Int) (f_Thing_Size : Int) (f_Thing_Worth : Int) (f_Place : Int) (f_At : Int) (f_Finder : Int) : c113.fn [.agg [.lit (.int .i64 f_Thing_Id), .lit (.int .i64 f_Thing_Kind), .lit (.int .i64 f_Thing_Colour), .lit (.int .i64 f_Thing_Size), .lit (.int .i64 f_Thing_Worth), .lit (.int .i64 f_Place), .lit (.int .i64 f_At), .lit (.int .i64 f_Finder)]] [] = some ((fun (f : TFind) => True) ⟨⟨f_Thing_Id, f_Thing_Kind, f_Thing_Colour, f_Thing_Size, f_Thing_Worth⟩, f_Place, f_At, f_Finder⟩, (fun (f : TFind) => (dB (mIn f.Place 1 30) : D)) ⟨⟨f_Thing_Id, f_Thing_Kind, f_Thing_Colour, f_Thing_Size, f_Thing_Worth⟩, f_Place, f_At, f_Finder⟩, (fun (f : TFind) => []) ⟨⟨f_Thing_Id, f_Thing_Kind, f_Thing_Colour, f_Thing_Size, f_Thing_Worth⟩, f_Place, f_At, f_Finder⟩) :=
  mkCon_fn (fun x y h _ => c113_inj x y h) (⟨⟨f_Thing_Id, f_Thing_Kind, f_Thing_Colour, f_Thing_Size, f_Thing_Worth⟩, f_Place, f_At, f_Finder⟩ : TFind) (by simp [nz, nz1, ML_nil, encTFind, encTThing]) rfl
theorem c113_pc (f : TFind) : PCo Tryd.prog 113 [encTFind f] (Tab.of []) (dB (mIn f.Place 1 30)) (Tab.of []) := by
  obtain ⟨⟨f_Thing_Id, f_Thing_Kind, f_Thing_Colour, f_Thing_Size, f_Thing_Worth⟩, f_Place, f_At, f_Finder⟩ := f
  refine pco_of_run [] (E := ⟨[c65], []⟩) (m := false) (base := 0) (Env.ok_cons c65_ok Env.ok_nil) G_ok mix 300 6 Tryd.func113 (by kernel_rfl) rfl (by kernel_rfl) (by kernel_rfl) rfl ?_
  simp [Tryd.f113]
  all_goals first | omega | (rw [Bool.eq_iff_iff]; simp; omega) | grind
theorem c113_ok : c113.ok Tryd.prog := mkCon_ok fun f hpre => c113_pc f
/-- loop.example/g03007/impl.findChecks$3 -/
noncomputable def c114 : Con := mkCon 114 false (α := TFind) (fun x => (fun (f : TFind) => [encTFind f]) x) (fun _ => []) (fun x => (fun (f : TFind) => True) x) (fun x => (fun (f : TFind) => (dB (mIn f.At 0 100000) : D)) x) (fun x => (fun (f : TFind) => []) x)
@[simp] theorem c114_f : c114.f = 114 := rfl
@[simp] theorem c114_own : c114.own = false := rfl
theorem c114_inj : ∀ u_ v_ : TFind, ((fun x => (fun (f : TFind) => [encTFind f]) x) u_).map nz = ((fun x => (fun (f : TFind) => [encTFind f]) x) v_).map nz → u_ = v_ := by
  intro u_ v_ h
  obtain ⟨⟨f_Thing_Id, f_Thing_Kind, f_Thing_Colour, f_Thing_Size, f_Thing_Worth⟩, f_Place, f_At, f_Finder⟩ := u_
  obtain ⟨⟨f_Thing_Id', f_Thing_Kind', f_Thing_Colour', f_Thing_Size', f_Thing_Worth'⟩, f_Place', f_At', f_Finder'⟩ := v_
  simp [nz_lit, nz1_lit, nz_agg, nz_sl, nz1_sl, encTFind, encTThing] at h
  first | (simp [h]; done) | (obtain ⟨⟩ := h; simp_all; done) | simp_all
@[simp] theorem c114_fn (f_Thing_Id : Int) (f_Thing_Kind : Int) (f_Thing_Colour : Int) (f_Thing_Size : Int) (f_Thing_Worth : Int) (f_Place : Int) (f_At : Int) (f_Finder : Int) : c114.fn [.agg [.lit (.int .i64 f_Thing_Id), .lit (.int .i64 f_Thing_Kind), .lit (.int .i64 f_Thing_Colour), .lit (.int .i64 f_Thing_Size), .lit (.int .i64 f_Thing_Worth), .lit (.int .i64 f_Place), .lit (.int .i64 f_At), .lit (.int .i64 f_Finder)]] [] = some ((fun (f : TFind) => True) ⟨⟨f_Thing_Id, f_Thing_Kind, f_Thing_Colour, f_Thing_Size, f_Thing_Worth⟩, f_Place, f_At, f_Finder⟩, (fun (f : TFind) => (dB (mIn f.At 0 100000) : D)) ⟨⟨f_Thing_Id, f_Thing_Kind, f_Thing_Colour, f_Thing_Size, f_Thing_Worth⟩, f_Place, f_At, f_Finder⟩, (fun (f : TFind) => []) ⟨⟨f_Thing_Id, f_Thing_Kind, f_Thing_Colour, f_Thing_Size, f_Thing_Worth⟩, f_Place, f_At, f_Finder⟩) :=
  mkCon_fn (fun x y h _ => c114_inj x y h) (⟨⟨f_Thing_Id, f_Thing_Kind, f_Thing_Colour, f_Thing_Size, f_Thing_Worth⟩, f_Place, f_At, f_Finder⟩ : TFind) (by simp [nz, nz1, ML_nil, encTFind, encTThing]) rfl
theorem c114_pc (f : TFind) : PCo Tryd.prog 114 [encTFind f] (Tab.of []) (dB (mIn f.At 0 100000)) (Tab.of []) := by
  obtain ⟨⟨f_Thing_Id, f_Thing_Kind, f_Thing_Colour, f_Thing_Size, f_Thing_Worth⟩, f_Place, f_At, f_Finder⟩ := f
  refine pco_of_run [] (E := ⟨[c65], []⟩) (m := false) (base := 0) (Env.ok_cons c65_ok Env.ok_nil) G_ok mix 300 6 Tryd.func114 (by kernel_rfl) rfl (by kernel_rfl) (by kernel_rfl) rfl ?_
  simp [Tryd.f114]
  all_goals first | omega | (rw [Bool.eq_iff_iff]; simp; omega) | grind
theorem c114_ok : c114.ok Tryd.prog := mkCon_ok fun f hpre => c114_pc f
/-- loop.example/g03007/impl.findChecks$4 -/
noncomputable def c115 : Con := mkCon 115 false (α := TFind) (fun x => (fun (f : TFind) => [encTFind f]) x) (fun _ => []) (fun x => (fun (f : TFind) => True) x) (fun x => (fun (f : TFind) => (dB (mIn f.Finder 0 999) : D)) x) (fun x => (fun (f : TFind) => []) x)
@[simp] theorem c115_f : c115.f = 115 := rfl
@[simp] theorem c115_own : c115.own = false := rfl
theorem c115_inj : ∀ u_ v_ : TFind, ((fun x => (fun (f : TFind) => [encTFind f]) x) u_).map nz = ((fun x => (fun (f : TFind) => [encTFind f]) x) v_).map nz → u_ = v_ := by
  intro u_ v_ h
  obtain ⟨⟨f_Thing_Id, f_Thing_Kind, f_Thing_Colour, f_Thing_Size, f_Thing_Worth⟩, f_Place, f_At, f_Finder⟩ := u_
  obtain ⟨⟨f_Thing_Id', f_Thing_Kind', f_Thing_Colour', f_Thing_Size', f_Thing_Worth'⟩, f_Place', f_At', f_Finder'⟩ := v_
  simp [nz_lit, nz1_lit, nz_agg, nz_sl, nz1_sl, encTFind, encTThing] at h
  first | (simp [h]; done) | (obtain ⟨⟩ := h; simp_all; done) | simp_all
@[simp] theorem c115_fn (f_Thing_Id : Int) (f_Thing_Kind : Int) (f_Thing_Colour : Int) (f_Thing_Size : Int) (f_Thing_Worth : Int) (f_Place : Int) (f_At : Int) (f_Finder : Int) : c115.fn [.agg [.lit (.int .i64 f_Thing_Id), .lit (.int .i64 f_Thing_Kind), .lit (.int .i64 f_Thing_Colour), .lit (.int .i64 f_Thing_Size), .lit (.int .i64 f_Thing_Worth), .lit (.int .i64 f_Place), .lit (.int .i64 f_At), .lit (.int .i64 f_Finder)]] [] = some ((fun (f : TFind) => True) ⟨⟨f_Thing_Id, f_Thing_Kind, f_Thing_Colour, f_Thing_Size, f_Thing_Worth⟩, f_Place, f_At, f_Finder⟩, (fun (f : TFind) => (dB (mIn f.Finder 0 999) : D)) ⟨⟨f_Thing_Id, f_Thing_Kind, f_Thing_Colour, f_Thing_Size, f_Thing_Worth⟩, f_Place, f_At, f_Finder⟩, (fun (f : TFind) => []) ⟨⟨f_Thing_Id, f_Thing_Kind, f_Thing_Colour, f_Thing_Size, f_Thing_Worth⟩, f_Place, f_At, f_Finder⟩) :=
  mkCon_fn (fun x y h _ => c115_inj x y h) (⟨⟨f_Thing_Id, f_Thing_Kind, f_Thing_Colour, f_Thing_Size, f_Thing_Worth⟩, f_Place, f_At, f_Finder⟩ : TFind) (by simp [nz, nz1, ML_nil, encTFind, encTThing]) rfl
theorem c115_pc (f : TFind) : PCo Tryd.prog 115 [encTFind f] (Tab.of []) (dB (mIn f.Finder 0 999)) (Tab.of []) := by
  obtain ⟨⟨f_Thing_Id, f_Thing_Kind, f_Thing_Colour, f_Thing_Size, f_Thing_Worth⟩, f_Place, f_At, f_Finder⟩ := f
  refine pco_of_run [] (E := ⟨[c65], []⟩) (m := false) (base := 0) (Env.ok_cons c65_ok Env.ok_nil) G_ok mix 300 6 Tryd.func115 (by kernel_rfl) rfl (by kernel_rfl) (by kernel_rfl) rfl ?_
  simp [Tryd.f115]
  all_goals first | omega | (rw [Bool.eq_iff_iff]; simp; omega) | grind
theorem c115_ok : c115.ok Tryd.prog := mkCon_ok fun f hpre => c115_pc f
/-- loop.example/g03007/impl.findChecks -/
noncomputable def c94 : Con := mkCon 94 false (α := Unit) (fun _ => []) (fun _ => []) (fun _ => True) (fun _ => (.agg [.fn (.func 111) [] [], .fn (.func 113) [] [], .fn (.func 114) [] [], .fn (.func 115) [] []] : D)) (fun _ => [])
@[simp] theorem c94_f : c94.f = 94 := rfl
@[simp] theorem c94_own : c94.own = false := rfl
theorem c94_inj : ∀ x y : Unit, ((fun _ => []) x).map nz = ((fun _ => []) y).map nz → x = y := fun _ _ _ => rfl
@[simp] theorem c94_fn : c94.fn [] [] = some (True, (.agg [.fn (.func 111) [] [], .fn (.func 113) [] [], .fn (.func 114) [] [], .fn (.func 115) [] []] : D), []) :=
  mkCon_fn (fun x y h _ => c94_inj x y h) (() : Unit) (by simp [nz, nz1, ML_nil]) rfl
theorem c94_pc  : PCo Tryd.prog 94 [] (Tab.of []) (.agg [.fn (.func 111) [] [], .fn (.func 113) [] [], .fn (.func 114) [] [], .fn (.func 115) [] []]) (Tab.of []) := by
  refine pco_of_run [] (E := ⟨[c111, c113, c114, c115], []⟩) (m := false) (base := 0) (Env.ok_cons c111_ok (Env.ok_cons c113_ok (Env.ok_cons c114_ok (Env.ok_cons c115_ok Env.ok_nil)))) G_ok mix 300 6 Tryd.func94 (by kernel_rfl) rfl (by kernel_rfl) (by kernel_rfl) rfl ?_
  simp [Tryd.f94]
  all_goals first | omega | (rw [Bool.eq_iff_iff]; simp; omega) | grind
theorem c94_ok : c94.ok Tryd.prog := mkCon_ok fun _ hpre => c94_pc 
/-- loop.example/g03007/impl.IsFind -/
noncomputable def c68 : Con := mkCon 68 false (α := TFind) (fun x => (fun (f : TFind) => [encTFind f]) x) (fun _ => []) (fun x => (fun (f : TFind) => True) x) (fun x => (fun (f : TFind) => (dB (mIsFind f) : D)) x) (fun x => (fun (f : TFind) => []) x)
@[simp] theorem c68_f : c68.f = 68 := rfl
@[simp] theorem c68_own : c68.own = false := rfl
theorem c68_inj : ∀ u_ v_ : TFind, ((fun x => (fun (f : TFind) => [encTFind f]) x) u_).map nz = ((fun x => (fun (f : TFind) => [encTFind f]) x) v_).map nz → u_ = v_ := by
  intro u_ v_ h
  obtain ⟨⟨f_Thing_Id, f_Thing_Kind, f_Thing_Colour, f_Thing_Size, f_Thing_Worth⟩, f_Place, f_At, f_Finder⟩ := u_
  obtain ⟨⟨f_Thing_Id', f_Thing_Kind', f_Thing_Colour', f_Thing_Size', f_Thing_Worth'⟩, f_Place', f_At', f_Finder'⟩ := v_
  simp [nz_lit, nz1_lit, nz_agg, nz_sl, nz1_sl, encTFind, encTThing] at h
  first | (simp [h]; done) | (obtain ⟨⟩ := h; simp_all; done) | simp_all
@[simp] theorem c68_fn (f_Thing_Id : Int) (f_Thing_Kind : Int) (f_Thing_Colour : Int) (f_Thing_Size : Int) (f_Thing_Worth : Int) (f_Place : Int) (f_At : Int) (f_Finder : Int) : c68.fn [.agg [.lit (.int .i64 f_Thing_Id), .lit (.int .i64 f_Thing_Kind), .lit (.int .i64 f_Thing_Colour), .lit (.int .i64 f_Thing_Size), .lit (.int .i64 f_Thing_Worth), .lit (.int .i64 f_Place), .lit (.int .i64 f_At), .lit (.int .i64 f_Finder)]] [] = some ((fun (f : TFind) => True) ⟨⟨f_Thing_Id, f_Thing_Kind, f_Thing_Colour, f_Thing_Size, f_Thing_Worth⟩, f_Place, f_At, f_Finder⟩, (fun (f : TFind) => (dB (mIsFind f) : D)) ⟨⟨f_Thing_Id, f_Thing_Kind, f_Thing_Colour, f_Thing_Size, f_Thing_Worth⟩, f_Place, f_At, f_Finder⟩, (fun (f : TFind) => []) ⟨⟨f_Thing_Id, f_Thing_Kind, f_Thing_Colour, f_Thing_Size, f_Thing_Worth⟩, f_Place, f_At, f_Finder⟩) :=
  mkCon_fn (fun x y h _ => c68_inj x y h) (⟨⟨f_Thing_Id, f_Thing_Kind, f_Thing_Colour, f_Thing_Size, f_Thing_Worth⟩, f_Place, f_At, f_Finder⟩ : TFind) (by simp [nz, nz1, ML_nil, encTFind, encTThing]) rfl
theorem c68_pc (f : TFind) : PCo Tryd.prog 68 [encTFind f] (Tab.of []) (dB (mIsFind f)) (Tab.of []) := by
  obtain ⟨⟨f_Thing_Id, f_Thing_Kind, f_Thing_Colour, f_Thing_Size, f_Thing_Worth⟩, f_Place, f_At, f_Finder⟩ := f
  refine pco_of_run [] (E := ⟨[c94, c111, c113, c114, c115], []⟩) (m := false) (base := 0) (Env.ok_cons c94_ok (Env.ok_cons c111_ok (Env.ok_cons c113_ok (Env.ok_cons c114_ok (Env.ok_cons c115_ok Env.ok_nil))))) G_ok mix 300 6 Tryd.func68 (by kernel_rfl) rfl (by kernel_rfl) (by kernel_rfl) rfl ?_
  simp [Tryd.f68]
  refine loop_unroll 400 ?_
  simp [mIsFind]
  grind
theorem c68_ok : c68.ok Tryd.prog := mkCon_ok fun f hpre => c68_pc f
@[simp] def nFind (f : TFind) : Int := f.Thing.Id
def mAreFinds (l : List TFind) : Bool := decide (l.length ≤ 20) && ascBy mIsFind nFind none l
def mFindThing (l : List TFind) (n : Int) : Int := indexBy (wantN nFind n) 0 l
/-- loop.example/g03007/laws.szFindS -/
noncomputable def c23 : Con := mkCon 23 false (α := (List TFind) × Int) (fun x => (fun (l : List TFind) (left : Int) => [encLTFind l, dI left]) x.1 x.2) (fun _ => []) (fun x => (fun (l : List TFind) (left : Int) => l.length ≤ maxLen ∧ 0 ≤ left ∧ left ≤ 1099511627776) x.1 x.2) (fun x => (fun (l : List TFind) (left : Int) => (dI (if left - l.length < 0 then -1 else left - l.length) : D)) x.1 x.2) (fun x => (fun (l : List TFind) (left : Int) => []) x.1 x.2)
@[simp] theorem c23_f : c23.f = 23 := rfl
@[simp] theorem c23_own : c23.own = false := rfl
theorem c23_inj : ∀ u_ v_ : (List TFind) × Int, ((fun x => (fun (l : List TFind) (left : Int) => [encLTFind l, dI left]) x.1 x.2) u_).map nz = ((fun x => (fun (l : List TFind) (left : Int) => [encLTFind l, dI left]) x.1 x.2) v_).map nz → u_ = v_ := by
  intro u_ v_ h
  obtain ⟨l, left⟩ := u_
  obtain ⟨l', left'⟩ := v_
  simp [nz_lit, nz1_lit, nz_agg, nz_sl, nz1_sl, encLTFind] at h
  first | (simp [h]; done) | (obtain ⟨⟩ := h; simp_all; done) | simp_all
@[simp] theorem c23_fn (l : List TFind) (left : Int) : c23.fn [.sl false 8 yTFind (ML encTFind l), .lit (.int .i64 left)] [] = some ((fun (l : List TFind) (left : Int) => l.length ≤ maxLen ∧ 0 ≤ left ∧ left ≤ 1099511627776) l left, (fun (l : List TFind) (left : Int) => (dI (if left - l.length < 0 then -1 else left - l.length) : D)) l left, (fun (l : List TFind) (left : Int) => []) l left) :=
  mkCon_fn (fun x y h _ => c23_inj x y h) ((l, left) : (List TFind) × Int) (by simp [nz, nz1, ML_nil, encLTFind]) rfl
@[simp] theorem c23_fn1 (s_l : Nat) (z_l : D) (left : Int) : c23.fn [.sl false s_l z_l [], .lit (.int .i64 left)] [] = some ((fun (l : List TFind) (left : Int) => l.length ≤ maxLen ∧ 0 ≤ left ∧ left ≤ 1099511627776) [] left, (fun (l : List TFind) (left : Int) => (dI (if left - l.length < 0 then -1 else left - l.length) : D)) [] left, (fun (l : List TFind) (left : Int) => []) [] left) :=
  mkCon_fn (fun x y h _ => c23_inj x y h) (([], left) : (List TFind) × Int) (by simp [nz, nz1, ML_nil, encLTFind]) rfl
theorem c23_pc (l : List TFind) (left : Int) (hpre : l.length ≤ maxLen ∧ 0 ≤ left ∧ left ≤ 1099511627776) : PCo Tryd.prog 23 [encLTFind l, dI left] (Tab.of []) (dI (if left - l.length < 0 then -1 else left - l.length)) (Tab.of []) := by
  refine pco_of_run [] (E := ⟨[], []⟩) (m := false) (base := 0) Env.ok_nil G_ok mix 300 6 Tryd.func23 (by kernel_rfl) rfl (by kernel_rfl) (by kernel_rfl) rfl ?_
  simp [Tryd.f23]
  simp [maxLen] at hpre
  all_goals omega
theorem c23_ok : c23.ok Tryd.prog := mkCon_ok fun ⟨l, left⟩ hpre => c23_pc l left hpre
/-- loop.example/g03007/laws.toFindS -/
noncomputable def c25 : Con := mkCon 25 false (α := (List TFind)) (fun x => (fun (l : List TFind) => [encLTFind l]) x) (fun _ => []) (fun x => (fun (l : List TFind) => l.length ≤ 1099511627776) x) (fun x => (fun (l : List TFind) => (.own (0, 1) 8 0 l.length : D)) x) (fun x => (fun (l : List TFind) => [((0, 1), .arr false 8 yTFind (ML encTFind l))]) x)
@[simp] theorem c25_f : c25.f = 25 := rfl
@[simp] theorem c25_own : c25.own = false := rfl
theorem c25_inj : ∀ u_ v_ : (List TFind), ((fun x => (fun (l : List TFind) => [encLTFind l]) x) u_).map nz = ((fun x => (fun (l : List TFind) => [encLTFind l]) x) v_).map nz → u_ = v_ := by
  intro u_ v_ h
  obtain l := u_
  obtain l' := v_
  simp [nz_lit, nz1_lit, nz_agg, nz_sl, nz1_sl, encLTFind] at h
  first | (simp [h]; done) | (obtain ⟨⟩ := h; simp_all; done) | simp_all
@[simp] theorem c25_fn (l : List TFind) : c25.fn [.sl false 8 yTFind (ML encTFind l)] [] = some ((fun (l : List TFind) => l.length ≤ 1099511627776) l, (fun (l : List TFind) => (.own (0, 1) 8 0 l.length : D)) l, (fun (l : List TFind) => [((0, 1), .arr false 8 yTFind (ML encTFind l))]) l) :=
  mkCon_fn (fun x y h _ => c25_inj x y h) (l : (List TFind)) (by simp [nz, nz1, ML_nil, encLTFind]) rfl
@[simp] theorem c25_fn1 (s_l : Nat) (z_l : D) : c25.fn [.sl false s_l z_l []] [] = some ((fun (l : List TFind) => l.length ≤ 1099511627776) [], (fun (l : List TFind) => (.own (0, 1) 8 0 l.length : D)) [], (fun (l : List TFind) => [((0, 1), .arr false 8 yTFind (ML encTFind l))]) []) :=
  mkCon_fn (fun x y h _ => c25_inj x y h) ([] : (List TFind)) (by simp [nz, nz1, ML_nil, encLTFind]) rfl
theorem c25_pc (l : List TFind) (hpre : l.length ≤ 1099511627776) : PCo Tryd.prog 25 [encLTFind l] (Tab.of []) (.own (0, 1) 8 0 l.length) (Tab.of [((0, 1), .arr false 8 yTFind (ML encTFind l))]) := by
  refine pco_of_run [] (E := ⟨[c19], []⟩) (m := false) (base := 0) (Env.ok_cons c19_ok Env.ok_nil) G_ok mix 300 6 Tryd.func25 (by kernel_rfl) rfl (by kernel_rfl) (by kernel_rfl) rfl ?_
  simp [Tryd.f25]
  refine ⟨by omega, ?_⟩
  refine loop_inv (fun p : Nat => p ≤ l.length) (fun p => [(0, encLTFind l), (3, .own (0, 1) 8 0 l.length), (4, dI p)]) (fun p => [((0, 1), .arr false 8 yTFind (ML encTFind (l.take p ++ List.replicate (l.length - p) ⟨⟨0, 0, 0, 0, 0⟩, 0, 0, 0⟩)))]) 2 (fun p => l.length - p) 0 100 (by simp) (by simp) (by first | (simp; done) | (simp; simp only [ML, List.map_replicate]; rfl)) ?_
  intro p hp
  simp
  refine ⟨fun hlt => ⟨by omega, by omega, Again.mk (p + 1) (by omega) (by simp [fill_step hlt]) (by first | omega | (simp; omega))⟩, fun hge => ?_⟩
  have : p = l.length := by omega
  subst this
  simp
theorem c25_ok : c25.ok Tryd.prog := mkCon_ok fun l hpre => c25_pc l hpre
/-- loop.example/g03007/laws.eqFindS -/
noncomputable def c28 : Con := mkCon 28 false (α := (List TFind) × (List TFind)) (fun x => (fun (a : List TFind) (b : List TFind) => [encLTFind a, encLTFind b]) x.1 x.2) (fun _ => []) (fun x => (fun (a : List TFind) (b : List TFind) => a.length ≤ 1099511627776 ∧ b.length ≤ 1099511627776) x.1 x.2) (fun x => (fun (a : List TFind) (b : List TFind) => (dB (decide (a = b)) : D)) x.1 x.2) (fun x => (fun (a : List TFind) (b : List TFind) => []) x.1 x.2)
@[simp] theorem c28_f : c28.f = 28 := rfl
@[simp] theorem c28_own : c28.own = false := rfl
theorem c28_inj : ∀ u_ v_ : (List TFind) × (List TFind), ((fun x => (fun (a : List TFind) (b : List TFind) => [encLTFind a, encLTFind b]) x.1 x.2) u_).map nz = ((fun x => (fun (a : List TFind) (b : List TFind) => [encLTFind a, encLTFind b]) x.1 x.2) v_).map nz → u_ = v_ := by
  intro u_ v_ h
  obtain ⟨a, b⟩ := u_
  obtain ⟨a', b'⟩ := v_
  simp [nz_lit, nz1_lit, nz_agg, nz_sl, nz1_sl, encLTFind] at h
  first | (simp [h]; done) | (obtain ⟨⟩ := h; simp_all; done) | simp_all
@[simp] theorem c28_fn (a : List TFind) (b : List TFind) : c28.fn [.sl false 8 yTFind (ML encTFind a), .sl false 8 yTFind (ML encTFind b)] [] = some ((fun (a : List TFind) (b : List TFind) => a.length ≤ 1099511627776 ∧ b.length ≤ 1099511627776) a b, (fun (a : List TFind) (b : List TFind) => (dB (decide (a = b)) : D)) a b, (fun (a : List TFind) (b : List TFind) => []) a b) :=
  mkCon_fn (fun x y h _ => c28_inj x y h) ((a, b) : (List TFind) × (List TFind)) (by simp [nz, nz1, ML_nil, encLTFind]) rfl
@[simp] theorem c28_fn1 (s_a : Nat) (z_a : D) (b : List TFind) : c28.fn [.sl false s_a z_a [], .sl false 8 yTFind (ML encTFind b)] [] = some ((fun (a : List TFind) (b : List TFind) => a.length ≤ 1099511627776 ∧ b.length ≤ 1099511627776) [] b, (fun (a : List TFind) (b : List TFind) => (dB (decide (a = b)) : D)) [] b, (fun (a : List TFind) (b : List TFind) => []) [] b) :=
  mkCon_fn (fun x y h _ => c28_inj x y h) (([], b) : (List TFind) × (List TFind)) (by simp [nz, nz1, ML_nil, encLTFind]) rfl
@[simp] theorem c28_fn2 (a : List TFind) (s_b : Nat) (z_b : D) : c28.fn [.sl false 8 yTFind (ML encTFind a), .sl false s_b z_b []] [] = some ((fun (a : List TFind) (b : List TFind) => a.length ≤ 1099511627776 ∧ b.length ≤ 1099511627776) a [], (fun (a : List TFind) (b : List TFind) => (dB (decide (a = b)) : D)) a [], (fun (a : List TFind) (b : List TFind) => []) a []) :=
  mkCon_fn (fun x y h _ => c28_inj x y h) ((a, []) : (List TFind) × (List TFind)) (by simp [nz, nz1, ML_nil, encLTFind]) rfl
@[simp] theorem c28_fn3 (s_a : Nat) (z_a : D) (s_b : Nat) (z_b : D) : c28.fn [.sl false s_a z_a [], .sl false s_b z_b []] [] = some ((fun (a : List TFind) (b : List TFind) => a.length ≤ 1099511627776 ∧ b.length ≤ 1099511627776) [] [], (fun (a : List TFind) (b : List TFind) => (dB (decide (a = b)) : D)) [] [], (fun (a : List TFind) (b : List TFind) => []) [] []) :=
  mkCon_fn (fun x y h _ => c28_inj x y h) (([], []) : (List TFind) × (List TFind)) (by simp [nz, nz1, ML_nil, encLTFind]) rfl
theorem c28_pc (a : List TFind) (b : List TFind) (hpre : a.length ≤ 1099511627776 ∧ b.length ≤ 1099511627776) : PCo Tryd.prog 28 [encLTFind a, encLTFind b] (Tab.of []) (dB (decide (a = b))) (Tab.of []) := by
  refine pco_of_run [] (E := ⟨[c71], []⟩) (m := false) (base := 0) (Env.ok_cons c71_ok Env.ok_nil) G_ok mix 300 6 Tryd.func28 (by kernel_rfl) rfl (by kernel_rfl) (by kernel_rfl) rfl ?_
  simp [Tryd.f28]
  obtain ⟨pre1, pre2⟩ := hpre
  refine ⟨fun h => ?_, fun h => by intro e; subst e; exact absurd rfl h⟩
  refine loop_inv (fun p : Nat => p ≤ a.length ∧ a.take p = b.take p) (fun p => [(0, encLTFind a), (1, encLTFind b), (5, dI p)]) (fun _ => []) 1 (fun p => a.length - p) 0 100 (by simp) (by simp) (by simp) ?_
  intro p ⟨hp, hi⟩
  simp
  refine ⟨fun hlt => ⟨by omega, fun h2 => ⟨by omega, Again.mk (p + 1) ⟨by omega, take_eq_step hi (by omega) (by omega) h2⟩ (by simp) (by first | omega | (simp; omega))⟩, fun h2 => by intro e; subst e; exact absurd rfl h2⟩, fun hge => ?_⟩
  exact take_eq_full hi (by omega) (by omega)
theorem c28_ok : c28.ok Tryd.prog := mkCon_ok fun ⟨a, b⟩ hpre => c28_pc a b hpre
abbrev mk_TFind : Int → TFind := fun n => ⟨⟨n, n + 1, n + 2, n + 3, n + 4⟩, n + 5, n + 6, n + 7⟩
/-- loop.example/g03007/laws.markFindS -/
noncomputable def c29 : Con := mkCon 29 true (α := (List TFind) × Int) (fun x => (fun (l : List TFind) (k : Int) => ([.own (0, 0) 8 0 l.length, dI k] : List D)) x.1 x.2) (fun x => (fun (l : List TFind) (k : Int) => ([((0, 0), .arr false 8 yTFind (ML encTFind l))] : List (Nm × OO))) x.1 x.2) (fun x => (fun (l : List TFind) (k : Int) => l.length ≤ 1099511627776 ∧ 0 ≤ k ∧ k ≤ 1152921504606846976) x.1 x.2) (fun x => (fun (l : List TFind) (k : Int) => (dI (k + 8 * l.length) : D)) x.1 x.2) (fun x => (fun (l : List TFind) (k : Int) => ([((0, 0), .arr false 8 yTFind (ML encTFind (mkL mk_TFind 8 k l.length)))] : List (Nm × OO))) x.1 x.2)
@[simp] theorem c29_f : c29.f = 29 := rfl
@[simp] theorem c29_own : c29.own = true := rfl
theorem c29_inj : ∀ u_ v_ : (List TFind) × Int, ((fun x => (fun (l : List TFind) (k : Int) => ([.own (0, 0) 8 0 l.length, dI k] : List D)) x.1 x.2) u_).map nz = ((fun x => (fun (l : List TFind) (k : Int) => ([.own (0, 0) 8 0 l.length, dI k] : List D)) x.1 x.2) v_).map nz → (fun x => (fun (l : List TFind) (k : Int) => ([((0, 0), .arr false 8 yTFind (ML encTFind l))] : List (Nm × OO))) x.1 x.2) u_ = (fun x => (fun (l : List TFind) (k : Int) => ([((0, 0), .arr false 8 yTFind (ML encTFind l))] : List (Nm × OO))) x.1 x.2) v_ → u_ = v_ := by
  intro u_ v_ h h2_
  obtain ⟨l, k⟩ := u_
  obtain ⟨l', k'⟩ := v_
  simp [nz_lit, nz1_lit, nz_agg, nz_sl, nz1_sl, nz_sx, nz_el, nz1_el, nz_own, nz1_own, nz_ptr, nz_fn, nz_iface] at h h2_
  first | (simp [h, h2_]; done) | (obtain ⟨h3_, h4_⟩ := List.append_inj h2_ h.1; simp_all; done) | simp_all | grind
@[simp] theorem c29_fn (l : List TFind) (k : Int) : c29.fn ([.own (0, 0) 8 0 l.length, dI k]) ([((0, 0), .arr false 8 yTFind (ML encTFind l))]) = some (l.length ≤ 1099511627776 ∧ 0 ≤ k ∧ k ≤ 1152921504606846976, dI (k + 8 * l.length), [((0, 0), .arr false 8 yTFind (ML encTFind (mkL mk_TFind 8 k l.length)))]) :=
  mkCon_fn c29_inj ((l, k) : (List TFind) × Int) rfl rfl
theorem c29_pc (l : List TFind) (k : Int) (hpre : l.length ≤ 1099511627776 ∧ 0 ≤ k ∧ k ≤ 1152921504606846976) : PCo Tryd.prog 29 ([.own (0, 0) 8 0 l.length, dI k]) (Tab.of ([((0, 0), .arr false 8 yTFind (ML encTFind l))])) (dI (k + 8 * l.length)) (Tab.of ([((0, 0), .arr false 8 yTFind (ML encTFind (mkL mk_TFind 8 k l.length)))])) := by
  refine pco_of_run [] (E := ⟨[], []⟩) (m := false) (base := 0) Env.ok_nil G_ok mix 300 6 Tryd.func29 (by kernel_rfl) rfl (by kernel_rfl) (by kernel_rfl) rfl ?_
  simp [Tryd.f29]
  obtain ⟨pre1, pre2, pre3⟩ := hpre
  refine loop_inv (fun p : Nat => p ≤ l.length) (fun p => [(0, .own (0, 0) 8 0 l.length), (1, dI (k + 8 * p)), (5, dI p)]) (fun p => [((0, 0), .arr false 8 yTFind (ML encTFind (mkL mk_TFind 8 k p ++ l.drop p)))]) 2 (fun p => l.length - p) 0 100 (by simp) (by simp) (by simp) ?_
  intro p hp
  simp
  have hs : ∀ x, x = mk_TFind (k + 8 * (p : Int)) → p < l.length → mkL mk_TFind 8 k p ++ (l.drop p).set 0 x = mkL mk_TFind 8 k (p + 1) ++ l.drop (p + 1) := fun x hx hlt => mark_step0 hlt hx
  refine ⟨fun hlt => ?_, fun hge => ?_⟩
  · repeat' (first | omega | refine And.intro ?_ ?_ | intro _)
    all_goals refine Again.mk (p + 1) (by omega) ?_ (by first | omega | (simp; omega))
    all_goals (rw [hs _ (by simp [mark_get0 hlt, mark_get hlt]; first | done | omega) hlt]; simp; omega)
  have : p = l.length := by omega
  subst this
  simp
  trace_state
theorem c29_ok : c29.ok Tryd.prog := mkCon_ok fun ⟨l, k⟩ hpre => c29_pc l k hpre
end Go.Proofs.YtobofamoagbacaaDoor
